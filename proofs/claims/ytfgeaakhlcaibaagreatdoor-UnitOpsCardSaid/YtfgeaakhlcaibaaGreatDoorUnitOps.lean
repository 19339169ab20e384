/- For every two units of ints, every pair of ints and every int: products, quotients, powers, likeness and conversion of units are the reference's (UnitOps). Condition: the package-level variables math/bits.deBruijn64tab, unicode/utf8.acceptRanges and unicode/utf8.first hold what the program's text lays in them (the card ties that to the text). -/
import Derived.Test.YtfgeaakhlcaibaaGreatDoorCw20
import Derived.Test.YtfgeaakhlcaibaaGreatDoorTie
import Derived.Test.YtfgeaakhlcaibaaGreatDoorCards
import Derived.SevenTiedAt
set_option maxRecDepth 100000
set_option maxHeartbeats 16000000
namespace Go.Proofs.YtfgeaakhlcaibaaGreatDoor
open Go.ChangeShapes Go.WideShapes Go.ChangeAt Go.RowKit

theorem ahy (W : World) (f : Nat → Int) (n m : Int) : Sb.au [.k (Sb.eK f), Sb.iv n, Sb.iv m] W (.agg #[.int .i64 (f 0), .int .i64 (f 1), .int .i64 (f 2), .int .i64 (f 3), .int .i64 (f 4), .int .i64 (f 5), .int .i64 (f 6), .int .i64 n, .int .i64 m]) := ⟨_, rfl, Sb.eu.e (Sb.eu.v (Sb.iw _) (Sb.eu.v (Sb.iw _) rfl))⟩

theorem als (os : Os) (started : os.Started) (H : Type) (enc : TypeId × Value → H) :
  ReturnsInHanded {} Tryz.checked os 7 .any (fun w args => (Rows.unitOpsSpec.pre enc Tryz.prog Tryz.f7 [] false w args ∧ laidMetH Tryz.prog Vi w) ∧ sizedMet enc Tryz.prog Tryz.f7 (OpenSpec.ofChange Rows.unitOpsSpec) false w args)
   (Rows.unitOpsSpec.post enc Tryz.prog Tryz.f7 false true false false) := by
 refine returnsInHanded_of_change_and (C := Tryz.checked) (X := fun w _ => laidMetH Tryz.prog Vi w) (fun _ _ _ hh h => h.of_heap hh) own started (by kernel_rfl) Tryz.func7
  (ChangeSpec.witness_shaped (enc := enc) (C := Tryz.checked) (os := os) (X := fun w _ => laidMetH Tryz.prog Vi w) false (World.laidAll Tryz.prog os Vi) #[.agg #[.int .i64 0, .int .i64 0, .int .i64 0, .int .i64 0, .int .i64 0, .int .i64 0, .int .i64 0, .int .i64 0, .int .i64 0], .agg #[.int .i64 0, .int .i64 0, .int .i64 0, .int .i64 0, .int .i64 0, .int .i64 0, .int .i64 0, .int .i64 0, .int .i64 0], .agg #[.int .i64 0, .int .i64 0], .int .i64 0] 16 (World.laidAll_os _ _ _)
   (World.shaped_of_ZipB (by kernel_rfl) (by kernel_rfl)) (by kernel_rfl) (by kernel_rfl) (by kernel_rfl)
   (by rw [MakeChecks.laidMetH_plain _ _ _ (by kernel_rfl)]; exact laidMet_laidAll _ (by kernel_rfl) (by kernel_rfl))) ?_
 intro W base args ds gs before hval0 hW _ _ hL _
 have hval : ∀ (j : Nat) t v, Tryz.f7.params[j]? = some t → args[j]? = some v → Value.okWide Tryz.prog W .any base t v := hval0
 have hW' := hW
 obtain ⟨p, q, hA0, hV, rfl, _, _⟩ := hW
 have hA : DataW.TrodAll enc Tryz.prog W 0 (fun _ => true) true Tryz.f7.params.toList args.toList ds p := hA0
 rw [Tryz.params7] at hA hval
 obtain ⟨v0, v1, v2, v3, d0, d1, d2, d3, p0, p1, p2, p3, rfl, rfl, rfl, h0, h1, h2, h3⟩ := trodAll_four hA
 obtain ⟨rfl, rfl⟩ := trodVars_none hV
 obtain ⟨f0, n0, m0, rfl, rfl, rfl, wu0⟩ := ach (hval 0 44 v0 rfl rfl) h0
 obtain ⟨f1, n1, m1, rfl, rfl, rfl, wu1⟩ := ach (hval 1 44 v1 rfl rfl) h1
 obtain ⟨n2, m2, rfl, rfl, rfl, wn2, wm2⟩ := atu (hval 2 23 v2 rfl rfl) h2
 obtain ⟨k3, rfl, rfl, rfl, wk3⟩ := open_int Tryz.underlying3 (hval 3 3 v3 rfl rfl) h3
 clear hA0 hval0
 simp only [List.append_nil] at hW'
 refine (Sb.att W (ayu hL) (fun W h => Sb.aqd W h) _ (ahy W f0 n0 m0) _ (ahy W f1 n1 m1) _ (Sb.Af W n2 m2)).mono fun en W' ⟨u, he, hb, hu⟩ => ?_
 subst he
 have hu' : u = .bool true := hu
 subst hu'
 exact ⟨_, rfl, alq hW' (trodAll_mk1 (shut_bool Tryz.underlying4 _)) (trodAll_mk4 (ace wu0) (ace wu1) (asv wn2 wm2) (shut_int Tryz.underlying3 wk3)) rfl hb⟩

theorem azw : Rows.UnitOpsSaid :=
 OpenClaim.holds_of_wide 7 Tryz.f7 rfl rfl rfl rfl rfl rfl rfl ⟨rfl, rfl, rfl, rfl, rfl⟩ rfl rfl rfl rfl rfl (by kernel_rfl) Tryz.func7 (by kernel_rfl)
  (of_decide_eq_true (by kernel_rfl)) (by unfold Func.isWrapper; first | (rw [if_pos (by decide +kernel)]; kernel_rfl) | (rw [if_neg (by decide +kernel)]; exact ⟨rfl, rfl⟩))
  (fun os started H enc _ => als os started H enc)

theorem unitOps_holds : Rows.UnitOpsCardSaid :=
 Claim7.holds_tied_plain_at .later [] [.data, .data, .pinned] true (true, _) false
  azw (fun _ h => by cases h) (by kernel_rfl) (fun _ h => by cases h) unitOps_row_tie rfl ⟨rfl, rfl⟩ (by kernel_rfl) rfl
  (fun f fn hf hfn => by
   obtain rfl : f = 7 := Option.some.inj ((show Tryz.prog.funcNamed "isocline/isoclinelaw06.UnitOps" = some 7 by kernel_rfl).symm.trans hf) |>.symm
   obtain rfl : fn = Tryz.f7 := (Option.some.inj (Tryz.func7.symm.trans hfn)).symm
   exact ⟨by kernel_rfl, fun j t ht => by
    rw [Tryz.params7] at ht
    have hm : t ∈ [44, 44, 23, 3] := by simpa using Array.mem_of_getElem? ht
    have hall : ([44, 44, 23, 3].all fun u => !Tryz.prog.wantsStandIn u) = true := by kernel_rfl
    exact (show Tryz.prog.wantsStandIn t = false by simpa using List.all_eq_true.1 hall t hm)⟩)
  (by kernel_rfl)
#print axioms unitOps_holds
end Go.Proofs.YtfgeaakhlcaibaaGreatDoor
-- squeezed
