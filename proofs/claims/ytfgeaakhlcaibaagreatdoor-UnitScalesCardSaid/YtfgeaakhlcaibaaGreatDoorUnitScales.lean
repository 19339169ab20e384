/- For every two units of ints and every list of pairs of ints: by what quantities change is the reference's, and goes along with products (UnitScales). Condition: the package-level variables math/bits.deBruijn64tab, unicode/utf8.acceptRanges and unicode/utf8.first hold what the program's text lays in them (the card ties that to the text). -/
import Derived.Test.YtfgeaakhlcaibaaGreatDoorCy19
import Derived.Test.YtfgeaakhlcaibaaGreatDoorTie
import Derived.Test.YtfgeaakhlcaibaaGreatDoorCards
import Derived.SevenTiedAt
import Derived.Carry
import Derived.OpenShut
import Derived.Deep.SlicePairs
set_option maxRecDepth 100000
set_option maxHeartbeats 16000000
namespace Go.Proofs.YtfgeaakhlcaibaaGreatDoor
open Go.ChangeShapes Go.WideShapes Go.ChangeAt Go.RowKit

theorem ahl (W : World) (f : Nat → Int) (n m : Int) : Sb.ax [.k (Sb.eK f), Sb.iv n, Sb.iv m] W (.agg #[.int .i64 (f 0), .int .i64 (f 1), .int .i64 (f 2), .int .i64 (f 3), .int .i64 (f 4), .int .i64 (f 5), .int .i64 (f 6), .int .i64 n, .int .i64 m]) := ⟨_, rfl, Sb.fo.e (Sb.fo.v (Sb.kg _) (Sb.fo.v (Sb.kg _) rfl))⟩
def intv : Value → Int
 | .int _ n => n
 | _ => 0
theorem azx {H : Type} {enc : TypeId × Value → H} {W : World} {base : Nat} {v : Value} {d : DataW H} {p : List MemPlace} (hv : Value.okWide Tryz.prog W .any base 55 v)
  (h : DataW.Trod enc Tryz.prog W 0 (fun _ => true) true 55 v d p) (hlt : ∀ x ∈ p, x.block < W.heap.size) :
  ∃ A cap l, v = .slice A (List.length l) cap ∧ Rs W W.heap.size A l ∧ l.length ≤ cap ∧ cap ≤ 9223372036854775807 := by
 obtain ⟨a1, len, cap, rfl⟩ := okWide_slice Tryz.underlying55 hv
 obtain ⟨fuel, hf⟩ := h
 rcases Go.Deep.open_slice_pairs Tryz.underlying55 Tryz.underlying23 (by kernel_rfl) rfl rfl (by kernel_rfl) (by kernel_rfl) hf with ⟨hcs, hx⟩ | ⟨a, len', cap', m, n, V0, V1, D0, D1, P0, P1, hcs, _, hl, hm, hmm, hx, hcell⟩
 ·
  simp [Value.cells] at hcs
  obtain ⟨rfl, rfl, rfl⟩ := hcs
  exact ⟨none, 0, [], rfl, fun h => by simp at h, by simp, by omega⟩
 ·
  simp [Value.cells] at hcs
  obtain ⟨rfl, rfl, rfl⟩ := hcs
  simp only [if_true] at hmm
  subst hmm
  have hlen : ((List.range len).map fun i => (intv (V0 i), intv (V1 i))).length = len := by simp
  refine ⟨some a, m, (List.range len).map fun i => (intv (V0 i), intv (V1 i)), by rw [hlen], fun h0 => ?_, by rw [hlen]; exact hl, by unfold maxLen at hm; omega⟩
  rw [hlen] at h0
  obtain ⟨b, off, spot⟩ := a
  have hspot : spot = none := by simpa [Addr.add] using World.cell?_spot (hcell 0 om).1
  subst hspot
  have hbl : b < W.heap.size := by
   have hx' := (Prod.mk.inj hx).2
   exact hlt (.cell b off) (by rw [hx']; exact List.mem_append_left _ (MemPlace.mem_row.2 ⟨0, by omega, by simp⟩))
  refine ⟨b, off, rfl, hbl, fun j hj => ?_⟩
  rw [hlen] at hj
  obtain ⟨c0, c1, t0, t1⟩ := hcell j om
  obtain ⟨z0, e0, _, _⟩ := DataW.trod_int Tryz.underlying3 t0
  obtain ⟨z1, e1, _, _⟩ := DataW.trod_int Tryz.underlying3 t1
  simp only [List.cons.injEq, and_true] at e0 e1
  have g0 : rn ((List.range len).map fun i => (intv (V0 i), intv (V1 i))) j = z0 := by simp [rn, List.getD, hj, e0, intv]
  have g1 : rd ((List.range len).map fun i => (intv (V0 i), intv (V1 i))) j = z1 := by simp [rd, List.getD, hj, e1, intv]
  rw [g0, g1, ← e0, ← e1]
  rw [Go.WideShapes.add_plain] at c0 c1
  exact ⟨c0, by rw [Nat.add_assoc]; exact c1⟩
theorem atv : laidOutB Tryz.prog = true := by kernel_rfl

theorem ack (os : Os) (started : os.Started) (H : Type) (enc : TypeId × Value → H) :
  ReturnsInHanded {} Tryz.checked os 8 .any (fun w args => (Rows.unitScalesSpec.pre enc Tryz.prog Tryz.f8 [] false w args ∧ laidMetH Tryz.prog Ve w) ∧ sizedMet enc Tryz.prog Tryz.f8 (OpenSpec.ofChange Rows.unitScalesSpec) false w args)
   (Rows.unitScalesSpec.post enc Tryz.prog Tryz.f8 false true false false) := by
 refine returnsInHanded_of_change_and (C := Tryz.checked) (X := fun w _ => laidMetH Tryz.prog Ve w) (fun _ _ _ hh h => h.of_heap hh) own started (by kernel_rfl) Tryz.func8
  (ChangeSpec.witness_shaped (enc := enc) (C := Tryz.checked) (os := os) (X := fun w _ => laidMetH Tryz.prog Ve w) false (World.laidAll Tryz.prog os Ve) #[.agg #[.int .i64 0, .int .i64 0, .int .i64 0, .int .i64 0, .int .i64 0, .int .i64 0, .int .i64 0, .int .i64 0, .int .i64 0], .agg #[.int .i64 0, .int .i64 0, .int .i64 0, .int .i64 0, .int .i64 0, .int .i64 0, .int .i64 0, .int .i64 0, .int .i64 0], .slice none 0 0] 16 (World.laidAll_os _ _ _)
   (World.shaped_of_ZipB (by kernel_rfl) (by kernel_rfl)) (by kernel_rfl) (by kernel_rfl) (by kernel_rfl)
   (by rw [MakeChecks.laidMetH_plain _ _ _ (by kernel_rfl)]; exact laidMet_laidAll _ (by kernel_rfl) (by kernel_rfl))) ?_
 intro W base args ds gs before hval0 hW _ _ hL _
 have hval : ∀ (j : Nat) t v, Tryz.f8.params[j]? = some t → args[j]? = some v → Value.okWide Tryz.prog W .any base t v := hval0
 have hW' := hW
 obtain ⟨p, q, hA0, hV, rfl, _, _⟩ := hW
 have hA : DataW.TrodAll enc Tryz.prog W 0 (fun _ => true) true Tryz.f8.params.toList args.toList ds p := hA0
 rw [Tryz.params8] at hA hval
 obtain ⟨v0, v1, v2, d0, d1, d2, p0, p1, p2, rfl, rfl, rfl, h0, h1, h2⟩ := trodAll_three hA
 obtain ⟨rfl, rfl⟩ := trodVars_none hV
 obtain ⟨f0, n0, m0, rfl, rfl, rfl, wu0⟩ := abj (hval 0 44 v0 rfl rfl) h0
 obtain ⟨f1, n1, m1, rfl, rfl, rfl, wu1⟩ := abj (hval 1 44 v1 rfl rfl) h1
 have h2k := h2
 clear hA0 hval0
 simp only [List.append_nil, List.nil_append] at hW'
 have hlt : ∀ x ∈ p2, x.block < W.heap.size := fun x hx => by simpa using hW'.lt x (by simpa using hx)
 obtain ⟨A2, cap2, l2, rfl, r1, r2, r3⟩ := azx (hval 2 55 v2 rfl rfl) h2 hlt
 have a2 : ∀ (W' : World), Below W.heap.size W W' → DataW.Trod enc Tryz.prog W' 0 (fun b => decide (b < W.heap.size)) true 55 (.slice A2 l2.length cap2) d2 p2 :=
  fun W' hn => Below.trod atv (by kernel_rfl) (of_decide_eq_true (by kernel_rfl)) h2k hn hlt
 refine (Sb.aid W (azd hL) rfl ⟨r2, r3⟩ r1 _ (ahl W f0 n0 m0) _ (ahl W f1 n1 m1)).mono fun en W' ⟨u, he, hb, hu⟩ => ?_
 subst he
 have hu' : u = .bool true := hu
 subst hu'
 exact ⟨_, rfl, _, _, _, [], _, [], hW', trodAll_mk1 (shut_bool Tryz.underlying4 _), trodAll_mk3 (abf wu0) (abf wu1) (a2 _ hb), rfl, hb.frame _, fun h => by cases h⟩

theorem akz : Rows.UnitScalesSaid :=
 OpenClaim.holds_of_wide 8 Tryz.f8 rfl rfl rfl rfl rfl rfl rfl ⟨rfl, rfl, rfl, rfl, rfl⟩ rfl rfl rfl rfl rfl (by kernel_rfl) Tryz.func8 (by kernel_rfl)
  (of_decide_eq_true (by kernel_rfl)) (by unfold Func.isWrapper; first | (rw [if_pos (by decide +kernel)]; kernel_rfl) | (rw [if_neg (by decide +kernel)]; exact ⟨rfl, rfl⟩))
  (fun os started H enc _ => ack os started H enc)

theorem unitScales_holds : Rows.UnitScalesCardSaid :=
 Claim7.holds_tied_plain_at .later [] [.data, .data, .pinned] true (true, _) false
  akz (fun _ h => by cases h) (by kernel_rfl) (fun _ h => by cases h) unitScales_row_tie rfl ⟨rfl, rfl⟩ (by kernel_rfl) rfl
  (fun f fn hf hfn => by
   obtain rfl : f = 8 := Option.some.inj ((show Tryz.prog.funcNamed "isocline/isoclinelaw06.UnitScales" = some 8 by kernel_rfl).symm.trans hf) |>.symm
   obtain rfl : fn = Tryz.f8 := (Option.some.inj (Tryz.func8.symm.trans hfn)).symm
   exact ⟨by kernel_rfl, fun j t ht => by
    rw [Tryz.params8] at ht
    have hm : t ∈ [44, 44, 55] := by simpa using Array.mem_of_getElem? ht
    have hall : ([44, 44, 55].all fun u => !Tryz.prog.wantsStandIn u) = true := by kernel_rfl
    exact (show Tryz.prog.wantsStandIn t = false by simpa using List.all_eq_true.1 hall t hm)⟩)
  (by kernel_rfl)
#print axioms unitScales_holds
end Go.Proofs.YtfgeaakhlcaibaaGreatDoor
-- squeezed
