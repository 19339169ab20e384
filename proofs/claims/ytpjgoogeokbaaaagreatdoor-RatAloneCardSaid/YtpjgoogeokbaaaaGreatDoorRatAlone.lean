/- For every number and three ints: the program's power, integer below, nearest number of a grid, nearest number with a small denominator and text are the reference's (RatAlone). Condition: the package-level variables math/bits.deBruijn32tab, math/bits.deBruijn64tab and internal/strconv.uint64pow10 hold what the program's text lays in them (the card ties that to the text). -/
import Derived.Test.YtpjgoogeokbaaaaGreatDoorCk20
import Derived.Test.YtpjgoogeokbaaaaGreatDoorTie
import Derived.Test.YtpjgoogeokbaaaaGreatDoorCards
import Derived.SevenTiedAt
import Derived.Carry
set_option maxRecDepth 100000
namespace Go.Proofs.YtpjgoogeokbaaaaGreatDoor
open Go.ChangeShapes Go.WideShapes Go.ChangeAt Go.RowKit

theorem awe (n d k g m : Int) (w : World) (hT : rz w) (h10 : Hz w) :
  Calls Tryz.prog 4 #[(Value.agg #[.int .i64 n, .int .i64 d]), .int .i64 k, .int .i64 g, .int .i64 m] w fun e w' => e = .returned (.bool true) ∧ Below w.heap.size w w' := by
 obtain ⟨S, se, hp, hr⟩ : ∃ (S : ByteArray) (se : Int), (∀ W, rz W → Hz W → Calls Tryz.prog 20 #[(Value.agg #[.int .i64 n, .int .i64 d])] W fun e w' => e = .returned (.tuple #[.string S, .int .i64 se]) ∧ Below W.heap.size W w') ∧ (∀ W, Calls Tryz.prog 21 #[(Value.agg #[.int .i64 n, .int .i64 d])] W fun e w' => e = .returned (.tuple #[.string S, .int .i64 se]) ∧ Below W.heap.size W w') := by
  by_cases ok : Wd.nu n d
  ·
   refine ⟨⟨(Wd.Kg n d).toArray⟩, 0, fun W h1 h2 => ?_, fun W => asi n d W ok⟩
   by_cases hd : d = 1
   ·
    subst hd; exact aua n W h1 h2 ok
   ·
    exact aoo n d W h1 h2 ok hd
  ·
   exact ⟨⟨#[]⟩, 1, fun W h1 _ => aub n d W h1 ok, fun W => aog n d W ok⟩
 refine aqu n d k g m _ _ _ _ _ _ _ _ se S
  (fun x y z => (Wd.nu n d ∧ 1 ≤ m ∧ m ≤ 1000000000000 ∧ Wd.Nk n d m x y ∧ z = 0) ∨ (¬ (Wd.nu n d ∧ 1 ≤ m ∧ m ≤ 1000000000000) ∧ x = 0 ∧ y = 0 ∧ z = 1))
  (fun x y z => ∃ t : Wd.Told, ((Wd.nu n d ∧ 1 ≤ m ∧ m ≤ 1000000000000 ∧ ∃ p q, Wd.Kt n d m p q ∧ t = Wd.told (Rat.divInt p q)) ∨ (¬ (Wd.nu n d ∧ 1 ≤ m ∧ m ≤ 1000000000000) ∧ t = ⟨0, 0, 1⟩)) ∧ x = t.n ∧ y = t.d ∧ z = t.e)
  w hT h10 (fun W h _ => ayp n d k W h) (fun W h _ => bfn n d k W h) (fun W h _ => afc n d W h) (fun W _ _ => alm n d W) (fun W h _ => aon n d g W h) (fun W _ _ => aoe n d g W)
  (fun W h _ => azd n d m W h) (fun W _ _ => (asl n d m W).mono (fun e w' ⟨t, h1, h2, h3⟩ => ⟨t.n, t.d, t.e, ⟨t, h1, rfl, rfl, rfl⟩, h2, h3⟩)) ?_ hp (fun W _ _ => hr W)
 rintro x y z x' y' z' h1 ⟨t, h2, rfl, rfl, rfl⟩
 rcases h1 with ⟨ok, g1, g2, hO, rfl⟩ | ⟨hn, rfl, rfl, rfl⟩
 ·
  rcases h2 with ⟨_, _, _, p, q, hS, rfl⟩ | ⟨hn, _⟩
  ·
   have hD : 0 < d := by have := ok.1; omega
   have hxy := (hO.ok ok).1
   obtain ⟨rfl, rfl⟩ : p = x ∧ q = y := by
    rcases hO with ⟨h3, rfl, rfl⟩ | ⟨h3, a, b, c, e, hs, _, _, rfl, rfl⟩ <;> rcases hS with ⟨h4, rfl, rfl⟩ | ⟨h4, a', b', c', e', hs', rfl, rfl⟩
    ·
     exact ⟨rfl, rfl⟩
    ·
     omega
    ·
     omega
    ·
     obtain ⟨rfl, rfl, rfl, rfl⟩ := hs.uniq hD hs'
     exact ⟨rfl, rfl⟩
   have ht : Wd.told (Rat.divInt p q) = ⟨p, q, 0⟩ := Wd.aoi hxy
   rw [ht]; exact ⟨rfl, rfl, rfl⟩
  ·
   exact absurd ⟨ok, g1, g2⟩ hn
 ·
  rcases h2 with ⟨h3, h4, h5, _⟩ | ⟨_, rfl⟩
  ·
   exact absurd ⟨h3, h4, h5⟩ hn
  ·
   exact ⟨rfl, rfl, rfl⟩

theorem ako (os : Os) (started : os.Started) (H : Type) (enc : TypeId × Value → H) :
  ReturnsInHanded {} Tryz.checked os 4 .any (fun w args => (Rows.ratAloneSpec.pre enc Tryz.prog Tryz.f4 [] false w args ∧ laidMetH Tryz.prog laidB w) ∧ sizedMet enc Tryz.prog Tryz.f4 (OpenSpec.ofChange Rows.ratAloneSpec) false w args)
   (Rows.ratAloneSpec.post enc Tryz.prog Tryz.f4 false true false false) := by
 refine returnsInHanded_of_change_and (C := Tryz.checked) (X := fun w _ => laidMetH Tryz.prog laidB w) (fun _ _ _ hh h => h.of_heap hh) own started (by kernel_rfl) Tryz.func4
  (ChangeSpec.witness_shaped (enc := enc) (C := Tryz.checked) (os := os) (X := fun w _ => laidMetH Tryz.prog laidB w) false (World.laidAll Tryz.prog os laidB) #[.agg #[.int .i64 0, .int .i64 0], .int .i64 0, .int .i64 0, .int .i64 0] 8 (World.laidAll_os _ _ _)
   (World.shaped_of_ZipB (by kernel_rfl) (by kernel_rfl)) (by kernel_rfl) (by kernel_rfl) (by kernel_rfl)
   (by rw [MakeChecks.laidMetH_plain _ _ _ (by kernel_rfl)]; exact laidMet_laidAll _ (by kernel_rfl) (by kernel_rfl))) ?_
 intro W base args ds gs before hval0 hW _ _ hL _
 have hval : ∀ (j : Nat) t v, Tryz.f4.params[j]? = some t → args[j]? = some v → Value.okWide Tryz.prog W .any base t v := hval0
 have hW' := hW
 obtain ⟨p, q, hA0, hV, rfl, _, _⟩ := hW
 have hA : DataW.TrodAll enc Tryz.prog W 0 (fun _ => true) true Tryz.f4.params.toList args.toList ds p := hA0
 rw [Tryz.params4] at hA hval
 obtain ⟨v0, v1, v2, v3, d0, d1, d2, d3, p0, p1, p2, p3, rfl, rfl, rfl, h0, h1, h2, h3⟩ := trodAll_four hA
 obtain ⟨rfl, rfl⟩ := trodVars_none hV
 obtain ⟨n1, m1, rfl, rfl, rfl, wn1, wm1⟩ := ays (hval 0 23 v0 rfl rfl) h0
 obtain ⟨k, rfl, rfl, rfl, wk⟩ := open_int Tryz.underlying3 (hval 1 3 v1 rfl rfl) h1
 obtain ⟨g, rfl, rfl, rfl, wg⟩ := open_int Tryz.underlying3 (hval 2 3 v2 rfl rfl) h2
 obtain ⟨m, rfl, rfl, rfl, wm⟩ := open_int Tryz.underlying3 (hval 3 3 v3 rfl rfl) h3
 clear hA0 hval0
 simp only [List.append_nil] at hW'
 refine (awe n1 m1 k g m W (amd hL).1 (amd hL).2).mono fun e W' ⟨he, hb⟩ => ?_
 subst he
 exact ⟨_, rfl, aoq hW' (trodAll_mk1 (shut_bool Tryz.underlying4 _)) (trodAll_mk4 (aye wn1 wm1) (shut_int Tryz.underlying3 wk) (shut_int Tryz.underlying3 wg) (shut_int Tryz.underlying3 wm)) rfl hb⟩

theorem awd : Rows.RatAloneSaid :=
 OpenClaim.holds_of_wide 4 Tryz.f4 rfl rfl rfl rfl rfl rfl rfl ⟨rfl, rfl, rfl, rfl, rfl⟩ rfl rfl rfl rfl rfl (by kernel_rfl) Tryz.func4 (by kernel_rfl)
  (of_decide_eq_true (by kernel_rfl)) (by unfold Func.isWrapper; first | (rw [if_pos (by decide +kernel)]; kernel_rfl) | (rw [if_neg (by decide +kernel)]; exact ⟨rfl, rfl⟩))
  (fun os started H enc _ => ako os started H enc)

theorem ratAlone_holds : Rows.RatAloneCardSaid :=
 Claim7.holds_tied_plain_at .later [] [.data, .data, .data] true (true, _) false
  awd (fun _ h => by cases h) (by kernel_rfl) (fun _ h => by cases h) ratAlone_row_tie rfl ⟨rfl, rfl⟩ (by kernel_rfl) rfl
  (fun f fn hf hfn => by
   obtain rfl : f = 4 := Option.some.inj ((show Tryz.prog.funcNamed "isocline/isoclinelaw01.RatAlone" = some 4 by kernel_rfl).symm.trans hf) |>.symm
   obtain rfl : fn = Tryz.f4 := (Option.some.inj (Tryz.func4.symm.trans hfn)).symm
   exact ⟨by kernel_rfl, fun j t ht => by
    rw [Tryz.params4] at ht
    have hm : t ∈ [23, 3, 3, 3] := by simpa using Array.mem_of_getElem? ht
    have hall : ([23, 3, 3, 3].all fun u => !Tryz.prog.wantsStandIn u) = true := by kernel_rfl
    exact (show Tryz.prog.wantsStandIn t = false by simpa using List.all_eq_true.1 hall t hm)⟩)
  (by kernel_rfl)
#print axioms ratAlone_holds
end Go.Proofs.YtpjgoogeokbaaaaGreatDoor
