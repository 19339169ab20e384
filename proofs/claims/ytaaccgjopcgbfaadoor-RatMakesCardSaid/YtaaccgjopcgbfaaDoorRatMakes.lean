/- For every two numbers and two ints: the program tells the same of which numbers there are, of the quotient of the ints, and of how the numbers compare, as the definitions do (RatMakes). Condition: the package-level variable math/bits.deBruijn64tab holds what the program's text lays in it (the card ties that to the text). -/
import Derived.Test.YtaaccgjopcgbfaaDoorCb11
import Derived.Test.YtaaccgjopcgbfaaDoorTie
import Derived.Test.YtaaccgjopcgbfaaDoorCards
import Derived.SevenTiedAt
import Derived.Carry
namespace Go.Proofs.YtaaccgjopcgbfaaDoor
open Go.ChangeShapes Go.WideShapes Go.ChangeAt Go.RowKit

/-- The law, for every two pairs of ints and two ints. -/
theorem makes_any (n1 d1 n2 d2 n d : Int) (w : World) (hT : Tab w) (b1 : -9223372036854775808 ≤ n) (b2 : n ≤ 9223372036854775807) (b3 : -9223372036854775808 ≤ d) (b4 : d ≤ 9223372036854775807) :
    Calls Tryd.prog 3 #[.agg #[.int .i64 n1, .int .i64 d1], .agg #[.int .i64 n2, .int .i64 d2], .int .i64 n, .int .i64 d] w fun e w' => e = .returned (.bool true) ∧ Below w.heap.size w w' :=
  makes_walk n1 d1 n2 d2 n d (mkE n d).n (mkE n d).d (mkE n d).e (cmpC n1 d1 n2 d2) (fstE n1 d1 n2 d2) (valE n1 d1) w hT
    (fun W hW => make_any n d W hW b1 b2 b3 b4) (fun W => tMake_any n d W b1 b2 b3 b4) (fun W hW => cmpR_any n1 d1 n2 d2 W hW) (fun W => tCmp_any n1 d1 n2 d2 W)
    (fun W hW => val_any n1 d1 W hW) (fun W => tVal_any n1 d1 W)

set_option maxRecDepth 100000 in
theorem makes_lifted (os : Os) (started : os.Started) (H : Type) (enc : TypeId × Value → H) :
    ReturnsInHanded {} Tryd.checked os 3 .any (fun w args => (Rows.ratMakesSpec.pre enc Tryd.prog Tryd.f3 [] false w args ∧ laidMetH Tryd.prog laidL w) ∧ sizedMet enc Tryd.prog Tryd.f3 (OpenSpec.ofChange Rows.ratMakesSpec) false w args)
      (Rows.ratMakesSpec.post enc Tryd.prog Tryd.f3 false true false false) := by
  refine returnsInHanded_of_change_and (C := Tryd.checked) (X := fun w _ => laidMetH Tryd.prog laidL w) (fun _ _ _ hh h => h.of_heap hh) own started (by kernel_rfl) Tryd.func3
    (ChangeSpec.witness_shaped (enc := enc) (C := Tryd.checked) (os := os) (X := fun w _ => laidMetH Tryd.prog laidL w) false (World.laidAll Tryd.prog os laidL) #[.agg #[.int .i64 0, .int .i64 0], .agg #[.int .i64 0, .int .i64 0], .int .i64 0, .int .i64 0] 8 (World.laidAll_os _ _ _)
      (World.shaped_of_ZipB (by kernel_rfl) (by kernel_rfl)) (by kernel_rfl) (by kernel_rfl) (by kernel_rfl)
      (by rw [MakeChecks.laidMetH_plain _ _ _ (by kernel_rfl)]; exact laidMet_laidAll _ (by kernel_rfl) (by kernel_rfl))) ?_
  intro W base args ds gs before hval0 hW _ _ hL _
  have hval : ∀ (j : Nat) t v, Tryd.f3.params[j]? = some t → args[j]? = some v → Value.okWide Tryd.prog W .any base t v := hval0
  have hW' := hW
  obtain ⟨p, q, hA0, hV, rfl, _, _⟩ := hW
  have hA : DataW.TrodAll enc Tryd.prog W 0 (fun _ => true) true Tryd.f3.params.toList args.toList ds p := hA0
  rw [Tryd.params3] at hA hval
  obtain ⟨v0, v1, v2, v3, d0, d1, d2, d3, p0, p1, p2, p3, rfl, rfl, rfl, h0, h1, h2, h3⟩ := trodAll_four hA
  obtain ⟨rfl, rfl⟩ := trodVars_none hV
  obtain ⟨n1, m1, rfl, rfl, rfl, wn1, wm1⟩ := open_rat (hval 0 23 v0 rfl rfl) h0
  obtain ⟨n2, m2, rfl, rfl, rfl, wn2, wm2⟩ := open_rat (hval 1 23 v1 rfl rfl) h1
  obtain ⟨n, rfl, rfl, rfl, wn⟩ := open_int Tryd.underlying3 (hval 2 3 v2 rfl rfl) h2
  obtain ⟨d, rfl, rfl, rfl, wd⟩ := open_int Tryd.underlying3 (hval 3 3 v3 rfl rfl) h3
  clear hA0 hval0
  simp only [List.append_nil] at hW'
  have bn := wf_bounds wn
  have bd := wf_bounds wd
  refine (makes_any n1 m1 n2 m2 n d W (tab_of hL) bn.1 bn.2 bd.1 bd.2).mono fun e W' ⟨he, hb⟩ => ?_
  subst he
  exact ⟨_, rfl, post_below hW' (trodAll_mk1 (shut_bool Tryd.underlying4 _)) (trodAll_mk4 (shut_rat wn1 wm1) (shut_rat wn2 wm2) (shut_int Tryd.underlying3 wn) (shut_int Tryd.underlying3 wd)) rfl hb⟩

theorem makes_row : Rows.RatMakesSaid :=
  OpenClaim.holds_of_wide 3 Tryd.f3 rfl rfl rfl rfl rfl rfl rfl ⟨rfl, rfl, rfl, rfl, rfl⟩ rfl rfl rfl rfl rfl (by kernel_rfl) Tryd.func3 (by kernel_rfl)
    (of_decide_eq_true (by kernel_rfl)) (by unfold Func.isWrapper; first | (rw [if_pos (by decide +kernel)]; kernel_rfl) | (rw [if_neg (by decide +kernel)]; exact ⟨rfl, rfl⟩))
    (fun os started H enc _ => makes_lifted os started H enc)

/-- The statement. -/
theorem ratMakes_holds : Rows.RatMakesCardSaid :=
  Claim7.holds_tied_plain_at .later [] [.data] true (true, "786506cfce5ef1797573ed07bc95b86f6e78d07255bb6dcd1a997bf723e75799") false
    makes_row (fun _ h => by cases h) (by kernel_rfl) (fun _ h => by cases h) ratMakes_row_tie rfl ⟨rfl, rfl⟩ (by kernel_rfl) rfl
    (fun f fn hf hfn => by
      obtain rfl : f = 3 := Option.some.inj ((show Tryd.prog.funcNamed "isocline/isoclinelaw01.RatMakes" = some 3 by kernel_rfl).symm.trans hf) |>.symm
      obtain rfl : fn = Tryd.f3 := (Option.some.inj (Tryd.func3.symm.trans hfn)).symm
      exact ⟨by kernel_rfl, fun j t ht => by
        rw [Tryd.params3] at ht
        have hm : t ∈ [23, 23, 3, 3] := by simpa using Array.mem_of_getElem? ht
        have hall : ([23, 23, 3, 3].all fun u => !Tryd.prog.wantsStandIn u) = true := by kernel_rfl
        exact (show Tryd.prog.wantsStandIn t = false by simpa using List.all_eq_true.1 hall t hm)⟩)
    (by kernel_rfl)
#print axioms ratMakes_holds
end Go.Proofs.YtaaccgjopcgbfaaDoor
