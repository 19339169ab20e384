/- For every three numbers: sums and products do not hang on order and brackets, and what was added or multiplied is taken away again, wherever all numbers are representable (RatField). Condition: the package-level variable math/bits.deBruijn64tab holds what the program's text lays in it (the card ties that to the text). -/
import Derived.Test.YtaaccgjopcgbfaaDoorCa9
import Derived.Test.YtaaccgjopcgbfaaDoorTie
import Derived.Test.YtaaccgjopcgbfaaDoorCards
import Derived.SevenTiedAt
namespace Go.Proofs.YtaaccgjopcgbfaaDoor
open Go.ChangeShapes Go.WideShapes Go.ChangeAt Go.RowKit

theorem told_parts (t : Wd.Told) : ∃ n d e, t = ⟨n, d, e⟩ := by
  obtain ⟨n, d, e⟩ := t
  exact ⟨n, d, e, rfl⟩

/-- The law, for every three pairs of ints. -/
theorem field_any (n1 d1 n2 d2 n3 d3 : Int) (w : World) (hT : Tab w) :
    Calls Tryd.prog 6 #[.agg #[.int .i64 n1, .int .i64 d1], .agg #[.int .i64 n2, .int .i64 d2], .agg #[.int .i64 n3, .int .i64 d3]] w fun e w' => e = .returned (.bool true) ∧ Below w.heap.size w w' := by
  obtain ⟨na, da, ea, ha⟩ := told_parts (Wd.addR n1 d1 n2 d2)
  obtain ⟨np, dp, ep, hp⟩ := told_parts (Wd.mulR n1 d1 n2 d2)
  obtain ⟨nv, dv, ev, hv⟩ := told_parts (Wd.divR np dp n2 d2)
  obtain ⟨ns, ds, es, hs⟩ := told_parts (Wd.addR n2 d2 n3 d3)
  obtain ⟨nl, dl, el, hl⟩ := told_parts (Wd.mulR n1 d1 ns ds)
  obtain ⟨nm, dm, em, hm⟩ := told_parts (Wd.mulR n1 d1 n3 d3)
  obtain ⟨nr, dr, er, hr⟩ := told_parts (Wd.addR np dp nm dm)
  have c1 := ct_add ha
  have c2 := ct_add ((Wd.addR_comm n2 d2 n1 d1).trans ha)
  have c4 := ct_mul hp
  have c5 := ct_mul ((Wd.mulR_comm n2 d2 n1 d1).trans hp)
  have hV : ep ≠ 0 ∨ (ep = 0 ∧ n2 = 0) ∨ (ep = 0 ∧ n2 ≠ 0 ∧ nv = n1 ∧ dv = d1 ∧ ev = 0) := by
    by_cases h1 : ep = 0
    · by_cases h2 : n2 = 0
      · exact .inr (.inl ⟨h1, h2⟩)
      · have := Wd.div_back (a := n1) (b := d1) (c := n2) (d := d2) (by rw [hp]; exact h1) h2
        rw [hp] at this
        have e := hv.symm.trans this
        injection e with e1 e2 e3
        exact .inr (.inr ⟨h1, h2, e1, e2, e3⟩)
    · exact .inl h1
  have hD : es = 0 → el = 0 → em = 0 → er = 0 → ep = 0 → nl = nr ∧ dl = dr := fun g1 g2 g3 g4 g5 => by
    have := Wd.distr (a := n1) (b := d1) (c := n2) (d := d2) (u := n3) (v := d3) (by rw [hs]; exact g1) (by rw [hs]; simp only; rw [hl]; exact g2) (by rw [hp]; exact g5) (by rw [hm]; exact g3) (by rw [hp, hm]; simp only; rw [hr]; exact g4)
    rw [hs, hp, hm] at this
    simp only at this
    rw [hl, hr] at this
    exact this
  by_cases h0 : ea = 0
  · have hb := Wd.sub_back (a := n1) (b := d1) (c := n2) (d := d2) (by rw [ha]; exact h0)
    rw [ha] at hb
    exact field_a n1 d1 n2 d2 n3 d3 na da ea np dp ep nv dv ev ns ds es nl dl el nm dm em nr dr er w hT c1 c2 c4 c5 (ct_div hv) hV (ct_add hs) (ct_mul hl) (ct_mul hm) (ct_add hr) hD (ct_sub hb) h0
  · exact field_b n1 d1 n2 d2 n3 d3 na da ea np dp ep nv dv ev ns ds es nl dl el nm dm em nr dr er w hT c1 c2 c4 c5 (ct_div hv) hV (ct_add hs) (ct_mul hl) (ct_mul hm) (ct_add hr) hD h0

set_option maxRecDepth 100000 in
theorem field_lifted (os : Os) (started : os.Started) (H : Type) (enc : TypeId × Value → H) :
    ReturnsInHanded {} Tryd.checked os 6 .any (fun w args => (Rows.ratFieldSpec.pre enc Tryd.prog Tryd.f6 [] false w args ∧ laidMetH Tryd.prog laidL w) ∧ sizedMet enc Tryd.prog Tryd.f6 (OpenSpec.ofChange Rows.ratFieldSpec) false w args)
      (Rows.ratFieldSpec.post enc Tryd.prog Tryd.f6 false true false false) := by
  refine returnsInHanded_of_change_and (C := Tryd.checked) (X := fun w _ => laidMetH Tryd.prog laidL w) (fun _ _ _ hh h => h.of_heap hh) own started (by kernel_rfl) Tryd.func6
    (ChangeSpec.witness_shaped (enc := enc) (C := Tryd.checked) (os := os) (X := fun w _ => laidMetH Tryd.prog laidL w) false (World.laidAll Tryd.prog os laidL) #[.agg #[.int .i64 0, .int .i64 0], .agg #[.int .i64 0, .int .i64 0], .agg #[.int .i64 0, .int .i64 0]] 8 (World.laidAll_os _ _ _)
      (World.shaped_of_ZipB (by kernel_rfl) (by kernel_rfl)) (by kernel_rfl) (by kernel_rfl) (by kernel_rfl)
      (by rw [MakeChecks.laidMetH_plain _ _ _ (by kernel_rfl)]; exact laidMet_laidAll _ (by kernel_rfl) (by kernel_rfl))) ?_
  intro W base args ds gs before hval0 hW _ _ hL _
  have hval : ∀ (j : Nat) t v, Tryd.f6.params[j]? = some t → args[j]? = some v → Value.okWide Tryd.prog W .any base t v := hval0
  have hW' := hW
  obtain ⟨p, q, hA0, hV, rfl, _, _⟩ := hW
  have hA : DataW.TrodAll enc Tryd.prog W 0 (fun _ => true) true Tryd.f6.params.toList args.toList ds p := hA0
  rw [Tryd.params6] at hA hval
  obtain ⟨v0, v1, v2, d0, d1, d2, p0, p1, p2, rfl, rfl, rfl, h0, h1, h2⟩ := trodAll_three hA
  obtain ⟨rfl, rfl⟩ := trodVars_none hV
  obtain ⟨n1, m1, rfl, rfl, rfl, wn1, wm1⟩ := open_rat (hval 0 23 v0 rfl rfl) h0
  obtain ⟨n2, m2, rfl, rfl, rfl, wn2, wm2⟩ := open_rat (hval 1 23 v1 rfl rfl) h1
  obtain ⟨n3, m3, rfl, rfl, rfl, wn3, wm3⟩ := open_rat (hval 2 23 v2 rfl rfl) h2
  clear hA0 hval0
  simp only [List.append_nil] at hW'
  refine (field_any n1 m1 n2 m2 n3 m3 W (tab_of hL)).mono fun e W' ⟨he, hb⟩ => ?_
  subst he
  exact ⟨_, rfl, post_below hW' (trodAll_mk1 (shut_bool Tryd.underlying4 _)) (trodAll_mk3 (shut_rat wn1 wm1) (shut_rat wn2 wm2) (shut_rat wn3 wm3)) rfl hb⟩

theorem field_row : Rows.RatFieldSaid :=
  OpenClaim.holds_of_wide 6 Tryd.f6 rfl rfl rfl rfl rfl rfl rfl ⟨rfl, rfl, rfl, rfl, rfl⟩ rfl rfl rfl rfl rfl (by kernel_rfl) Tryd.func6 (by kernel_rfl)
    (of_decide_eq_true (by kernel_rfl)) (by unfold Func.isWrapper; first | (rw [if_pos (by decide +kernel)]; kernel_rfl) | (rw [if_neg (by decide +kernel)]; exact ⟨rfl, rfl⟩))
    (fun os started H enc _ => field_lifted os started H enc)

/-- The statement. -/
theorem ratField_holds : Rows.RatFieldCardSaid :=
  Claim7.holds_tied_plain_at .later [] [.data] true (true, "786506cfce5ef1797573ed07bc95b86f6e78d07255bb6dcd1a997bf723e75799") false
    field_row (fun _ h => by cases h) (by kernel_rfl) (fun _ h => by cases h) ratField_row_tie rfl ⟨rfl, rfl⟩ (by kernel_rfl) rfl
    (fun f fn hf hfn => by
      obtain rfl : f = 6 := Option.some.inj ((show Tryd.prog.funcNamed "isocline/isoclinelaw01.RatField" = some 6 by kernel_rfl).symm.trans hf) |>.symm
      obtain rfl : fn = Tryd.f6 := (Option.some.inj (Tryd.func6.symm.trans hfn)).symm
      exact ⟨by kernel_rfl, fun j t ht => by
        rw [Tryd.params6] at ht
        have hm : t ∈ [23, 23, 23] := by simpa using Array.mem_of_getElem? ht
        have hall : ([23, 23, 23].all fun u => !Tryd.prog.wantsStandIn u) = true := by kernel_rfl
        exact (show Tryd.prog.wantsStandIn t = false by simpa using List.all_eq_true.1 hall t hm)⟩)
    (by kernel_rfl)
#print axioms ratField_holds
end Go.Proofs.YtaaccgjopcgbfaaDoor
