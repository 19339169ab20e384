/- For every number and every list of ints: the program's continued fraction of the number, and its number of the list, are those of the definitions (RatFractions). Condition: the package-level variable math/bits.deBruijn64tab holds what the program's text lays in it (the card ties that to the text). -/
import Derived.Test.YtmahhmdodfimbaaGreatDoorCd13
import Derived.Test.YtmahhmdodfimbaaGreatDoorTie
import Derived.Test.YtmahhmdodfimbaaGreatDoorCards
import Derived.SevenTiedAt
import Derived.Carry
import Derived.OpenShut
namespace Go.Proofs.YtmahhmdodfimbaaGreatDoor
open Go.ChangeShapes Go.WideShapes Go.ChangeAt Go.RowKit

theorem cellsInt : Tryz.prog.cellsOf 3 = 1 := by kernel_rfl
theorem laid_out : laidOutB Tryz.prog = true := by kernel_rfl
set_option maxRecDepth 100000 in
theorem fractions_lifted (os : Os) (started : os.Started) (H : Type) (enc : TypeId × Value → H) :
    ReturnsInHanded {} Tryz.checked os 7 .any (fun w args => (Rows.ratFractionsSpec.pre enc Tryz.prog Tryz.f7 [] false w args ∧ laidMetH Tryz.prog laidL w) ∧ sizedMet enc Tryz.prog Tryz.f7 (OpenSpec.ofChange Rows.ratFractionsSpec) false w args)
      (Rows.ratFractionsSpec.post enc Tryz.prog Tryz.f7 false true false false) := by
  refine returnsInHanded_of_change_and (C := Tryz.checked) (X := fun w _ => laidMetH Tryz.prog laidL w) (fun _ _ _ hh h => h.of_heap hh) own started (by kernel_rfl) Tryz.func7
    (ChangeSpec.witness_shaped (enc := enc) (C := Tryz.checked) (os := os) (X := fun w _ => laidMetH Tryz.prog laidL w) false (World.laidAll Tryz.prog os laidL) #[.agg #[.int .i64 0, .int .i64 0], .slice none 0 0] 8 (World.laidAll_os _ _ _)
      (World.shaped_of_ZipB (by kernel_rfl) (by kernel_rfl)) (by kernel_rfl) (by kernel_rfl) (by kernel_rfl)
      (by rw [MakeChecks.laidMetH_plain _ _ _ (by kernel_rfl)]; exact laidMet_laidAll _ (by kernel_rfl) (by kernel_rfl))) ?_
  intro W base args ds gs before hval0 hW _ _ hL _
  have hval : ∀ (j : Nat) t v, Tryz.f7.params[j]? = some t → args[j]? = some v → Value.okWide Tryz.prog W .any base t v := hval0
  have hW' := hW
  obtain ⟨p, q, hA0, hV, rfl, _, _⟩ := hW
  have hA : DataW.TrodAll enc Tryz.prog W 0 (fun _ => true) true Tryz.f7.params.toList args.toList ds p := hA0
  rw [Tryz.params7] at hA hval
  obtain ⟨v0, v1, d0, d1, p0, p1, rfl, rfl, rfl, h0, h1⟩ := trodAll_two hA
  obtain ⟨rfl, rfl⟩ := trodVars_none hV
  obtain ⟨n1, m1, rfl, rfl, rfl, wn1, wm1⟩ := open_rat (hval 0 23 v0 rfl rfl) h0
  obtain ⟨a1, len, cap, rfl⟩ := okWide_slice Tryz.underlying40 (hval 1 40 v1 rfl rfl)
  have h1k := h1
  obtain ⟨fuel, hf⟩ := h1
  clear hA0 hval0
  simp only [List.append_nil, List.nil_append] at hW'
  have hlt : ∀ x ∈ p1, x.block < W.heap.size := fun x hx => by simpa using hW'.lt x hx
  have hargs : ∀ (W' : World), Below W.heap.size W W' → DataW.Trod enc Tryz.prog W' 0 (fun b => decide (b < W.heap.size)) true 40 (.slice a1 len cap) d1 p1 :=
    fun W' hn => Below.trod laid_out (by kernel_rfl) (of_decide_eq_true (by kernel_rfl)) h1k hn hlt
  have fin : ∀ (l : List Int), len = l.length → Zs W W.heap.size a1 l → l.length ≤ cap → cap ≤ 9223372036854775807 → (∀ i, i < l.length → -9223372036854775808 ≤ l.getD i 0 ∧ l.getD i 0 ≤ 9223372036854775807) →
      Calls Tryz.checked.prog 7 #[.agg #[.int .i64 n1, .int .i64 m1], .slice a1 len cap] W fun e W' => ∃ v, e = Ending.returned v ∧ Rows.ratFractionsSpec.post enc Tryz.checked.prog Tryz.f7 false true false false W #[.agg #[.int .i64 n1, .int .i64 m1], .slice a1 len cap] v W' := by
    rintro l rfl hz hc hm hin
    refine (fractions_any n1 m1 a1 cap l W hz hc hm (tab_of hL) hin).mono fun e W' ⟨he, hb⟩ => ?_
    subst he
    exact ⟨_, rfl, _, _, _, [], _, [], hW', trodAll_mk1 (shut_bool Tryz.underlying4 _), trodAll_mk2 (shut_rat wn1 wm1) (hargs _ hb), rfl, hb.frame _, fun h => by cases h⟩
  rcases open_ints Tryz.underlying40 Tryz.underlying3 cellsInt hf with ⟨hcs, hx⟩ | ⟨a, len', cap', zs, hcs, _, hl, hm, hz, hx, hcell, hwz⟩
  · simp [Value.cells] at hcs
    obtain ⟨rfl, rfl, rfl⟩ := hcs
    exact fin [] rfl (fun h => by simp at h) (by simp) (by omega) (fun i h => by simp at h)
  · simp [Value.cells] at hcs
    obtain ⟨rfl, rfl, rfl⟩ := hcs
    simp only [if_true] at hz
    have hle : (zs.take len).length = len := by rw [List.length_take]; omega
    refine fin (zs.take len) hle.symm (fun h => ?_) (by omega) (by unfold maxLen at hm; omega) (fun i h => ?_)
    · obtain ⟨b, off, rfl, hc⟩ := ints_at hcell (by omega)
      have hx' := (Prod.mk.inj hx).2
      refine ⟨b, off, rfl, hlt (.cell b off) (by rw [hx']; exact MemPlace.mem_row.2 ⟨0, by omega, by simp⟩), fun j hj => ?_⟩
      rw [hc j (by omega), gi_def]
      congr 2
      simp only [List.getD, List.getElem?_take]
      rw [if_pos (by omega)]
    · have hi : i < zs.length := by omega
      have e : (zs.take len).getD i 0 = zs.getD i 0 := by
        simp only [List.getD, List.getElem?_take]
        rw [if_pos (by omega)]
      rw [e]
      have hmem : zs.getD i 0 ∈ zs := by
        simp only [List.getD, List.getElem?_eq_getElem hi, Option.getD_some]
        exact List.getElem_mem hi
      exact wf_bounds (hwz _ hmem)

theorem fractions_row : Rows.RatFractionsSaid :=
  OpenClaim.holds_of_wide 7 Tryz.f7 rfl rfl rfl rfl rfl rfl rfl ⟨rfl, rfl, rfl, rfl, rfl⟩ rfl rfl rfl rfl rfl (by kernel_rfl) Tryz.func7 (by kernel_rfl)
    (of_decide_eq_true (by kernel_rfl)) (by unfold Func.isWrapper; first | (rw [if_pos (by decide +kernel)]; kernel_rfl) | (rw [if_neg (by decide +kernel)]; exact ⟨rfl, rfl⟩))
    (fun os started H enc _ => fractions_lifted os started H enc)

/-- The statement. -/
theorem ratFractions_holds : Rows.RatFractionsCardSaid :=
  Claim7.holds_tied_plain_at .later [] [.data] true (true, _) false
    fractions_row (fun _ h => by cases h) (by kernel_rfl) (fun _ h => by cases h) ratFractions_row_tie rfl ⟨rfl, rfl⟩ (by kernel_rfl) rfl
    (fun f fn hf hfn => by
      obtain rfl : f = 7 := Option.some.inj ((show Tryz.prog.funcNamed "isocline/isoclinelaw01.RatFractions" = some 7 by kernel_rfl).symm.trans hf) |>.symm
      obtain rfl : fn = Tryz.f7 := (Option.some.inj (Tryz.func7.symm.trans hfn)).symm
      exact ⟨by kernel_rfl, fun j t ht => by
        rw [Tryz.params7] at ht
        have hm : t ∈ [23, 40] := by simpa using Array.mem_of_getElem? ht
        have hall : ([23, 40].all fun u => !Tryz.prog.wantsStandIn u) = true := by kernel_rfl
        exact (show Tryz.prog.wantsStandIn t = false by simpa using List.all_eq_true.1 hall t hm)⟩)
    (by kernel_rfl)
#print axioms ratFractions_holds
end Go.Proofs.YtmahhmdodfimbaaGreatDoor
