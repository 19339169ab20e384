/- Part 14 of the texts beneath a law of layer 1: RlK, NearK, Known, RlW, Frame. -/
import Derived.Test.YtpjgoogeokbaaaaGreatDoorCi13
import Derived.BigRegion
import Derived.Test.YtpjgoogeokbaaaaGreatDoorRows
import Derived.ProofKit
import Derived.OpenShut
import Derived.LaidMore
import Derived.Lay
import Derived.Lib.SmallJoins
import Derived.Stop.Joined
/- The program: the sum of the products of two lists. -/
namespace Go.Proofs.YtpjgoogeokbaaaaGreatDoor
open Go.RowKit

theorem infop : (Tryz.prog.info? 88).map (fun i => (i.zero, i.size, i.bytes)) = some (some (.agg #[.int .i64 0, .int .i64 0, .int .i64 0, .int .i64 0]), 4, 32) := by kernel_rfl
theorem underp : Tryz.prog.underlying 86 = some (.slice 88) := by kernel_rfl
theorem makep (n : Nat) (h : n ≤ 64) (w : World) : (Instr.makeSlice 86 (.int .i64 (n : Int)) (.int .i64 (n : Int))).run Tryz.prog w =
    .ok (.slice (some ⟨w.heap.size, 0, none⟩) n n) (w.alloc (.cells (madeCells #[.int .i64 0, .int .i64 0, .int .i64 0, .int .i64 0] (n * 4)) 88)) := by
  obtain ⟨i0, hi, hz0, hz1, hz2⟩ := info_parts infop
  have hr := run_make (P := Tryz.prog) w 86 88 i0 (.agg #[.int .i64 0, .int .i64 0, .int .i64 0, .int .i64 0]) underp hi hz0 .i64 .i64 n n (by omega) (Int.le_refl _) (by rw [hz2]; omega) (by omega)
  simp only [Int.toNat_natCast] at hr
  rw [hr, hz1]
  rfl
theorem pp_new (n : Nat) (w : World) (l l' : List (Int × Int)) : PP (w.alloc (.cells (madeCells #[.int .i64 0, .int .i64 0, .int .i64 0, .int .i64 0] (n * 4)) 88)) w.heap.size n 0 l l' := by
  refine ⟨_, heap_alloc_new w _, size_madeCells _ _, fun o ho => ⟨0, ?_⟩, fun j hj => by omega⟩
  have h4 : o % 4 < 4 := Nat.mod_lt _ (by decide)
  unfold madeCells
  rw [Array.getElem?_map, Array.getElem?_range, if_pos ho]
  show some ((#[Value.int .i64 0, .int .i64 0, .int .i64 0, .int .i64 0] : Array Value)[o % 4]!) = _
  rcases (show o % 4 = 0 ∨ o % 4 = 1 ∨ o % 4 = 2 ∨ o % 4 = 3 by omega) with e | e | e | e <;> rw [e] <;> rfl
theorem pp_store {w : World} {pb m i : Nat} {l l' : List (Int × Int)} (h : PP w pb m i l l') (hi : i < m) : PP ((((w.setCell ⟨pb, i * 4, none⟩ (.int .i64 (rn l i))).setCell ⟨pb, i * 4 + 1, none⟩ (.int .i64 (rd l i))).setCell ⟨pb, i * 4 + 2, none⟩ (.int .i64 (rn l' i))).setCell ⟨pb, i * 4 + 3, none⟩ (.int .i64 (rd l' i))) pb m (i + 1) l l' := by
  obtain ⟨cs, h1, h2, h3, h4⟩ := h
  have s1 := heap_setCell_same w pb (i * 4) cs _ (.int .i64 (rn l i)) h1
  have s2 := heap_setCell_same _ pb (i * 4 + 1) _ _ (.int .i64 (rd l i)) s1
  have s3 := heap_setCell_same _ pb (i * 4 + 2) _ _ (.int .i64 (rn l' i)) s2
  have s4 := heap_setCell_same _ pb (i * 4 + 3) _ _ (.int .i64 (rd l' i)) s3
  refine ⟨_, s4, by simp [h2], fun o ho => ?_, fun j hj => ?_⟩
  · obtain ⟨z, hz⟩ := h3 o ho
    simp only [Array.getElem?_setIfInBounds, Array.size_setIfInBounds, h2]
    by_cases e4 : i * 4 + 3 = o
    · rw [if_pos e4, if_pos (by omega)]; exact ⟨_, rfl⟩
    rw [if_neg e4]
    by_cases e3 : i * 4 + 2 = o
    · rw [if_pos e3, if_pos (by omega)]; exact ⟨_, rfl⟩
    rw [if_neg e3]
    by_cases e2 : i * 4 + 1 = o
    · rw [if_pos e2, if_pos (by omega)]; exact ⟨_, rfl⟩
    rw [if_neg e2]
    by_cases e1 : i * 4 = o
    · rw [if_pos e1, if_pos (by omega)]; exact ⟨_, rfl⟩
    rw [if_neg e1]
    exact ⟨z, hz⟩
  · simp only [Array.getElem?_setIfInBounds, Array.size_setIfInBounds, h2]
    by_cases hji : j = i
    · subst hji
      refine ⟨?_, ?_, ?_, ?_⟩
      · rw [if_neg (by omega), if_neg (by omega), if_neg (by omega), if_pos rfl, if_pos (by omega)]
      · rw [if_neg (by omega), if_neg (by omega), if_pos rfl, if_pos (by omega)]
      · rw [if_neg (by omega), if_pos rfl, if_pos (by omega)]
      · rw [if_pos rfl, if_pos (by omega)]
    · obtain ⟨a, b, c, d⟩ := h4 j (by omega)
      refine ⟨?_, ?_, ?_, ?_⟩
      all_goals (rw [if_neg (by omega), if_neg (by omega), if_neg (by omega), if_neg (by omega)]; assumption)
theorem set4p_grown (w : World) (pb a b c d : Nat) (u0 u1 u2 u3 : Value) : w.grownBy ((((w.setCell ⟨pb, a, none⟩ u0).setCell ⟨pb, b, none⟩ u1).setCell ⟨pb, c, none⟩ u2).setCell ⟨pb, d, none⟩ u3) (some pb) :=
  grown_setCell (grown_setCell (grown_setCell (grown_setCell (grown_refl _ _) _ _) _ _) _ _) _ _
theorem short2 {l l' : List (Int × Int)} (hl : ¬ (64 < l.length ∨ 64 < l'.length)) : ¬ ∃ j, j < 2 ∧ 64 < ((fun j => if j = 0 then l else l') j).length := fun ⟨j, h1, h2⟩ => by
  rcases (show j = 0 ∨ j = 1 by omega) with rfl | rfl
  · exact hl (.inl h2)
  · exact hl (.inr h2)
theorem bad2 {l l' : List (Int × Int)} (hj : ¬ (Oks l ∧ Oks l')) : ∃ j, j < 2 ∧ ¬ Oks ((fun j => if j = 0 then l else l') j) := by
  by_cases h : Oks l
  · exact ⟨1, by omega, fun h' => hj ⟨h, h'⟩⟩
  · exact ⟨0, by omega, h⟩
theorem good2 {l l' : List (Int × Int)} (hj : Oks l) (hj' : Oks l') : ¬ ∃ j, j < 2 ∧ ¬ Oks ((fun j => if j = 0 then l else l') j) := fun ⟨j, h1, h2⟩ => by
  rcases (show j = 0 ∨ j = 1 by omega) with rfl | rfl
  · exact h2 hj
  · exact h2 hj'
set_option maxRecDepth 100000 in
set_option maxHeartbeats 16000000 in
theorem pdot_long (A : Option Addr) (cap : Nat) (l : List (Int × Int)) (A' : Option Addr) (cap' : Nat) (l' : List (Int × Int)) (w : World) (h : Rs w w.heap.size A l) (hcp : l.length ≤ cap) (hm : cap ≤ 9223372036854775807) (h' : Rs w w.heap.size A' l') (hcp' : l'.length ≤ cap') (hm' : cap' ≤ 9223372036854775807) (hT : Tab w) (hl : 64 < l.length ∨ 64 < l'.length) :
    Calls Tryz.prog 26 #[.slice A l.length cap, .slice A' l'.length cap'] w fun e w' => TolR w ⟨0, 0, 3⟩ e w' := by
  have HV : Hid ((3 : Int) = lstE 2 (fun j => if j = 0 then l else l')) := hide (by unfold lstE; rw [if_pos (hl.elim (fun h => ⟨0, by omega, h⟩) (fun h => ⟨1, by omega, h⟩))])
  have HT := hide hT; have HR0 := hide (And.intro h (And.intro hcp hm)); have HR1 := hide (And.intro h' (And.intro hcp' hm'))
  clear hT h h' hl
  go_enter Tryz.func26, Tryz.ntmps26
  go_upto_region 1 with fail
  obtain ⟨n0, hsz, hw0⟩ := one_new w (.cells #[.int .i64 0, .int .i64 0] 23)
  generalize w.alloc (.cells #[.int .i64 0, .int .i64 0] 23) = W0 at *
  have r0 : W0.cell? ⟨w.heap.size, 0, none⟩ = some (.int .i64 0) := cells_of n0 0
  have r1 : W0.cell? ⟨w.heap.size, 1, none⟩ = some (.int .i64 0) := cells_of n0 1
  have f0 := unfrozen_of n0 0; have f1 := unfrozen_of n0 1
  have q0 := lt_of_block n0
  clear n0 hsz
  go_wp2_with fail
  have hnew := heap_alloc_new W0 (.cells #[.slice A l.length cap, .slice A' l'.length cap'] 35)
  have hb := below_alloc (Below.refl W0.heap.size W0) (.cells #[.slice A l.length cap, .slice A' l'.length cap'] 35)
  have hlt0 := lt_of_block hnew
  obtain ⟨hc, hfz⟩ := bcell hb
  replace r0 := (hc _ _ q0).trans r0
  replace r1 := (hc _ _ q0).trans r1
  replace f0 := (hfz _ _ q0).trans f0
  replace f1 := (hfz _ _ q0).trans f1
  replace q0 := Nat.lt_of_lt_of_le q0 hb.size
  replace hw0 := below_step' hw0 hb
  clear hc hfz
  refine (liste_any W0.heap.size 2 (fun j => if j = 0 then A else A') (fun j => if j = 0 then cap else cap') (fun j => if j = 0 then l else l') _ (fun j hj => by
      rcases (show j = 0 ∨ j = 1 by omega) with rfl | rfl
      · exact cells_of hnew 0
      · exact cells_of hnew 1) hlt0 (by omega) ((unhide HT).below hw0) (fun j hj => by
      rcases (show j = 0 ∨ j = 1 by omega) with rfl | rfl
      · exact ⟨((unhide HR0).1.below hw0).up hw0.size, (unhide HR0).2.1, (unhide HR0).2.2⟩
      · exact ⟨((unhide HR1).1.below hw0).up hw0.size, (unhide HR1).2.1, (unhide HR1).2.2⟩) 3 (unhide HV)).mono ?_
  rintro e W2 ⟨rfl, hb2⟩
  clear hnew hlt0 hb
  have hb := hb2
  clear hb2
  obtain ⟨hc, hfz⟩ := bcell hb
  replace r0 := (hc _ _ q0).trans r0
  replace r1 := (hc _ _ q0).trans r1
  replace f0 := (hfz _ _ q0).trans f0
  replace f1 := (hfz _ _ q0).trans f1
  replace q0 := Nat.lt_of_lt_of_le q0 hb.size
  replace hw0 := below_step' hw0 hb
  clear hc hfz
  clear hb
  go_wp2_with fail
  exact bodyPost_ret (v := .tuple #[.agg #[.int .i64 0, .int .i64 0], .int .i64 3]) (by simp [results, Tryz.results26, go_sem, r0, r1, q0]) rfl
    ⟨rfl, hw0.grown (set2_grown _ _ _ _) hw0.size (fun k hk => by injection hk with hk; omega)⟩
set_option maxRecDepth 100000 in
set_option maxHeartbeats 16000000 in
theorem pdot_bad (A : Option Addr) (cap : Nat) (l : List (Int × Int)) (A' : Option Addr) (cap' : Nat) (l' : List (Int × Int)) (w : World) (h : Rs w w.heap.size A l) (hcp : l.length ≤ cap) (hm : cap ≤ 9223372036854775807) (h' : Rs w w.heap.size A' l') (hcp' : l'.length ≤ cap') (hm' : cap' ≤ 9223372036854775807) (hT : Tab w) (hl : ¬ (64 < l.length ∨ 64 < l'.length)) (hj : ¬ (Oks l ∧ Oks l')) :
    Calls Tryz.prog 26 #[.slice A l.length cap, .slice A' l'.length cap'] w fun e w' => TolR w ⟨0, 0, 1⟩ e w' := by
  have HV : Hid ((1 : Int) = lstE 2 (fun j => if j = 0 then l else l')) := hide (by unfold lstE; rw [if_neg (short2 hl), if_pos (bad2 hj)])
  have HT := hide hT; have HR0 := hide (And.intro h (And.intro hcp hm)); have HR1 := hide (And.intro h' (And.intro hcp' hm'))
  clear hT h h' hl hj
  go_enter Tryz.func26, Tryz.ntmps26
  go_upto_region 1 with fail
  obtain ⟨n0, hsz, hw0⟩ := one_new w (.cells #[.int .i64 0, .int .i64 0] 23)
  generalize w.alloc (.cells #[.int .i64 0, .int .i64 0] 23) = W0 at *
  have r0 : W0.cell? ⟨w.heap.size, 0, none⟩ = some (.int .i64 0) := cells_of n0 0
  have r1 : W0.cell? ⟨w.heap.size, 1, none⟩ = some (.int .i64 0) := cells_of n0 1
  have f0 := unfrozen_of n0 0; have f1 := unfrozen_of n0 1
  have q0 := lt_of_block n0
  clear n0 hsz
  go_wp2_with fail
  have hnew := heap_alloc_new W0 (.cells #[.slice A l.length cap, .slice A' l'.length cap'] 35)
  have hb := below_alloc (Below.refl W0.heap.size W0) (.cells #[.slice A l.length cap, .slice A' l'.length cap'] 35)
  have hlt0 := lt_of_block hnew
  obtain ⟨hc, hfz⟩ := bcell hb
  replace r0 := (hc _ _ q0).trans r0
  replace r1 := (hc _ _ q0).trans r1
  replace f0 := (hfz _ _ q0).trans f0
  replace f1 := (hfz _ _ q0).trans f1
  replace q0 := Nat.lt_of_lt_of_le q0 hb.size
  replace hw0 := below_step' hw0 hb
  clear hc hfz
  refine (liste_any W0.heap.size 2 (fun j => if j = 0 then A else A') (fun j => if j = 0 then cap else cap') (fun j => if j = 0 then l else l') _ (fun j hj => by
      rcases (show j = 0 ∨ j = 1 by omega) with rfl | rfl
      · exact cells_of hnew 0
      · exact cells_of hnew 1) hlt0 (by omega) ((unhide HT).below hw0) (fun j hj => by
      rcases (show j = 0 ∨ j = 1 by omega) with rfl | rfl
      · exact ⟨((unhide HR0).1.below hw0).up hw0.size, (unhide HR0).2.1, (unhide HR0).2.2⟩
      · exact ⟨((unhide HR1).1.below hw0).up hw0.size, (unhide HR1).2.1, (unhide HR1).2.2⟩) 1 (unhide HV)).mono ?_
  rintro e W2 ⟨rfl, hb2⟩
  clear hnew hlt0 hb
  have hb := hb2
  clear hb2
  obtain ⟨hc, hfz⟩ := bcell hb
  replace r0 := (hc _ _ q0).trans r0
  replace r1 := (hc _ _ q0).trans r1
  replace f0 := (hfz _ _ q0).trans f0
  replace f1 := (hfz _ _ q0).trans f1
  replace q0 := Nat.lt_of_lt_of_le q0 hb.size
  replace hw0 := below_step' hw0 hb
  clear hc hfz
  clear hb
  go_wp2_with fail
  exact bodyPost_ret (v := .tuple #[.agg #[.int .i64 0, .int .i64 0], .int .i64 1]) (by simp [results, Tryz.results26, go_sem, r0, r1, q0]) rfl
    ⟨rfl, hw0.grown (set2_grown _ _ _ _) hw0.size (fun k hk => by injection hk with hk; omega)⟩
set_option maxRecDepth 100000 in
set_option maxHeartbeats 16000000 in
theorem pdot_fit (A : Option Addr) (cap : Nat) (l : List (Int × Int)) (A' : Option Addr) (cap' : Nat) (l' : List (Int × Int)) (w : World) (h : Rs w w.heap.size A l) (hcp : l.length ≤ cap) (hm : cap ≤ 9223372036854775807) (h' : Rs w w.heap.size A' l') (hcp' : l'.length ≤ cap') (hm' : cap' ≤ 9223372036854775807) (hT : Tab w) (hl : ¬ (64 < l.length ∨ 64 < l'.length)) (hj : Oks l) (hj' : Oks l') (hf : l.length ≠ l'.length) :
    Calls Tryz.prog 26 #[.slice A l.length cap, .slice A' l'.length cap'] w fun e w' => TolR w ⟨0, 0, 8⟩ e w' := by
  have HV : Hid ((0 : Int) = lstE 2 (fun j => if j = 0 then l else l')) := hide (by unfold lstE; rw [if_neg (short2 hl), if_neg (good2 hj hj')])
  have HT := hide hT; have HR0 := hide (And.intro h (And.intro hcp hm)); have HR1 := hide (And.intro h' (And.intro hcp' hm'))
  have b1 : ((l.length : Int) == (l'.length : Int)) = false := beq_eq_false_iff_ne.2 (by omega)
  have b2 : (l.length == l'.length) = false := beq_eq_false_iff_ne.2 hf
  clear hT h h' hl hj hj'
  go_enter Tryz.func26, Tryz.ntmps26
  go_upto_region 1 with fail
  obtain ⟨n0, hsz, hw0⟩ := one_new w (.cells #[.int .i64 0, .int .i64 0] 23)
  generalize w.alloc (.cells #[.int .i64 0, .int .i64 0] 23) = W0 at *
  have r0 : W0.cell? ⟨w.heap.size, 0, none⟩ = some (.int .i64 0) := cells_of n0 0
  have r1 : W0.cell? ⟨w.heap.size, 1, none⟩ = some (.int .i64 0) := cells_of n0 1
  have f0 := unfrozen_of n0 0; have f1 := unfrozen_of n0 1
  have q0 := lt_of_block n0
  clear n0 hsz
  go_wp2_with fail
  have hnew := heap_alloc_new W0 (.cells #[.slice A l.length cap, .slice A' l'.length cap'] 35)
  have hb := below_alloc (Below.refl W0.heap.size W0) (.cells #[.slice A l.length cap, .slice A' l'.length cap'] 35)
  have hlt0 := lt_of_block hnew
  obtain ⟨hc, hfz⟩ := bcell hb
  replace r0 := (hc _ _ q0).trans r0
  replace r1 := (hc _ _ q0).trans r1
  replace f0 := (hfz _ _ q0).trans f0
  replace f1 := (hfz _ _ q0).trans f1
  replace q0 := Nat.lt_of_lt_of_le q0 hb.size
  replace hw0 := below_step' hw0 hb
  clear hc hfz
  refine (liste_any W0.heap.size 2 (fun j => if j = 0 then A else A') (fun j => if j = 0 then cap else cap') (fun j => if j = 0 then l else l') _ (fun j hj => by
      rcases (show j = 0 ∨ j = 1 by omega) with rfl | rfl
      · exact cells_of hnew 0
      · exact cells_of hnew 1) hlt0 (by omega) ((unhide HT).below hw0) (fun j hj => by
      rcases (show j = 0 ∨ j = 1 by omega) with rfl | rfl
      · exact ⟨((unhide HR0).1.below hw0).up hw0.size, (unhide HR0).2.1, (unhide HR0).2.2⟩
      · exact ⟨((unhide HR1).1.below hw0).up hw0.size, (unhide HR1).2.1, (unhide HR1).2.2⟩) 0 (unhide HV)).mono ?_
  rintro e W2 ⟨rfl, hb2⟩
  clear hnew hlt0 hb
  have hb := hb2
  clear hb2
  obtain ⟨hc, hfz⟩ := bcell hb
  replace r0 := (hc _ _ q0).trans r0
  replace r1 := (hc _ _ q0).trans r1
  replace f0 := (hfz _ _ q0).trans f0
  replace f1 := (hfz _ _ q0).trans f1
  replace q0 := Nat.lt_of_lt_of_le q0 hb.size
  replace hw0 := below_step' hw0 hb
  clear hc hfz
  clear hb
  go_wp2_with fail
  exact bodyPost_ret (v := .tuple #[.agg #[.int .i64 0, .int .i64 0], .int .i64 8]) (by simp [results, Tryz.results26, go_sem, r0, r1, q0]) rfl
    ⟨rfl, hw0.grown (set2_grown _ _ _ _) hw0.size (fun k hk => by injection hk with hk; omega)⟩
set_option maxRecDepth 100000 in
set_option maxHeartbeats 16000000 in
theorem pdot_ok (A : Option Addr) (cap : Nat) (l : List (Int × Int)) (A' : Option Addr) (cap' : Nat) (l' : List (Int × Int)) (w : World) (h : Rs w w.heap.size A l) (hcp : l.length ≤ cap) (hm : cap ≤ 9223372036854775807) (h' : Rs w w.heap.size A' l') (hcp' : l'.length ≤ cap') (hm' : cap' ≤ 9223372036854775807) (hT : Tab w) (hl : ¬ (64 < l.length ∨ 64 < l'.length)) (hj : Oks l) (hj' : Oks l') (hf : l.length = l'.length) :
    Calls Tryz.prog 26 #[.slice A l.length cap, .slice A' l'.length cap'] w fun e w' => TolR w (Wd.told (Wd.sumTo (qMul l l') l.length)) e w' := by
  have HV : Hid ((0 : Int) = lstE 2 (fun j => if j = 0 then l else l')) := hide (by unfold lstE; rw [if_neg (short2 hl), if_neg (good2 hj hj')])
  have HT := hide hT; have HR0 := hide (And.intro h (And.intro hcp hm)); have HR1 := hide (And.intro h' (And.intro hcp' hm'))
  have HJ := hide hj; have HJ' := hide hj'; have HL := hide (show ¬ 64 < l.length from fun h => hl (.inl h)); have HF := hide hf
  obtain ⟨m, hmm⟩ : ∃ m, m = l.length := ⟨_, rfl⟩
  have HM := Lib.hid hmm
  have HM' := Lib.hid (hmm.trans hf)
  have hm64 : m ≤ 64 := by omega
  clear hT h h' hl hj hj' hf
  go_enter Tryz.func26, Tryz.ntmps26
  go_upto_region 1 with fail
  obtain ⟨n0, hsz, hw0⟩ := one_new w (.cells #[.int .i64 0, .int .i64 0] 23)
  generalize w.alloc (.cells #[.int .i64 0, .int .i64 0] 23) = W0 at *
  have r0 : W0.cell? ⟨w.heap.size, 0, none⟩ = some (.int .i64 0) := cells_of n0 0
  have r1 : W0.cell? ⟨w.heap.size, 1, none⟩ = some (.int .i64 0) := cells_of n0 1
  have f0 := unfrozen_of n0 0; have f1 := unfrozen_of n0 1
  have q0 := lt_of_block n0
  clear n0 hsz
  go_wp2_with fail
  have hnew := heap_alloc_new W0 (.cells #[.slice A l.length cap, .slice A' l'.length cap'] 35)
  have hb := below_alloc (Below.refl W0.heap.size W0) (.cells #[.slice A l.length cap, .slice A' l'.length cap'] 35)
  have hlt0 := lt_of_block hnew
  obtain ⟨hc, hfz⟩ := bcell hb
  replace r0 := (hc _ _ q0).trans r0
  replace r1 := (hc _ _ q0).trans r1
  replace f0 := (hfz _ _ q0).trans f0
  replace f1 := (hfz _ _ q0).trans f1
  replace q0 := Nat.lt_of_lt_of_le q0 hb.size
  replace hw0 := below_step' hw0 hb
  clear hc hfz
  refine (liste_any W0.heap.size 2 (fun j => if j = 0 then A else A') (fun j => if j = 0 then cap else cap') (fun j => if j = 0 then l else l') _ (fun j hj => by
      rcases (show j = 0 ∨ j = 1 by omega) with rfl | rfl
      · exact cells_of hnew 0
      · exact cells_of hnew 1) hlt0 (by omega) ((unhide HT).below hw0) (fun j hj => by
      rcases (show j = 0 ∨ j = 1 by omega) with rfl | rfl
      · exact ⟨((unhide HR0).1.below hw0).up hw0.size, (unhide HR0).2.1, (unhide HR0).2.2⟩
      · exact ⟨((unhide HR1).1.below hw0).up hw0.size, (unhide HR1).2.1, (unhide HR1).2.2⟩) 0 (unhide HV)).mono ?_
  rintro e W2 ⟨rfl, hb2⟩
  clear hnew hlt0 hb
  have hb := hb2
  clear hb2
  obtain ⟨hc, hfz⟩ := bcell hb
  replace r0 := (hc _ _ q0).trans r0
  replace r1 := (hc _ _ q0).trans r1
  replace f0 := (hfz _ _ q0).trans f0
  replace f1 := (hfz _ _ q0).trans f1
  replace q0 := Nat.lt_of_lt_of_le q0 hb.size
  replace hw0 := below_step' hw0 hb
  clear hc hfz
  clear hb
  clear HV
  have hf := unhide HF
  rw [← hf] at hcp' ⊢
  rw [← hmm] at hcp hcp' ⊢
  have hmk := fun W => makep m hm64 W
  clear hmm hf
  go_upto_region 6 with fail
  go_wp2_with fail
  have hpp := pp_new m W2 l l'
  have hb := below_alloc (Below.refl W2.heap.size W2) (.cells (madeCells #[.int .i64 0, .int .i64 0, .int .i64 0, .int .i64 0] (m * 4)) 88)
  obtain ⟨pb, hpb⟩ : ∃ b, b = W2.heap.size := ⟨_, rfl⟩
  rw [← hpb] at hpp ⊢
  have hpB : w.heap.size < pb := by rw [hpb]; exact q0
  have hpl := hpp.lt
  generalize W2.alloc (.cells (madeCells #[.int .i64 0, .int .i64 0, .int .i64 0, .int .i64 0] (m * 4)) 88) = W3 at *
  obtain ⟨hc, hfz⟩ := bcell hb
  replace r0 := (hc _ _ q0).trans r0
  replace r1 := (hc _ _ q0).trans r1
  replace f0 := (hfz _ _ q0).trans f0
  replace f1 := (hfz _ _ q0).trans f1
  replace q0 := Nat.lt_of_lt_of_le q0 hb.size
  replace hw0 := below_step' hw0 hb
  clear hc hfz
  clear hb hpb hmk
  have HW0 := hide hw0; have HRES := hide (And.intro (And.intro r0 r1) (And.intro (And.intro f0 f1) q0)); have HQ0 := hide q0
  have hbs := hw0.size
  clear r0 r1 f0 f1 q0 hw0
  go_loopw [28] (fun iv wr => ∃ i : Nat, i ≤ m ∧ iv = .int .i64 ((i : Nat) : Int) ∧ Hid (PP wr pb m i l l') ∧ Hid (Below pb W3 wr)) (fun iv _ => m - (intOf iv).toNat)
  case atStart => exact ⟨0, Nat.zero_le _, by first | rfl | go_num, hide hpp, hide (Below.refl _ _)⟩
  case round =>
    obtain ⟨i, hi, rfl, hpq, hgr⟩ := hrel
    have hwr : Below w.heap.size w wr := (unhide HW0).trans ((unhide hgr).mono (by omega))
    have hq0 := unhide HQ0
    have hgs := (unhide hgr).size
    by_cases hlt : i < m
    · have hil : i < l.length := by rw [← HM.out]; exact hlt
      have hil' : i < l'.length := by rw [← HM'.out]; exact hlt
      obtain ⟨b, off, rfl, hbb, hcell⟩ := (unhide HR0).1 (by omega)
      obtain ⟨b', off', rfl, hbb', hcell'⟩ := (unhide HR1).1 (by omega)
      have k0 := (hwr.cell (p := ⟨b, off + i * 2, none⟩) hbb).trans (hcell i hil).1
      have k1 := (hwr.cell (p := ⟨b, off + i * 2 + 1, none⟩) hbb).trans (hcell i hil).2
      have k2 := (hwr.cell (p := ⟨b', off' + i * 2, none⟩) hbb').trans (hcell' i hil').1
      have k3 := (hwr.cell (p := ⟨b', off' + i * 2 + 1, none⟩) hbb').trans (hcell' i hil').2
      have qb := Nat.lt_of_lt_of_le hbb hwr.size
      have qb' := Nat.lt_of_lt_of_le hbb' hwr.size
      have hps := pp_store (unhide hpq) hlt
      have hpl2 := (unhide hpq).lt
      have hbn := (unhide hgr).grown (set4p_grown wr pb (i * 4) (i * 4 + 1) (i * 4 + 2) (i * 4 + 3) (.int .i64 (rn l i)) (.int .i64 (rd l i)) (.int .i64 (rn l' i)) (.int .i64 (rd l' i))) (by omega) (fun k hk => by injection hk with hk; omega)
      obtain ⟨cs, p1, p2, p3, p4⟩ := unhide hpq
      obtain ⟨z0, c0⟩ := p3 (i * 4) (by omega)
      obtain ⟨z1, c1⟩ := p3 (i * 4 + 1) (by omega)
      obtain ⟨z2, c2⟩ := p3 (i * 4 + 2) (by omega)
      obtain ⟨z3, c3⟩ := p3 (i * 4 + 3) (by omega)
      have x0 := (cells_of p1 (i * 4)).trans c0
      have x1 := (cells_of p1 (i * 4 + 1)).trans c1
      have x2 := (cells_of p1 (i * 4 + 2)).trans c2
      have x3 := (cells_of p1 (i * 4 + 3)).trans c3
      have y0 := unfrozen_of p1 (i * 4)
      have y1 := unfrozen_of p1 (i * 4 + 1)
      have y2 := unfrozen_of p1 (i * 4 + 2)
      have y3 := unfrozen_of p1 (i * 4 + 3)
      have HPS := hide (And.intro hps hbn)
      obtain ⟨nn, hnn⟩ : ∃ z, z = rn l i := ⟨_, rfl⟩
      obtain ⟨dd, hdd⟩ : ∃ z, z = rd l i := ⟨_, rfl⟩
      obtain ⟨nn', hnn'⟩ : ∃ z, z = rn l' i := ⟨_, rfl⟩
      obtain ⟨dd', hdd'⟩ : ∃ z, z = rd l' i := ⟨_, rfl⟩
      rw [← hnn] at k0 HPS
      rw [← hdd] at k1 HPS
      rw [← hnn'] at k2 HPS
      rw [← hdd'] at k3 HPS
      have dl1 : decide ((i : Int) < (m : Int)) = true := decide_eq_true (by omega)
      have dl2 : decide (i < m) = true := decide_eq_true hlt
      clear hcell hcell' hps hbn p1 p2 p3 p4 c0 c1 c2 c3 hnn hdd hnn' hdd' hil hil' hpq hgr hwr hbb hbb'
      go_wp2_with fail
      go_region
      all_goals
        go_wp2_with fail
        go_roundw
        case rel => exact ⟨i + 1, by omega, by first | rfl | go_num, hide (unhide HPS).1, by first | exact hide (unhide HPS).2 | exact hide (unhide HPS).2.drew⟩
        case measure => simp [intOf] <;> omega
    · obtain rfl : i = m := by omega
      have dl1 : decide ((i : Int) < (i : Int)) = false := decide_eq_false (by omega)
      have dl2 : decide (i < i) = false := decide_eq_false (by omega)
      obtain ⟨⟨r0, r1⟩, ⟨f0, f1⟩, q0⟩ := unhide HRES
      have hblk := (unhide hgr).block w.heap.size (by omega)
      replace r0 := (World.cell?_of_block (a := ⟨w.heap.size, 0, none⟩) hblk).trans r0
      replace r1 := (World.cell?_of_block (a := ⟨w.heap.size, 1, none⟩) hblk).trans r1
      replace f0 := (World.frozen?_of_block (a := ⟨w.heap.size, 0, none⟩) hblk).trans f0
      replace f1 := (World.frozen?_of_block (a := ⟨w.heap.size, 1, none⟩) hblk).trans f1
      replace q0 := Nat.lt_of_lt_of_le q0 hgs
      have hto := fun W (hW : Below wr.heap.size wr W) => totalp_any pb l l' W ((HM.out ▸ (unhide hpq) : PP wr pb l.length l.length l l').keep (hW.block _ (unhide hpq).lt)) (unhide HL) (unhide HJ) (unhide HJ') (unhide HF) ((unhide HT).below (hwr.trans (hW.mono hwr.size)))
      rw [← HM.out] at hto
      have HTO := hide hto
      have hw0 := hwr
      clear hto hblk hwr hgr HRES HW0 hpq hpp
      go_wp2_with fail
      refine ((unhide HTO) _ (by first | exact Below.refl _ _ | exact (Below.refl _ _).drew)).mono ?_
      rintro e W7 ⟨s1a, neg1a, A1a, c1a, l1a, s1b, neg1b, A1b, c1b, l1b, rfl, g1, g2, hb⟩
      have hrat := rrat_any s1a neg1a A1a c1a l1a _ s1b neg1b A1b c1b l1b _ W7 g1 g2 _ rfl rfl
      have HRAT := hide hrat
      obtain ⟨hc, hfz⟩ := bcell hb
      replace r0 := (hc _ _ q0).trans r0
      replace r1 := (hc _ _ q0).trans r1
      replace f0 := (hfz _ _ q0).trans f0
      replace f1 := (hfz _ _ q0).trans f1
      replace q0 := Nat.lt_of_lt_of_le q0 hb.size
      replace hw0 := below_step' hw0 hb
      clear hc hfz
      clear hb hrat g1 g2
      go_wp2_with fail
      refine (unhide HRAT).mono ?_
      rintro e W5 ⟨rfl, hb⟩
      obtain ⟨hc, hfz⟩ := bcell hb
      replace r0 := (hc _ _ q0).trans r0
      replace r1 := (hc _ _ q0).trans r1
      replace f0 := (hfz _ _ q0).trans f0
      replace f1 := (hfz _ _ q0).trans f1
      replace q0 := Nat.lt_of_lt_of_le q0 hb.size
      replace hw0 := below_step' hw0 hb
      clear hc hfz
      clear hb
      go_wp2_with fail
      exact bodyPost_ret (v := .tuple #[.agg #[.int .i64 (Wd.told (Wd.sumTo (qMul l l') i)).n, .int .i64 (Wd.told (Wd.sumTo (qMul l l') i)).d], .int .i64 (Wd.told (Wd.sumTo (qMul l l') i)).e]) (by simp [results, Tryz.results26, go_sem, r0, r1, q0]) rfl
        ⟨by first | rfl | rw [HM.out], hw0.grown (set2_grown _ _ _ _) hw0.size (fun k hk => by injection hk with hk; omega)⟩
theorem pdot_any (A : Option Addr) (cap : Nat) (l : List (Int × Int)) (A' : Option Addr) (cap' : Nat) (l' : List (Int × Int)) (w : World) (h : Rs w w.heap.size A l) (hcp : l.length ≤ cap) (hm : cap ≤ 9223372036854775807) (h' : Rs w w.heap.size A' l') (hcp' : l'.length ≤ cap') (hm' : cap' ≤ 9223372036854775807) (hT : Tab w) :
    Calls Tryz.prog 26 #[.slice A l.length cap, .slice A' l'.length cap'] w fun e w' => TolR w (tdotT l l') e w' := by
  unfold tdotT
  by_cases hl : 64 < l.length ∨ 64 < l'.length
  · rw [if_pos hl]; exact pdot_long A cap l A' cap' l' w h hcp hm h' hcp' hm' hT hl
  rw [if_neg hl]
  by_cases hj : Oks l ∧ Oks l'
  · rw [if_pos hj]
    by_cases hf : l.length = l'.length
    · rw [if_pos hf]; exact pdot_ok A cap l A' cap' l' w h hcp hm h' hcp' hm' hT hl hj.1 hj.2 hf
    · rw [if_neg hf]; exact pdot_fit A cap l A' cap' l' w h hcp hm h' hcp' hm' hT hl hj.1 hj.2 hf
  · rw [if_neg hj]; exact pdot_bad A cap l A' cap' l' w h hcp hm h' hcp' hm' hT hl hj

end Go.Proofs.YtpjgoogeokbaaaaGreatDoor
/- The number nearest to 22/7 with a denominator of at most 5. -/
namespace Go.Proofs.YtpjgoogeokbaaaaGreatDoor
open Go.RowKit

set_option maxRecDepth 100000 in
set_option maxHeartbeats 16000000 in
theorem near_known (w : World) (hT : Tab w) :
    Calls Tryz.prog 18 #[(Value.agg #[.int .i64 22, .int .i64 7]), .int .i64 5] w fun e w' => e = .returned (.tuple #[(Value.agg #[.int .i64 16, .int .i64 5]), .int .i64 0]) ∧ Below w.heap.size w w' := by
  have HV := hide (val_any 22 7)
  rw [show valE 22 7 = 0 by decide] at HV
  have HNB := hide nb_known
  have HO := hide (fun W => rof_any 22 7 W (by omega) (by omega) (by omega) (by omega))
  have HO1 := hide (fun W => rof_any 3 1 W (by omega) (by omega) (by omega) (by omega))
  have HO2 := hide (fun W => rof_any 16 5 W (by omega) (by omega) (by omega) (by omega))
  have o1 : Wd.okR 22 7 := by decide
  have o2 : Wd.okR 3 1 := by decide
  have o3 : Wd.okR 16 5 := by decide
  obtain ⟨e1, e2⟩ := Wd.qR_ok o1
  obtain ⟨e3, e4⟩ := Wd.qR_ok o2
  obtain ⟨e5, e6⟩ := Wd.qR_ok o3
  obtain ⟨hs1, z1⟩ := opq_sub hT (Wd.qR 22 7) (Wd.qR 3 1) (okR_sz o1) (okR_sz o2) lim3
  obtain ⟨hs2, z2⟩ := opq_sub hT (Wd.qR 16 5) (Wd.qR 22 7) (okR_sz o3) (okR_sz o1) lim3
  have hcc := opc_cmp w _ _ z1 z2 (by unfold lim; omega)
  rw [show sgn ((Wd.qR 22 7 - Wd.qR 3 1).num * (Wd.qR 16 5 - Wd.qR 22 7).den - (Wd.qR 16 5 - Wd.qR 22 7).num * (Wd.qR 22 7 - Wd.qR 3 1).den) = 1 by decide +kernel] at hcc
  unfold OpQ2 at hs1 hs2
  unfold OpC at hcc
  rw [e1, e2, e3, e4] at hs1
  rw [e5, e6, e1, e2] at hs2
  generalize Wd.qR 22 7 - Wd.qR 3 1 = u at *
  generalize Wd.qR 16 5 - Wd.qR 22 7 = v at *
  have HS1 := hide hs1
  have HS2 := hide hs2
  have HCC := hide hcc
  have HT := hide hT
  clear hT o1 o2 o3 e1 e2 e3 e4 e5 e6 hs1 hs2 z1 z2 hcc
  go_enter Tryz.func18, Tryz.ntmps18
  go_wp2_with fail
  obtain ⟨n0_, n1_, hsz, hw0⟩ := two_new w (.cells #[.int .i64 22, .int .i64 7] 23) (.cells #[.int .i64 0, .int .i64 0] 23)
  generalize ((w.alloc (.cells #[.int .i64 22, .int .i64 7] 23)).alloc (.cells #[.int .i64 0, .int .i64 0] 23)) = W0 at *
  clear hsz
  refine ((unhide HV) _ ((unhide HT).below hw0)).mono ?_
  rintro e W1 ⟨rfl, hb⟩
  have x1 := (hb.block _ (lt_of_block n0_)).trans n0_
  have r1 := (hb.block _ (lt_of_block n1_)).trans n1_
  have hw1 := below_step' hw0 hb
  clear n0_ n1_ hb hw0 W0
  have k0 : W1.cell? ⟨w.heap.size, 0, none⟩ = some (.int .i64 22) := cells_of x1 0
  have k1 : W1.cell? ⟨w.heap.size, 1, none⟩ = some (.int .i64 7) := cells_of x1 1
  have X1 := hide x1
  have R1 := hide r1
  clear x1 r1
  go_wp2_with fail
  refine ((unhide HNB) _).mono ?_
  rintro e W2 ⟨rfl, hb⟩
  have x1 := (hb.block _ (lt_of_block (unhide X1))).trans (unhide X1)
  have r1 := (hb.block _ (lt_of_block (unhide R1))).trans (unhide R1)
  have hw2 := below_step' hw1 hb
  clear k0 k1 hb hw1 X1 R1
  have k0 : W2.cell? ⟨w.heap.size, 0, none⟩ = some (.int .i64 22) := cells_of x1 0
  have k1 : W2.cell? ⟨w.heap.size, 1, none⟩ = some (.int .i64 7) := cells_of x1 1
  have X1 := hide x1
  have R1 := hide r1
  clear x1 r1
  go_upto_region 9 with fail
  obtain ⟨n7, n8, hsz, hb⟩ := two_new W2 (.cells #[.int .i64 3, .int .i64 1] 23) (.cells #[.int .i64 16, .int .i64 5] 23)
  have x1 := (hb.block _ (lt_of_block (unhide X1))).trans (unhide X1)
  have r1 := (hb.block _ (lt_of_block (unhide R1))).trans (unhide R1)
  have hw3 := below_step' hw2 hb
  generalize ((W2.alloc (.cells #[.int .i64 3, .int .i64 1] 23)).alloc (.cells #[.int .i64 16, .int .i64 5] 23)) = W3 at *
  have ob7 : w.heap.size + 1 < W2.heap.size := lt_of_block (unhide R1)
  obtain ⟨b7, hb7⟩ : ∃ b, b = W2.heap.size := ⟨_, rfl⟩
  rw [← hb7] at n7 n8 ob7 ⊢
  clear k0 k1 hb hw2 X1 R1 hsz hb7
  have k0 : W3.cell? ⟨w.heap.size, 0, none⟩ = some (.int .i64 22) := cells_of x1 0
  have k1 : W3.cell? ⟨w.heap.size, 1, none⟩ = some (.int .i64 7) := cells_of x1 1
  go_wp2_with fail
  refine ((unhide HO) _).mono ?_
  rintro e W4 ⟨s1, neg1, A1, c1, l1, s2, neg2, A2, c2, l2, rfl, hf1, hf2, hb⟩
  go_upto_region 10 with fail
  have n9 := heap_alloc_new W4 (.cells #[.int .i64 s1, .bool neg1, .slice A1 l1.length c1, .int .i64 s2, .bool neg2, .slice A2 l2.length c2] 63)
  have hn : Below W4.heap.size W4 (W4.alloc (.cells #[.int .i64 s1, .bool neg1, .slice A1 l1.length c1, .int .i64 s2, .bool neg2, .slice A2 l2.length c2] 63)) := below_alloc (Below.refl _ _) _
  have ob9 : W3.heap.size ≤ W4.heap.size := hb.size
  generalize W4.alloc (.cells #[.int .i64 s1, .bool neg1, .slice A1 l1.length c1, .int .i64 s2, .bool neg2, .slice A2 l2.length c2] 63) = W5 at *
  obtain ⟨b9, hb9⟩ : ∃ b, b = W4.heap.size := ⟨_, rfl⟩
  rw [← hb9] at n9 ob9 ⊢
  have hB5 := below_step' hb hn
  have H1 := hide (hf1.below hn)
  have H2 := hide (hf2.below hn)
  have m7 := (hB5.block _ (lt_of_block n7)).trans n7
  have m8 := (hB5.block _ (lt_of_block n8)).trans n8
  have mr := (hB5.block _ (lt_of_block r1)).trans r1
  have HB := Lib.hid (below_step' hw3 hB5)
  have HM8 := hide m8
  have HMR := hide mr
  have kb7_0 : W5.cell? ⟨b7, 0, none⟩ = some (.int .i64 3) := cells_of m7 0
  have kb7_1 : W5.cell? ⟨b7, 1, none⟩ = some (.int .i64 1) := cells_of m7 1
  have kb8_0 : W5.cell? ⟨b7 + 1, 0, none⟩ = some (.int .i64 16) := cells_of m8 0
  have kb8_1 : W5.cell? ⟨b7 + 1, 1, none⟩ = some (.int .i64 5) := cells_of m8 1
  have kb9_0 : W5.cell? ⟨b9, 0, none⟩ = some (.int .i64 s1) := cells_of n9 0
  have kb9_1 : W5.cell? ⟨b9, 1, none⟩ = some (.bool neg1) := cells_of n9 1
  have kb9_2 : W5.cell? ⟨b9, 2, none⟩ = some (.slice A1 l1.length c1) := cells_of n9 2
  have kb9_3 : W5.cell? ⟨b9, 3, none⟩ = some (.int .i64 s2) := cells_of n9 3
  have kb9_4 : W5.cell? ⟨b9, 4, none⟩ = some (.bool neg2) := cells_of n9 4
  have kb9_5 : W5.cell? ⟨b9, 5, none⟩ = some (.slice A2 l2.length c2) := cells_of n9 5
  have qb7 := lt_of_block m7
  have qb8 := lt_of_block m8
  have qb9 := lt_of_block n9
  clear k0 k1 hf1 hf2 hb hn n7 n8 n9 x1 r1 m7 m8 mr hw3 hB5 ob9 hb9
  have KEEP := hide (show ∀ X, Below W5.heap.size W5 X → X.cell? ⟨b7, 0, none⟩ = some (.int .i64 3) ∧ X.cell? ⟨b7, 1, none⟩ = some (.int .i64 1) ∧ X.cell? ⟨b7 + 1, 0, none⟩ = some (.int .i64 16) ∧ X.cell? ⟨b7 + 1, 1, none⟩ = some (.int .i64 5) ∧ X.cell? ⟨b9, 0, none⟩ = some (.int .i64 s1) ∧ X.cell? ⟨b9, 1, none⟩ = some (.bool neg1) ∧ X.cell? ⟨b9, 2, none⟩ = some (.slice A1 l1.length c1) ∧ X.cell? ⟨b9, 3, none⟩ = some (.int .i64 s2) ∧ X.cell? ⟨b9, 4, none⟩ = some (.bool neg2) ∧ X.cell? ⟨b9, 5, none⟩ = some (.slice A2 l2.length c2) from fun X hB => ⟨keep_cell hB qb7 kb7_0, keep_cell hB qb7 kb7_1, keep_cell hB qb8 kb8_0, keep_cell hB qb8 kb8_1, keep_cell hB qb9 kb9_0, keep_cell hB qb9 kb9_1, keep_cell hB qb9 kb9_2, keep_cell hB qb9 kb9_3, keep_cell hB qb9 kb9_4, keep_cell hB qb9 kb9_5⟩)
  go_region_held3 (fun w' => w'.cell? ⟨b7, 0, none⟩ = some (.int .i64 3) ∧ w'.cell? ⟨b7, 1, none⟩ = some (.int .i64 1) ∧ w'.cell? ⟨b7 + 1, 0, none⟩ = some (.int .i64 16) ∧ w'.cell? ⟨b7 + 1, 1, none⟩ = some (.int .i64 5) ∧ w'.cell? ⟨b9, 0, none⟩ = some (.int .i64 s1) ∧ w'.cell? ⟨b9, 1, none⟩ = some (.bool neg1) ∧ w'.cell? ⟨b9, 2, none⟩ = some (.slice A1 l1.length c1) ∧ w'.cell? ⟨b9, 3, none⟩ = some (.int .i64 s2) ∧ w'.cell? ⟨b9, 4, none⟩ = some (.bool neg2) ∧ w'.cell? ⟨b9, 5, none⟩ = some (.slice A2 l2.length c2)) (exact (unhide KEEP) _ (by (repeat (first | with_reducible exact Below.refl _ _ | with_reducible assumption | with_reducible refine Below.drew ?_ | with_reducible refine below_alloc ?_ _)))) (first | (go_at_call_of 50 (Value.agg #[.int .i64 3, .int .i64 1]); refine ((unhide HO1) _).mono ?_; rintro e w' ⟨s5, neg5, A5, c5, l5, s6, neg6, A6, c6, l6, rfl, hf5, hf6, hb5⟩; have hbw := below_step (w := W5) (by (repeat (first | with_reducible exact Below.refl _ _ | with_reducible assumption | with_reducible refine Below.drew ?_ | with_reducible refine below_alloc ?_ _))) hb5; have hsw := hbw.size; obtain ⟨hc, hfz⟩ := bcell hbw) | (go_at_call_of 61 (Value.agg #[.int .i64 s1, .bool neg1, .slice A1 l1.length c1, .int .i64 s2, .bool neg2, .slice A2 l2.length c2]); refine ((unhide HS1) s1 neg1 A1 c1 l1 s2 neg2 A2 c2 l2 s5 neg5 A5 c5 l5 s6 neg6 A6 c6 l6 _ (below_step' HB.out (by (repeat (first | with_reducible exact Below.refl _ _ | with_reducible assumption | with_reducible refine Below.drew ?_ | with_reducible refine below_alloc ?_ _)))) (IntF.below (unhide H1) (by (repeat (first | with_reducible exact Below.refl _ _ | with_reducible assumption | with_reducible refine Below.drew ?_ | with_reducible refine below_alloc ?_ _)))) (IntF.below (unhide H2) (by (repeat (first | with_reducible exact Below.refl _ _ | with_reducible assumption | with_reducible refine Below.drew ?_ | with_reducible refine below_alloc ?_ _)))) (IntF.below hf5 (by (repeat (first | with_reducible exact Below.refl _ _ | with_reducible assumption | with_reducible refine Below.drew ?_ | with_reducible refine below_alloc ?_ _)))) (IntF.below hf6 (by (repeat (first | with_reducible exact Below.refl _ _ | with_reducible assumption | with_reducible refine Below.drew ?_ | with_reducible refine below_alloc ?_ _))))).mono ?_; rintro e w' ⟨s7, neg7, A7, c7, l7, s8, neg8, A8, c8, l8, rfl, hf7, hf8, hb7⟩; have hbw := below_step (w := W5) (by (repeat (first | with_reducible exact Below.refl _ _ | with_reducible assumption | with_reducible refine Below.drew ?_ | with_reducible refine below_alloc ?_ _))) hb7; have hsw := hbw.size; obtain ⟨hc, hfz⟩ := bcell hbw) | (go_at_call_of 50 (Value.agg #[.int .i64 16, .int .i64 5]); refine ((unhide HO2) _).mono ?_; rintro e w' ⟨s9, neg9, A9, c9, l9, s10, neg10, A10, c10, l10, rfl, hf9, hf10, hb9⟩; have hf7 := IntF.below (IntF.below hf7 (by (repeat (first | with_reducible exact Below.refl _ _ | with_reducible assumption | with_reducible refine Below.drew ?_ | with_reducible refine below_alloc ?_ _)))) hb9; have hf8 := IntF.below (IntF.below hf8 (by (repeat (first | with_reducible exact Below.refl _ _ | with_reducible assumption | with_reducible refine Below.drew ?_ | with_reducible refine below_alloc ?_ _)))) hb9; have hbw := below_step (w := W5) (by (repeat (first | with_reducible exact Below.refl _ _ | with_reducible assumption | with_reducible refine Below.drew ?_ | with_reducible refine below_alloc ?_ _))) hb9; have hsw := hbw.size; obtain ⟨hc, hfz⟩ := bcell hbw) | (go_at_call_of 61 (Value.agg #[.int .i64 s9, .bool neg9, .slice A9 l9.length c9, .int .i64 s10, .bool neg10, .slice A10 l10.length c10]); refine ((unhide HS2) s9 neg9 A9 c9 l9 s10 neg10 A10 c10 l10 s1 neg1 A1 c1 l1 s2 neg2 A2 c2 l2 _ (below_step' HB.out (by (repeat (first | with_reducible exact Below.refl _ _ | with_reducible assumption | with_reducible refine Below.drew ?_ | with_reducible refine below_alloc ?_ _)))) (IntF.below hf9 (by (repeat (first | with_reducible exact Below.refl _ _ | with_reducible assumption | with_reducible refine Below.drew ?_ | with_reducible refine below_alloc ?_ _)))) (IntF.below hf10 (by (repeat (first | with_reducible exact Below.refl _ _ | with_reducible assumption | with_reducible refine Below.drew ?_ | with_reducible refine below_alloc ?_ _)))) (IntF.below (unhide H1) (by (repeat (first | with_reducible exact Below.refl _ _ | with_reducible assumption | with_reducible refine Below.drew ?_ | with_reducible refine below_alloc ?_ _)))) (IntF.below (unhide H2) (by (repeat (first | with_reducible exact Below.refl _ _ | with_reducible assumption | with_reducible refine Below.drew ?_ | with_reducible refine below_alloc ?_ _))))).mono ?_; rintro e w' ⟨s11, neg11, A11, c11, l11, s12, neg12, A12, c12, l12, rfl, hf11, hf12, hb11⟩; have hf7 := IntF.below (IntF.below hf7 (by (repeat (first | with_reducible exact Below.refl _ _ | with_reducible assumption | with_reducible refine Below.drew ?_ | with_reducible refine below_alloc ?_ _)))) hb11; have hf8 := IntF.below (IntF.below hf8 (by (repeat (first | with_reducible exact Below.refl _ _ | with_reducible assumption | with_reducible refine Below.drew ?_ | with_reducible refine below_alloc ?_ _)))) hb11; have hbw := below_step (w := W5) (by (repeat (first | with_reducible exact Below.refl _ _ | with_reducible assumption | with_reducible refine Below.drew ?_ | with_reducible refine below_alloc ?_ _))) hb11; have hsw := hbw.size; obtain ⟨hc, hfz⟩ := bcell hbw) | (go_at_call_of 62 (Value.agg #[.int .i64 s7, .bool neg7, .slice A7 l7.length c7, .int .i64 s8, .bool neg8, .slice A8 l8.length c8]); refine ((unhide HCC) s7 neg7 A7 c7 l7 s8 neg8 A8 c8 l8 s11 neg11 A11 c11 l11 s12 neg12 A12 c12 l12 _ (below_step' HB.out (by (repeat (first | with_reducible exact Below.refl _ _ | with_reducible assumption | with_reducible refine Below.drew ?_ | with_reducible refine below_alloc ?_ _)))) (IntF.below hf7 (by (repeat (first | with_reducible exact Below.refl _ _ | with_reducible assumption | with_reducible refine Below.drew ?_ | with_reducible refine below_alloc ?_ _)))) (IntF.below hf8 (by (repeat (first | with_reducible exact Below.refl _ _ | with_reducible assumption | with_reducible refine Below.drew ?_ | with_reducible refine below_alloc ?_ _)))) (IntF.below hf11 (by (repeat (first | with_reducible exact Below.refl _ _ | with_reducible assumption | with_reducible refine Below.drew ?_ | with_reducible refine below_alloc ?_ _)))) (IntF.below hf12 (by (repeat (first | with_reducible exact Below.refl _ _ | with_reducible assumption | with_reducible refine Below.drew ?_ | with_reducible refine below_alloc ?_ _))))).mono ?_; rintro e w' ⟨rfl, hb13⟩; have hbw := below_step (w := W5) (by (repeat (first | with_reducible exact Below.refl _ _ | with_reducible assumption | with_reducible refine Below.drew ?_ | with_reducible refine below_alloc ?_ _))) hb13; have hsw := hbw.size; obtain ⟨hc, hfz⟩ := bcell hbw))
  have hbb := below_step' HB.out hbw
  have m8 := (hbw.block _ qb8).trans (unhide HM8)
  have mr := (hbw.block _ (lt_of_block (unhide HMR))).trans (unhide HMR)
  clear hf7 hf8 hf11 hf12 hc hfz KEEP kb7_0 kb7_1 kb8_0 kb8_1
  have k0 : w'.cell? ⟨b7 + 1, 0, none⟩ = some (.int .i64 16) := cells_of m8 0
  have k1 : w'.cell? ⟨b7 + 1, 1, none⟩ = some (.int .i64 5) := cells_of m8 1
  have r0 : w'.cell? ⟨w.heap.size + 1, 0, none⟩ = some (.int .i64 0) := cells_of mr 0
  have r1 : w'.cell? ⟨w.heap.size + 1, 1, none⟩ = some (.int .i64 0) := cells_of mr 1
  have f0 : w'.frozen? ⟨w.heap.size + 1, 0, none⟩ = false := unfrozen_of mr 0
  have f1 : w'.frozen? ⟨w.heap.size + 1, 1, none⟩ = false := unfrozen_of mr 1
  go_wp2_with fail
  exact bodyPost_ret (v := .tuple #[(Value.agg #[.int .i64 16, .int .i64 5]), .int .i64 0]) (by simp [results, Tryz.results18, go_sem, r0, r1]) rfl
    ⟨rfl, hbb.grown (set2_grown _ _ _ _) hbb.size (fun k hk => by injection hk with hk; omega)⟩

end Go.Proofs.YtpjgoogeokbaaaaGreatDoor
/- The document's examples. -/
namespace Go.Proofs.YtpjgoogeokbaaaaGreatDoor
open Go.RowKit

theorem told_ext {t : Wd.Told} {a b c : Int} (h : t.n = a ∧ t.d = b ∧ t.e = c) : t = ⟨a, b, c⟩ := by
  cases t
  obtain ⟨rfl, rfl, rfl⟩ := h
  rfl
set_option maxRecDepth 100000 in
set_option maxHeartbeats 16000000 in
theorem known_any (w : World) (hT : Tab w) : Calls Tryz.prog 11 #[] w fun e w' => e = .returned (.bool true) ∧ Below w.heap.size w w' := by
  have HM := hide (fun W (hW : Tab W) => make_any (-6) 4 W hW (by omega) (by omega) (by omega) (by omega))
  rw [told_ext (t := mkE (-6) 4) (a := -3) (b := 2) (c := 0) (by decide +kernel)] at HM
  have HF := hide (floor_any (-3) 2)
  rw [show floorV (-3) 2 = -2 by decide, show valE (-3) 2 = 0 by decide] at HF
  have HN := hide near_known
  have HT := hide hT
  clear hT
  go_enter Tryz.func11, Tryz.ntmps11
  go_wp2_with fail
  refine ((unhide HM) _ (unhide HT)).mono ?_
  rintro e W1 ⟨rfl, hb1⟩
  go_wp2_with fail
  have nx := heap_alloc_new W1 (.cells #[.int .i64 (-3), .int .i64 2] 23)
  have hb2 := below_step' hb1 (below_alloc (Below.refl _ _) (.cells #[.int .i64 (-3), .int .i64 2] 23))
  generalize W1.alloc (.cells #[.int .i64 (-3), .int .i64 2] 23) = W2 at *
  obtain ⟨bx, hbx⟩ : ∃ b, b = W1.heap.size := ⟨_, rfl⟩
  rw [← hbx] at nx ⊢
  clear hb1 hbx
  refine ((unhide HF) _ ((unhide HT).below hb2)).mono ?_
  rintro e W3 ⟨rfl, hb⟩
  have nx3 := (hb.block _ (lt_of_block nx)).trans nx
  have hb3 := below_step' hb2 hb
  clear nx hb hb2
  go_wp2_with fail
  refine ((unhide HN) _ ((unhide HT).below hb3)).mono ?_
  rintro e W4 ⟨rfl, hb⟩
  have nx4 := (hb.block _ (lt_of_block nx3)).trans nx3
  have hb4 := below_step' hb3 hb
  have hlt := lt_of_block nx4
  have k0 : W4.cell? ⟨bx, 0, none⟩ = some (.int .i64 (-3)) := cells_of nx4 0
  have k1 : W4.cell? ⟨bx, 1, none⟩ = some (.int .i64 2) := cells_of nx4 1
  have hne : ¬ (bx = W4.heap.size) := by omega
  clear nx3 nx4 hb hb3
  go_wp2
  go_ret
  exact ⟨rfl, below_alloc hb4 _⟩

end Go.Proofs.YtpjgoogeokbaaaaGreatDoor
/- The law of lists: its walk. -/
namespace Go.Proofs.YtpjgoogeokbaaaaGreatDoor
open Go.RowKit

theorem law_put {w V : World} {B ba bb : Nat} {a b u v : Value} {T : TypeId} {o : Obj} (h1 : V.heap[ba]? = some (.cells #[a, b] T (0, 0))) (h2 : V.heap[bb]? = some o) (hne : bb ≠ ba) (hb : Below B w V) (hB : B ≤ ba) (hBV : B ≤ V.heap.size) :
    ((V.setCell ⟨ba, 0, none⟩ u).setCell ⟨ba, 1, none⟩ v).heap[ba]? = some (.cells #[u, v] T (0, 0)) ∧ ((V.setCell ⟨ba, 0, none⟩ u).setCell ⟨ba, 1, none⟩ v).heap[bb]? = some o ∧ Below B w ((V.setCell ⟨ba, 0, none⟩ u).setCell ⟨ba, 1, none⟩ v) := by
  refine ⟨by simp [World.setCell, Array.getElem?_modify, h1], ?_, hb.grown (set2_grown _ _ _ _) hBV (fun k hk => by injection hk with hk; omega)⟩
  rw [heap_setCell_other _ _ _ _ hne, heap_setCell_other _ _ _ _ hne]
  exact h2
set_option maxRecDepth 100000 in
set_option maxHeartbeats 16000000 in
theorem lists_walk (A : Option Addr) (len cap : Nat) (A' : Option Addr) (len' cap' : Nat) (n1 d1 e1 n2 d2 e2 n3 d3 e3 : Int) (w : World) (hT : Tab w)
    (c1 : (∀ W, Below w.heap.size w W → Calls Tryz.prog 22 #[.slice A len cap] W fun e w' => e = .returned (.tuple #[.agg #[.int .i64 n1, .int .i64 d1], .int .i64 e1]) ∧ Below W.heap.size W w'))
    (c2 : (∀ W, Below w.heap.size w W → Calls Tryz.prog 23 #[.slice A len cap] W fun e w' => e = .returned (.tuple #[.agg #[.int .i64 n1, .int .i64 d1], .int .i64 e1]) ∧ Below W.heap.size W w'))
    (c3 : (∀ W, Below w.heap.size w W → Calls Tryz.prog 24 #[.slice A len cap] W fun e w' => e = .returned (.tuple #[.agg #[.int .i64 n2, .int .i64 d2], .int .i64 e2]) ∧ Below W.heap.size W w'))
    (c4 : (∀ W, Below w.heap.size w W → Calls Tryz.prog 25 #[.slice A len cap] W fun e w' => e = .returned (.tuple #[.agg #[.int .i64 n2, .int .i64 d2], .int .i64 e2]) ∧ Below W.heap.size W w'))
    (c5 : (∀ W, Below w.heap.size w W → Calls Tryz.prog 26 #[.slice A len cap, .slice A' len' cap'] W fun e w' => e = .returned (.tuple #[.agg #[.int .i64 n3, .int .i64 d3], .int .i64 e3]) ∧ Below W.heap.size W w'))
    (c6 : (∀ W, Below w.heap.size w W → Calls Tryz.prog 27 #[.slice A len cap, .slice A' len' cap'] W fun e w' => e = .returned (.tuple #[.agg #[.int .i64 n3, .int .i64 d3], .int .i64 e3]) ∧ Below W.heap.size W w'))
    : Calls Tryz.prog 5 #[.slice A len cap, .slice A' len' cap'] w fun e w' => e = .returned (.bool true) ∧ Below w.heap.size w w' := by
  have C1 := hide c1
  have C2 := hide c2
  have C3 := hide c3
  have C4 := hide c4
  have C5 := hide c5
  have C6 := hide c6
  have HT := hide hT; have HKN := hide known_any
  clear c1 c2 c3 c4 c5 c6 hT
  go_enter Tryz.func5, Tryz.ntmps5
  go_wp2_with fail
  refine ((unhide C1) _ (by first | exact Below.refl _ _ | exact (Below.refl _ _).drew)).mono ?_
  rintro e V1 ⟨rfl, hb⟩
  have HV1 := hb
  go_upto_region 2 with fail
  have hn := heap_alloc_new V1 (.cells #[.int .i64 n1, .int .i64 d1] 23)
  replace hb := below_step' hb (below_alloc (Below.refl V1.heap.size V1) (.cells #[.int .i64 n1, .int .i64 d1] 23))
  generalize V1.alloc (.cells #[.int .i64 n1, .int .i64 d1] 23) = W1 at *
  obtain ⟨ba, hbn⟩ : ∃ b, b = V1.heap.size := ⟨_, rfl⟩
  rw [← hbn] at hn ⊢
  have hBa : w.heap.size ≤ ba := by rw [hbn]; first | exact HV1.size | omega
  clear hbn HV1
  have HB := Lib.hid hb
  have JA := hide hn
  clear hn hb
  go_wp2_with fail
  refine ((unhide C2) _ HB.out).mono ?_
  rintro e V2 ⟨rfl, hb⟩
  have HV2 := hb
  go_upto_region 3 with fail
  have hn := heap_alloc_new V2 (.cells #[.int .i64 n1, .int .i64 d1] 23)
  replace hb := below_step' hb (below_alloc (Below.refl V2.heap.size V2) (.cells #[.int .i64 n1, .int .i64 d1] 23))
  have hlA := lt_of_block (unhide JA)
  have hlV2 : ba < V2.heap.size := by have := HV2.size; omega
  generalize V2.alloc (.cells #[.int .i64 n1, .int .i64 d1] 23) = W2 at *
  obtain ⟨bb, hbn⟩ : ∃ b, b = V2.heap.size := ⟨_, rfl⟩
  rw [← hbn] at hn hlV2 ⊢
  have hBb : w.heap.size ≤ bb := by omega
  have hne : bb ≠ ba := by omega
  have hne' : ba ≠ bb := by omega
  clear hbn hlA hlV2 HV2
  replace JA := hide ((hb.block _ (lt_of_block (unhide JA))).trans (unhide JA))
  replace HB := Lib.hid (below_step' HB.out hb)
  have JB := hide hn
  clear hn hb
  have ka0 : W2.cell? ⟨ba, 0, none⟩ = some (.int .i64 n1) := cells_of (unhide JA) 0
  have ka1 : W2.cell? ⟨ba, 1, none⟩ = some (.int .i64 d1) := cells_of (unhide JA) 1
  have kb0 : W2.cell? ⟨bb, 0, none⟩ = some (.int .i64 n1) := cells_of (unhide JB) 0
  have kb1 : W2.cell? ⟨bb, 1, none⟩ = some (.int .i64 d1) := cells_of (unhide JB) 1
  have qa := lt_of_block (unhide JA)
  have qb := lt_of_block (unhide JB)
  go_wp2_with fail
  clear ka0 ka1 kb0 kb1 qa qb
  refine ((unhide C3) _ HB.out).mono ?_
  rintro e V3 ⟨rfl, hb⟩
  have j1 := (hb.block _ (lt_of_block (unhide JA))).trans (unhide JA)
  have j2 := (hb.block _ (lt_of_block (unhide JB))).trans (unhide JB)
  have hb9 := below_step' HB.out hb
  have x0 : V3.cell? ⟨ba, 0, none⟩ = some (.int .i64 n1) := cells_of j1 0
  have x1 : V3.cell? ⟨ba, 1, none⟩ = some (.int .i64 d1) := cells_of j1 1
  have y0 := unfrozen_of j1 0
  have y1 := unfrozen_of j1 1
  have qx := lt_of_block j1
  have hp := law_put (u := .int .i64 n2) (v := .int .i64 d2) j1 j2 hne hb9 hBa hb9.size
  clear hb j1 j2 hb9
  go_upto_region 6 with fail
  generalize ((V3.setCell ⟨ba, 0, none⟩ (.int .i64 n2)).setCell ⟨ba, 1, none⟩ (.int .i64 d2)) = W3 at *
  replace JA := hide hp.1
  replace JB := hide hp.2.1
  replace HB := Lib.hid hp.2.2
  clear hp x0 x1 y0 y1 qx
  go_wp2_with fail
  refine ((unhide C4) _ HB.out).mono ?_
  rintro e V4 ⟨rfl, hb⟩
  have j1 := (hb.block _ (lt_of_block (unhide JB))).trans (unhide JB)
  have j2 := (hb.block _ (lt_of_block (unhide JA))).trans (unhide JA)
  have hb9 := below_step' HB.out hb
  have x0 : V4.cell? ⟨bb, 0, none⟩ = some (.int .i64 n1) := cells_of j1 0
  have x1 : V4.cell? ⟨bb, 1, none⟩ = some (.int .i64 d1) := cells_of j1 1
  have y0 := unfrozen_of j1 0
  have y1 := unfrozen_of j1 1
  have qx := lt_of_block j1
  have hp := law_put (u := .int .i64 n2) (v := .int .i64 d2) j1 j2 hne' hb9 hBb hb9.size
  clear hb j1 j2 hb9
  go_upto_region 7 with fail
  generalize ((V4.setCell ⟨bb, 0, none⟩ (.int .i64 n2)).setCell ⟨bb, 1, none⟩ (.int .i64 d2)) = W4 at *
  replace JB := hide hp.1
  replace JA := hide hp.2.1
  replace HB := Lib.hid hp.2.2
  clear hp x0 x1 y0 y1 qx
  have ka0 : W4.cell? ⟨ba, 0, none⟩ = some (.int .i64 n2) := cells_of (unhide JA) 0
  have ka1 : W4.cell? ⟨ba, 1, none⟩ = some (.int .i64 d2) := cells_of (unhide JA) 1
  have kb0 : W4.cell? ⟨bb, 0, none⟩ = some (.int .i64 n2) := cells_of (unhide JB) 0
  have kb1 : W4.cell? ⟨bb, 1, none⟩ = some (.int .i64 d2) := cells_of (unhide JB) 1
  have qa := lt_of_block (unhide JA)
  have qb := lt_of_block (unhide JB)
  go_wp2_with fail
  clear ka0 ka1 kb0 kb1 qa qb
  refine ((unhide C5) _ HB.out).mono ?_
  rintro e V5 ⟨rfl, hb⟩
  have j1 := (hb.block _ (lt_of_block (unhide JA))).trans (unhide JA)
  have j2 := (hb.block _ (lt_of_block (unhide JB))).trans (unhide JB)
  have hb9 := below_step' HB.out hb
  have x0 : V5.cell? ⟨ba, 0, none⟩ = some (.int .i64 n2) := cells_of j1 0
  have x1 : V5.cell? ⟨ba, 1, none⟩ = some (.int .i64 d2) := cells_of j1 1
  have y0 := unfrozen_of j1 0
  have y1 := unfrozen_of j1 1
  have qx := lt_of_block j1
  have hp := law_put (u := .int .i64 n3) (v := .int .i64 d3) j1 j2 hne hb9 hBa hb9.size
  clear hb j1 j2 hb9
  go_upto_region 10 with fail
  generalize ((V5.setCell ⟨ba, 0, none⟩ (.int .i64 n3)).setCell ⟨ba, 1, none⟩ (.int .i64 d3)) = W5 at *
  replace JA := hide hp.1
  replace JB := hide hp.2.1
  replace HB := Lib.hid hp.2.2
  clear hp x0 x1 y0 y1 qx
  go_wp2_with fail
  refine ((unhide C6) _ HB.out).mono ?_
  rintro e V6 ⟨rfl, hb⟩
  have j1 := (hb.block _ (lt_of_block (unhide JB))).trans (unhide JB)
  have j2 := (hb.block _ (lt_of_block (unhide JA))).trans (unhide JA)
  have hb9 := below_step' HB.out hb
  have x0 : V6.cell? ⟨bb, 0, none⟩ = some (.int .i64 n2) := cells_of j1 0
  have x1 : V6.cell? ⟨bb, 1, none⟩ = some (.int .i64 d2) := cells_of j1 1
  have y0 := unfrozen_of j1 0
  have y1 := unfrozen_of j1 1
  have qx := lt_of_block j1
  have hp := law_put (u := .int .i64 n3) (v := .int .i64 d3) j1 j2 hne' hb9 hBb hb9.size
  clear hb j1 j2 hb9
  go_upto_region 11 with fail
  generalize ((V6.setCell ⟨bb, 0, none⟩ (.int .i64 n3)).setCell ⟨bb, 1, none⟩ (.int .i64 d3)) = W6 at *
  replace JB := hide hp.1
  replace JA := hide hp.2.1
  replace HB := Lib.hid hp.2.2
  clear hp x0 x1 y0 y1 qx
  have ka0 : W6.cell? ⟨ba, 0, none⟩ = some (.int .i64 n3) := cells_of (unhide JA) 0
  have ka1 : W6.cell? ⟨ba, 1, none⟩ = some (.int .i64 d3) := cells_of (unhide JA) 1
  have kb0 : W6.cell? ⟨bb, 0, none⟩ = some (.int .i64 n3) := cells_of (unhide JB) 0
  have kb1 : W6.cell? ⟨bb, 1, none⟩ = some (.int .i64 d3) := cells_of (unhide JB) 1
  have qa := lt_of_block (unhide JA)
  have qb := lt_of_block (unhide JB)
  go_wp2_with fail
  refine ((unhide HKN) _ ((unhide HT).below HB.out)).mono ?_
  rintro e V7 ⟨rfl, hb⟩
  have hb9 := below_step' HB.out hb
  clear hb
  go_wp2_with fail
  all_goals first | go_ret | skip
  exact ⟨rfl, hb9⟩
theorem lists_any (A : Option Addr) (cap : Nat) (l : List (Int × Int)) (A' : Option Addr) (cap' : Nat) (l' : List (Int × Int)) (w : World) (h : Rs w w.heap.size A l) (hcp : l.length ≤ cap) (hm : cap ≤ 9223372036854775807) (h' : Rs w w.heap.size A' l') (hcp' : l'.length ≤ cap') (hm' : cap' ≤ 9223372036854775807) (hT : Tab w) :
    Calls Tryz.prog 5 #[.slice A l.length cap, .slice A' l'.length cap'] w fun e w' => e = .returned (.bool true) ∧ Below w.heap.size w w' :=
  lists_walk A l.length cap A' l'.length cap' _ _ _ _ _ _ _ _ _ w hT
    (fun W hW => psum_any A cap l W ((h.below hW).up hW.size) hcp hm (hT.below hW)) (fun W hW => tsum_any A cap l W ((h.below hW).up hW.size) hcp hm)
    (fun W hW => pprod_any A cap l W ((h.below hW).up hW.size) hcp hm (hT.below hW)) (fun W hW => tprod_any A cap l W ((h.below hW).up hW.size) hcp hm)
    (fun W hW => pdot_any A cap l A' cap' l' W ((h.below hW).up hW.size) hcp hm ((h'.below hW).up hW.size) hcp' hm' (hT.below hW)) (fun W hW => tdot_any A cap l A' cap' l' W ((h.below hW).up hW.size) hcp hm ((h'.below hW).up hW.size) hcp' hm')

end Go.Proofs.YtpjgoogeokbaaaaGreatDoor
/- The frame of the laws' rows: numbers as arguments; the listed table; a call that only makes new memory. -/
namespace Go.Proofs.YtpjgoogeokbaaaaGreatDoor
open Go.Joins Go.ChangeShapes Go.WideShapes Go.ChangeAt Go.RowKit

theorem own : ownKnob Tryz.prog.godebug = none := by kernel_rfl
/-- What the rows list: one table. -/
def laidL {H : Type} : List (String × DataW H) := [("math/bits.deBruijn64tab", Rows.laid_math_bits_deBruijn64tab)]
theorem tab_list : (Rows.laid_math_bits_deBruijn64tab : DataW Unit) = .agg (Lib.deBruijn64tab.map fun (n : Nat) => .lit (.int .u8 (n : Int))) := by kernel_rfl
theorem tab_of {W : World} (h : laidMetH Tryz.prog laidL W) : Tab W := by
  rw [MakeChecks.laidMetH_plain _ _ _ (by kernel_rfl)] at h
  obtain ⟨ps, ⟨g, t, cs, fuel, p, q, hg, ht, hv, hd, _, _⟩, _, _⟩ := h
  obtain rfl := Option.some.inj ((show Tryz.prog.globalNamed "math/bits.deBruijn64tab" = some 0 by kernel_rfl).symm.trans hg)
  obtain rfl := Option.some.inj ((show (Tryz.prog.globals[0]?).map (·.type) = some 163 by kernel_rfl).symm.trans ht)
  obtain ⟨xs, m, _, ex, hcl, hl, hel⟩ := DataW.trod_array Tryz.underlying163 hd
  have c5 : Tryz.prog.cellsOf 5 = 1 := by kernel_rfl
  have hlen : Lib.deBruijn64tab.length = 64 := by kernel_rfl
  rw [tab_list] at ex
  have e3 : (xs.map (·.1)) = Lib.deBruijn64tab.map fun (n : Nat) => .lit (.int .u8 (n : Int)) := (DataW.agg.inj (Prod.mk.inj ex).1).symm
  have cell : ∀ r : Nat, r < 64 → W.cell? ⟨0, r, none⟩ = some (.int .u8 (Lib.deBruijn64tab.getD r 0)) := fun r hr => by
    have hE := hel r hr
    rw [c5, Nat.mul_one, List.getElem?_eq_getElem (by omega)] at hE
    obtain ⟨z, e1, e2, _⟩ := DataW.trod_int Tryz.underlying5 hE
    have e4 : (xs.map (·.1))[r]? = (Lib.deBruijn64tab.map fun (n : Nat) => (DataW.lit (.int .u8 (n : Int)) : DataW Unit))[r]? := by rw [e3]
    rw [List.getElem?_map, List.getElem?_map, List.getElem?_eq_getElem (by omega : r < xs.length), List.getElem?_eq_getElem (by omega : r < Lib.deBruijn64tab.length), e2] at e4
    have hz : z = (Lib.deBruijn64tab.getD r 0 : Nat) := by
      simp only [Option.map_some, Option.some.injEq, DataW.lit.injEq, Lit.int.injEq, true_and] at e4
      rw [e4, List.getD, List.getElem?_eq_getElem (by omega : r < Lib.deBruijn64tab.length)]; rfl
    rw [World.var?_cell hg hv r, ← hz]
    have : cs.toList[r]? = some (.int .u8 z) := by
      have h0 : ((cs.toList.drop r).take 1)[0]? = some (.int .u8 z) := by rw [e1]; rfl
      simpa using h0
    simpa using this
  refine ⟨fun j hj => cell j (by omega), ?_⟩
  have h0 := cell 0 (by omega)
  rcases Nat.lt_or_ge 0 W.heap.size with hlt | hge
  · exact hlt
  · simp [World.cell?, Array.getElem?_eq_none hge] at h0

end Go.Proofs.YtpjgoogeokbaaaaGreatDoor
