/- Part 4 of the texts beneath a law of layer 1: IntGcd, IntQuo, IntAddA, IntAddO. -/
import Derived.Test.YtfbcdfoohpkfeaaDoorCs3
import Derived.IntWalk
/- The greatest common divisor of whole numbers. -/
namespace Go.Proofs.YtfbcdfoohpkfeaaDoor
open Go.RowKit

set_option maxRecDepth 100000 in
set_option maxHeartbeats 4000000 in
theorem igcd_any (s1 : Int) (neg1 : Bool) (A1 : Option Addr) (c1 : Nat) (l1 : List Nat) (z1 : Int) (s2 : Int) (neg2 : Bool) (A2 : Option Addr) (c2 : Nat) (l2 : List Nat) (z2 : Int) (w : World)
    (h1 : IntF w s1 neg1 A1 c1 l1 z1) (h2 : IntF w s2 neg2 A2 c2 l2 z2) (hl1 : l1.length ≤ lim) (hl2 : l2.length ≤ lim) (hT : Tab w) :
    Calls Tryd.prog 49 #[.agg #[.int .i64 s1, .bool neg1, .slice A1 l1.length c1], .agg #[.int .i64 s2, .bool neg2, .slice A2 l2.length c2]] w fun e w' => IntR w ((z1.natAbs.gcd z2.natAbs : Nat) : Int) e w' := by
  have HS1 := hide (fun W => isSmall_any s1 neg1 A1 c1 l1.length W)
  have HS2 := hide (fun W => isSmall_any s2 neg2 A2 c2 l2.length W)
  have LEN : ∀ (W : World) (A5 : Option Addr) (c5 : Nat) (l5 : List Nat) (_ : Unit), NatV W A5 c5 l5 z1.natAbs → l5.length ≤ lim ∧ l5.length + 1 ≤ 35184372088832 := fun _ _ _ _ _ g => h1.len_lim hl1 g
  have LEN2 : ∀ (W : World) (A5 : Option Addr) (c5 : Nat) (l5 : List Nat) (_ : Unit), NatV W A5 c5 l5 z2.natAbs → l5.length ≤ lim ∧ l5.length + 1 ≤ 35184372088832 := fun _ _ _ _ _ g => h2.len_lim hl2 g
  have B1 : ∀ W0, Below w.heap.size w W0 → Hid (∀ W, Below W0.heap.size W0 W → Calls Tryd.prog 77 #[.agg #[.int .i64 s1, .bool neg1, .slice A1 l1.length c1]] W fun e w' => NatR W z1.natAbs e w') := fun W0 h0 W hW => abs_any s1 neg1 A1 c1 l1 z1 W (IntF.below h1 (below_step' h0 hW))
  have B2 : ∀ W0, Below w.heap.size w W0 → Hid (∀ W, Below W0.heap.size W0 W → Calls Tryd.prog 77 #[.agg #[.int .i64 s2, .bool neg2, .slice A2 l2.length c2]] W fun e w' => NatR W z2.natAbs e w') := fun W0 h0 W hW => abs_any s2 neg2 A2 c2 l2 z2 W (IntF.below h2 (below_step' h0 hW))
  have T0 : ∀ W0, Below w.heap.size w W0 → Hid (∀ W, Below W0.heap.size W0 W → Tab W) := fun W0 h0 W hW => hT.below (below_step' h0 hW)
  have hbnd1 := h1.bounds
  have hbnd2 := h2.bounds
  have hsz1 : l1.length = 0 → s1.natAbs = z1.natAbs ∧ z1.natAbs < M63 := fun h => by obtain ⟨e, _, e3⟩ := h1.of_small h; rw [e]; exact ⟨rfl, e3⟩
  have hsz2 : l2.length = 0 → s2.natAbs = z2.natAbs ∧ z2.natAbs < M63 := fun h => by obtain ⟨e, _, e3⟩ := h2.of_small h; rw [e]; exact ⟨rfl, e3⟩
  have Z1 := hide (fun W => size_any s1 hbnd1.1 hbnd1.2 W)
  have Z2 := hide (fun W => size_any s2 hbnd2.1 hbnd2.2 W)
  obtain ⟨m1, hm1⟩ : ∃ o, o = z1.natAbs := ⟨_, rfl⟩
  obtain ⟨m2, hm2⟩ : ∃ o, o = z2.natAbs := ⟨_, rfl⟩
  rw [← hm1] at B1 LEN hsz1 ⊢
  rw [← hm2] at B2 LEN2 hsz2 ⊢
  have HB1 := hide B1; have HB2 := hide B2; have HLEN := hide LEN; have HLEN2 := hide LEN2; have HTT := hide T0
  clear hm1 hm2 B1 B2 h1 h2 hbnd1 hbnd2 LEN LEN2 hl1 hl2 T0 hT
  by_cases hs : l1.length = 0 ∧ l2.length = 0
  · obtain ⟨a1, a2⟩ := hs
    rw [decide_eq_true a1] at HS1
    rw [decide_eq_true a2] at HS2
    obtain ⟨y1, y2⟩ := hsz1 a1
    obtain ⟨y3, y4⟩ := hsz2 a2
    rw [y1] at Z1
    rw [y3] at Z2
    have hB1 : m1 < B64 := by have := y2; rw [M63_eq] at this; rw [B64_eq]; omega
    have hB2 : m2 < B64 := by have := y4; rw [M63_eq] at this; rw [B64_eq]; omega
    have HM := hide (fun W => gcd64_any m1 m2 hB1 hB2 W)
    have hgB : m1.gcd m2 < B64 := by
      rcases Nat.eq_zero_or_pos m1 with h | h
      · rw [h, Nat.gcd_zero_left]; exact hB2
      · exact Nat.lt_of_le_of_lt (Nat.gcd_le_left _ h) hB1
    have HW : Hid (∀ W, Calls Tryd.prog 53 #[.bool false, .int .u64 ((m1.gcd m2 : Nat) : Int)] W fun e w' => IntR W ((m1.gcd m2 : Nat) : Int) e w') := hide (fun W => by
      have := word_any false (m1.gcd m2) hgB W
      rw [if_neg Bool.false_ne_true] at this; exact this)
    clear hgB hB1 hB2 y1 y2 y3 y4 hsz1 hsz2 a1 a2
    obtain ⟨g, hg⟩ : ∃ g, g = m1.gcd m2 := ⟨_, rfl⟩
    rw [← hg] at HM HW ⊢
    clear hg
    go_enter Tryd.func49, Tryd.ntmps49
    go_wp2_with fail
    obtain ⟨n1, n2, n3, hsz, hw0⟩ := three_new w (.cells #[.int .i64 s1, .bool neg1, .slice A1 l1.length c1] 46) (.cells #[.int .i64 s2, .bool neg2, .slice A2 l2.length c2] 46) (.cells #[.int .i64 0, .bool false, .slice none 0 0] 46)
    generalize (((w.alloc (.cells #[.int .i64 s1, .bool neg1, .slice A1 l1.length c1] 46)).alloc (.cells #[.int .i64 s2, .bool neg2, .slice A2 l2.length c2] 46)).alloc (.cells #[.int .i64 0, .bool false, .slice none 0 0] 46)) = W0 at *
    have k1 := cells_of n1 0
    have k2 := cells_of n1 1
    have k3 := cells_of n1 2
    simp only [Array.getElem?_eq_getElem, three0, three1, three2] at k1 k2 k3
    have k4 := cells_of n2 0
    have k5 := cells_of n2 1
    have k6 := cells_of n2 2
    simp only [Array.getElem?_eq_getElem, three0, three1, three2] at k4 k5 k6
    have q0 : w.heap.size < W0.heap.size := by omega
    have q1 : w.heap.size + 1 < W0.heap.size := by omega
    have q2 : w.heap.size + 1 + 1 < W0.heap.size := by omega
    have k7 := cells_of n3 0
    have k8 := cells_of n3 1
    have k9 := cells_of n3 2
    simp only [Array.getElem?_eq_getElem, three0, three1, three2] at k7 k8 k9
    have f7 := unfrozen_of n3 0
    have f8 := unfrozen_of n3 1
    have f9 := unfrozen_of n3 2
    have N3 := Lib.hid n3
    clear n3
    clear n1 n2
    have B1 := (unhide HB1) W0 hw0; have B2 := (unhide HB2) W0 hw0; have TT := (unhide HTT) W0 hw0
    refine ((unhide HS1) _).mono ?_
    rintro e w1 ⟨rfl, hw1⟩
    have hbw1 := below_eq (w := W0) (by (first | assumption | (repeat (first | exact Below.refl _ _ | assumption | refine Below.drew ?_ | (refine Below.alloc ?_ (by simp <;> omega) _))))) hw1
    obtain ⟨hc, hfz⟩ := bcell hbw1
    clear hw1
    go_wp2_with fail
    refine ((unhide HS2) _).mono ?_
    rintro e w2 ⟨rfl, hw2⟩
    have hbw2 := below_eq (w := W0) (by (first | assumption | (repeat (first | exact Below.refl _ _ | assumption | refine Below.drew ?_ | (refine Below.alloc ?_ (by simp <;> omega) _))))) hw2
    obtain ⟨hc, hfz⟩ := bcell hbw2
    clear hw2
    go_wp2_with fail
    go_region_held3 (fun w' => w'.cell? ⟨w.heap.size, 0, none⟩ = some (.int .i64 s1) ∧ w'.cell? ⟨w.heap.size, 1, none⟩ = some (.bool neg1) ∧ w'.cell? ⟨w.heap.size, 2, none⟩ = some (.slice A1 l1.length c1) ∧ w'.cell? ⟨w.heap.size + 1, 0, none⟩ = some (.int .i64 s2) ∧ w'.cell? ⟨w.heap.size + 1, 1, none⟩ = some (.bool neg2) ∧ w'.cell? ⟨w.heap.size + 1, 2, none⟩ = some (.slice A2 l2.length c2)) ((first | with_reducible exact ⟨(hc _ _ q0).trans k1, (hc _ _ q0).trans k2, (hc _ _ q0).trans k3, (hc _ _ q1).trans k4, (hc _ _ q1).trans k5, (hc _ _ q1).trans k6⟩ | with_reducible exact ⟨k1, k2, k3, k4, k5, k6⟩ | with_reducible exact ⟨(cell_set3 _ _ _ _ _ (by omega)).trans ((hc _ _ q0).trans k1), (cell_set3 _ _ _ _ _ (by omega)).trans ((hc _ _ q0).trans k2), (cell_set3 _ _ _ _ _ (by omega)).trans ((hc _ _ q0).trans k3), (cell_set3 _ _ _ _ _ (by omega)).trans ((hc _ _ q1).trans k4), (cell_set3 _ _ _ _ _ (by omega)).trans ((hc _ _ q1).trans k5), (cell_set3 _ _ _ _ _ (by omega)).trans ((hc _ _ q1).trans k6)⟩ | exact ⟨(hc _ _ q0).trans k1, (hc _ _ q0).trans k2, (hc _ _ q0).trans k3, (hc _ _ q1).trans k4, (hc _ _ q1).trans k5, (hc _ _ q1).trans k6⟩ | exact ⟨k1, k2, k3, k4, k5, k6⟩)) (first | (go_at_call_of 54 (Value.int .i64 s1); refine ((unhide Z1) _).mono ?_; rintro e w' ⟨rfl, hw9⟩; subst hw9) | (go_at_call_of 54 (Value.int .i64 s2); refine ((unhide Z2) _).mono ?_; rintro e w' ⟨rfl, hw9⟩; subst hw9) | (go_at_call 32; refine ((unhide HM) _ ((unhide TT) _ (by (first | assumption | (repeat (first | exact Below.refl _ _ | assumption | refine Below.drew ?_ | (refine Below.alloc ?_ (by simp <;> omega) _))))))).mono ?_; rintro e w' ⟨rfl, hw9⟩; subst hw9) | (go_at_call 53; refine ((unhide HW) _).mono ?_; rintro e w' ⟨s, neg', A', cap', l', rfl, hf, hb⟩; have hbw := below_step (w := W0) (by (first | assumption | (repeat (first | exact Below.refl _ _ | assumption | refine Below.drew ?_ | (refine Below.alloc ?_ (by simp <;> omega) _))))) hb; obtain ⟨hc, hfz⟩ := bcell hbw))
    have hblk : w'.heap[w.heap.size + 1 + 1]? = some (.cells #[.int .i64 0, .bool false, .slice none 0 0] 46 (0, 0)) := (hbw.block _ q2).trans N3.out
    have HBLK := Lib.hid hblk
    have hb9 : Below w.heap.size w w' := below_step' hw0 hbw
    clear hblk
    go_wp2_with fail
    exact bodyPost_ret (v := .agg #[.int .i64 s, .bool neg', .slice A' l'.length cap']) (by simp [results, Tryd.results49, go_sem, hc, k7, k8, k9, q2]) rfl
      ⟨s, neg', A', cap', l', rfl, hf.upto HBLK.out (noWord3 _ _ _ _ _) (set3_grown _ _ _ _ _), hb9.grown (set3_grown _ _ _ _ _) hb9.size (fun k hk => by injection hk with hk; omega)⟩
  · by_cases a1 : l1.length = 0
    · have a2 : ¬ l2.length = 0 := fun h => hs ⟨a1, h⟩
      rw [decide_eq_true a1] at HS1
      rw [decide_eq_false a2] at HS2
      clear hsz1 hsz2 hs a1 a2
      go_enter Tryd.func49, Tryd.ntmps49
      go_wp2_with fail
      obtain ⟨n1, n2, n3, hsz, hw0⟩ := three_new w (.cells #[.int .i64 s1, .bool neg1, .slice A1 l1.length c1] 46) (.cells #[.int .i64 s2, .bool neg2, .slice A2 l2.length c2] 46) (.cells #[.int .i64 0, .bool false, .slice none 0 0] 46)
      generalize (((w.alloc (.cells #[.int .i64 s1, .bool neg1, .slice A1 l1.length c1] 46)).alloc (.cells #[.int .i64 s2, .bool neg2, .slice A2 l2.length c2] 46)).alloc (.cells #[.int .i64 0, .bool false, .slice none 0 0] 46)) = W0 at *
      have k1 := cells_of n1 0
      have k2 := cells_of n1 1
      have k3 := cells_of n1 2
      simp only [Array.getElem?_eq_getElem, three0, three1, three2] at k1 k2 k3
      have k4 := cells_of n2 0
      have k5 := cells_of n2 1
      have k6 := cells_of n2 2
      simp only [Array.getElem?_eq_getElem, three0, three1, three2] at k4 k5 k6
      have q0 : w.heap.size < W0.heap.size := by omega
      have q1 : w.heap.size + 1 < W0.heap.size := by omega
      have q2 : w.heap.size + 1 + 1 < W0.heap.size := by omega
      have k7 := cells_of n3 0
      have k8 := cells_of n3 1
      have k9 := cells_of n3 2
      simp only [Array.getElem?_eq_getElem, three0, three1, three2] at k7 k8 k9
      have f7 := unfrozen_of n3 0
      have f8 := unfrozen_of n3 1
      have f9 := unfrozen_of n3 2
      have N3 := Lib.hid n3
      clear n3
      clear n1 n2
      have B1 := (unhide HB1) W0 hw0; have B2 := (unhide HB2) W0 hw0; have TT := (unhide HTT) W0 hw0
      refine ((unhide HS1) _).mono ?_
      rintro e w1 ⟨rfl, hw1⟩
      have hbw1 := below_eq (w := W0) (by (first | assumption | (repeat (first | exact Below.refl _ _ | assumption | refine Below.drew ?_ | (refine Below.alloc ?_ (by simp <;> omega) _))))) hw1
      obtain ⟨hc, hfz⟩ := bcell hbw1
      clear hw1
      go_wp2_with fail
      refine ((unhide HS2) _).mono ?_
      rintro e w2 ⟨rfl, hw2⟩
      have hbw2 := below_eq (w := W0) (by (first | assumption | (repeat (first | exact Below.refl _ _ | assumption | refine Below.drew ?_ | (refine Below.alloc ?_ (by simp <;> omega) _))))) hw2
      obtain ⟨hc, hfz⟩ := bcell hbw2
      clear hw2
      go_wp2_with fail
      go_region_held3 (fun w' => w'.cell? ⟨w.heap.size, 0, none⟩ = some (.int .i64 s1) ∧ w'.cell? ⟨w.heap.size, 1, none⟩ = some (.bool neg1) ∧ w'.cell? ⟨w.heap.size, 2, none⟩ = some (.slice A1 l1.length c1) ∧ w'.cell? ⟨w.heap.size + 1, 0, none⟩ = some (.int .i64 s2) ∧ w'.cell? ⟨w.heap.size + 1, 1, none⟩ = some (.bool neg2) ∧ w'.cell? ⟨w.heap.size + 1, 2, none⟩ = some (.slice A2 l2.length c2)) ((first | with_reducible exact ⟨(hc _ _ q0).trans k1, (hc _ _ q0).trans k2, (hc _ _ q0).trans k3, (hc _ _ q1).trans k4, (hc _ _ q1).trans k5, (hc _ _ q1).trans k6⟩ | with_reducible exact ⟨k1, k2, k3, k4, k5, k6⟩ | with_reducible exact ⟨(cell_set3 _ _ _ _ _ (by omega)).trans ((hc _ _ q0).trans k1), (cell_set3 _ _ _ _ _ (by omega)).trans ((hc _ _ q0).trans k2), (cell_set3 _ _ _ _ _ (by omega)).trans ((hc _ _ q0).trans k3), (cell_set3 _ _ _ _ _ (by omega)).trans ((hc _ _ q1).trans k4), (cell_set3 _ _ _ _ _ (by omega)).trans ((hc _ _ q1).trans k5), (cell_set3 _ _ _ _ _ (by omega)).trans ((hc _ _ q1).trans k6)⟩ | exact ⟨(hc _ _ q0).trans k1, (hc _ _ q0).trans k2, (hc _ _ q0).trans k3, (hc _ _ q1).trans k4, (hc _ _ q1).trans k5, (hc _ _ q1).trans k6⟩ | exact ⟨k1, k2, k3, k4, k5, k6⟩)) (first | (go_at_call_of 77 (Value.agg #[.int .i64 s1, .bool neg1, .slice A1 l1.length c1]); refine ((unhide B1) _ (by (first | assumption | (repeat (first | exact Below.refl _ _ | assumption | refine Below.drew ?_ | (refine Below.alloc ?_ (by simp <;> omega) _)))))).mono ?_; rintro e w' ⟨A5, cap5, l5, rfl, hn5, hb⟩; have hbw := below_step (w := W0) (by (first | assumption | (repeat (first | exact Below.refl _ _ | assumption | refine Below.drew ?_ | (refine Below.alloc ?_ (by simp <;> omega) _))))) hb; obtain ⟨hc, hfz⟩ := bcell hbw) | (go_at_call_of 77 (Value.agg #[.int .i64 s2, .bool neg2, .slice A2 l2.length c2]); refine ((unhide B2) _ (by (first | assumption | (repeat (first | exact Below.refl _ _ | assumption | refine Below.drew ?_ | (refine Below.alloc ?_ (by simp <;> omega) _)))))).mono ?_; rintro e w' ⟨A6, cap6, l6, rfl, hn6, hb⟩; have hn5' := hn5.below hb; have hbw := below_step (w := W0) (by (first | assumption | (repeat (first | exact Below.refl _ _ | assumption | refine Below.drew ?_ | (refine Below.alloc ?_ (by simp <;> omega) _))))) hb; obtain ⟨hc, hfz⟩ := bcell hbw) | (go_at_call 78; refine (ngcd_any A5 A6 cap5 cap6 l5 l6 m1 m2 _ (by exact hn5') (by exact hn6) ((unhide TT) _ (by (first | assumption | (repeat (first | exact Below.refl _ _ | assumption | refine Below.drew ?_ | (refine Below.alloc ?_ (by simp <;> omega) _)))))) ((unhide HLEN) _ _ _ _ () hn5').1 ((unhide HLEN2) _ _ _ _ () hn6).1).mono ?_; rintro e w' ⟨A7, cap7, l7, rfl, hn7, hb⟩; have hbw := below_step (w := W0) (by (first | assumption | (repeat (first | exact Below.refl _ _ | assumption | refine Below.drew ?_ | (refine Below.alloc ?_ (by simp <;> omega) _))))) hb; obtain ⟨hc, hfz⟩ := bcell hbw) | (go_at_call 76; refine (signed_any false A7 cap7 l7 (m1.gcd m2) _ (by exact hn7)).mono ?_; rw [if_neg Bool.false_ne_true]; rintro e w' ⟨s, neg', A', cap', l', rfl, hf, hb⟩; have hbw := below_step (w := W0) (by (first | assumption | (repeat (first | exact Below.refl _ _ | assumption | refine Below.drew ?_ | (refine Below.alloc ?_ (by simp <;> omega) _))))) hb; obtain ⟨hc, hfz⟩ := bcell hbw))
      have hblk : w'.heap[w.heap.size + 1 + 1]? = some (.cells #[.int .i64 0, .bool false, .slice none 0 0] 46 (0, 0)) := (hbw.block _ q2).trans N3.out
      have HBLK := Lib.hid hblk
      have hb9 : Below w.heap.size w w' := below_step' hw0 hbw
      clear hblk
      go_wp2_with fail
      exact bodyPost_ret (v := .agg #[.int .i64 s, .bool neg', .slice A' l'.length cap']) (by simp [results, Tryd.results49, go_sem, hc, k7, k8, k9, q2]) rfl
        ⟨s, neg', A', cap', l', rfl, hf.upto HBLK.out (noWord3 _ _ _ _ _) (set3_grown _ _ _ _ _), hb9.grown (set3_grown _ _ _ _ _) hb9.size (fun k hk => by injection hk with hk; omega)⟩
    · skip
      rw [decide_eq_false a1] at HS1
      clear hsz1 hsz2 hs a1
      go_enter Tryd.func49, Tryd.ntmps49
      go_wp2_with fail
      obtain ⟨n1, n2, n3, hsz, hw0⟩ := three_new w (.cells #[.int .i64 s1, .bool neg1, .slice A1 l1.length c1] 46) (.cells #[.int .i64 s2, .bool neg2, .slice A2 l2.length c2] 46) (.cells #[.int .i64 0, .bool false, .slice none 0 0] 46)
      generalize (((w.alloc (.cells #[.int .i64 s1, .bool neg1, .slice A1 l1.length c1] 46)).alloc (.cells #[.int .i64 s2, .bool neg2, .slice A2 l2.length c2] 46)).alloc (.cells #[.int .i64 0, .bool false, .slice none 0 0] 46)) = W0 at *
      have k1 := cells_of n1 0
      have k2 := cells_of n1 1
      have k3 := cells_of n1 2
      simp only [Array.getElem?_eq_getElem, three0, three1, three2] at k1 k2 k3
      have k4 := cells_of n2 0
      have k5 := cells_of n2 1
      have k6 := cells_of n2 2
      simp only [Array.getElem?_eq_getElem, three0, three1, three2] at k4 k5 k6
      have q0 : w.heap.size < W0.heap.size := by omega
      have q1 : w.heap.size + 1 < W0.heap.size := by omega
      have q2 : w.heap.size + 1 + 1 < W0.heap.size := by omega
      have k7 := cells_of n3 0
      have k8 := cells_of n3 1
      have k9 := cells_of n3 2
      simp only [Array.getElem?_eq_getElem, three0, three1, three2] at k7 k8 k9
      have f7 := unfrozen_of n3 0
      have f8 := unfrozen_of n3 1
      have f9 := unfrozen_of n3 2
      have N3 := Lib.hid n3
      clear n3
      clear n1 n2
      have B1 := (unhide HB1) W0 hw0; have B2 := (unhide HB2) W0 hw0; have TT := (unhide HTT) W0 hw0
      refine ((unhide HS1) _).mono ?_
      rintro e w1 ⟨rfl, hw1⟩
      have hbw1 := below_eq (w := W0) (by (first | assumption | (repeat (first | exact Below.refl _ _ | assumption | refine Below.drew ?_ | (refine Below.alloc ?_ (by simp <;> omega) _))))) hw1
      obtain ⟨hc, hfz⟩ := bcell hbw1
      clear hw1
      go_wp2_with fail
      go_region_held3 (fun w' => w'.cell? ⟨w.heap.size, 0, none⟩ = some (.int .i64 s1) ∧ w'.cell? ⟨w.heap.size, 1, none⟩ = some (.bool neg1) ∧ w'.cell? ⟨w.heap.size, 2, none⟩ = some (.slice A1 l1.length c1) ∧ w'.cell? ⟨w.heap.size + 1, 0, none⟩ = some (.int .i64 s2) ∧ w'.cell? ⟨w.heap.size + 1, 1, none⟩ = some (.bool neg2) ∧ w'.cell? ⟨w.heap.size + 1, 2, none⟩ = some (.slice A2 l2.length c2)) ((first | with_reducible exact ⟨(hc _ _ q0).trans k1, (hc _ _ q0).trans k2, (hc _ _ q0).trans k3, (hc _ _ q1).trans k4, (hc _ _ q1).trans k5, (hc _ _ q1).trans k6⟩ | with_reducible exact ⟨k1, k2, k3, k4, k5, k6⟩ | with_reducible exact ⟨(cell_set3 _ _ _ _ _ (by omega)).trans ((hc _ _ q0).trans k1), (cell_set3 _ _ _ _ _ (by omega)).trans ((hc _ _ q0).trans k2), (cell_set3 _ _ _ _ _ (by omega)).trans ((hc _ _ q0).trans k3), (cell_set3 _ _ _ _ _ (by omega)).trans ((hc _ _ q1).trans k4), (cell_set3 _ _ _ _ _ (by omega)).trans ((hc _ _ q1).trans k5), (cell_set3 _ _ _ _ _ (by omega)).trans ((hc _ _ q1).trans k6)⟩ | exact ⟨(hc _ _ q0).trans k1, (hc _ _ q0).trans k2, (hc _ _ q0).trans k3, (hc _ _ q1).trans k4, (hc _ _ q1).trans k5, (hc _ _ q1).trans k6⟩ | exact ⟨k1, k2, k3, k4, k5, k6⟩)) (first | (go_at_call_of 77 (Value.agg #[.int .i64 s1, .bool neg1, .slice A1 l1.length c1]); refine ((unhide B1) _ (by (first | assumption | (repeat (first | exact Below.refl _ _ | assumption | refine Below.drew ?_ | (refine Below.alloc ?_ (by simp <;> omega) _)))))).mono ?_; rintro e w' ⟨A5, cap5, l5, rfl, hn5, hb⟩; have hbw := below_step (w := W0) (by (first | assumption | (repeat (first | exact Below.refl _ _ | assumption | refine Below.drew ?_ | (refine Below.alloc ?_ (by simp <;> omega) _))))) hb; obtain ⟨hc, hfz⟩ := bcell hbw) | (go_at_call_of 77 (Value.agg #[.int .i64 s2, .bool neg2, .slice A2 l2.length c2]); refine ((unhide B2) _ (by (first | assumption | (repeat (first | exact Below.refl _ _ | assumption | refine Below.drew ?_ | (refine Below.alloc ?_ (by simp <;> omega) _)))))).mono ?_; rintro e w' ⟨A6, cap6, l6, rfl, hn6, hb⟩; have hn5' := hn5.below hb; have hbw := below_step (w := W0) (by (first | assumption | (repeat (first | exact Below.refl _ _ | assumption | refine Below.drew ?_ | (refine Below.alloc ?_ (by simp <;> omega) _))))) hb; obtain ⟨hc, hfz⟩ := bcell hbw) | (go_at_call 78; refine (ngcd_any A5 A6 cap5 cap6 l5 l6 m1 m2 _ (by exact hn5') (by exact hn6) ((unhide TT) _ (by (first | assumption | (repeat (first | exact Below.refl _ _ | assumption | refine Below.drew ?_ | (refine Below.alloc ?_ (by simp <;> omega) _)))))) ((unhide HLEN) _ _ _ _ () hn5').1 ((unhide HLEN2) _ _ _ _ () hn6).1).mono ?_; rintro e w' ⟨A7, cap7, l7, rfl, hn7, hb⟩; have hbw := below_step (w := W0) (by (first | assumption | (repeat (first | exact Below.refl _ _ | assumption | refine Below.drew ?_ | (refine Below.alloc ?_ (by simp <;> omega) _))))) hb; obtain ⟨hc, hfz⟩ := bcell hbw) | (go_at_call 76; refine (signed_any false A7 cap7 l7 (m1.gcd m2) _ (by exact hn7)).mono ?_; rw [if_neg Bool.false_ne_true]; rintro e w' ⟨s, neg', A', cap', l', rfl, hf, hb⟩; have hbw := below_step (w := W0) (by (first | assumption | (repeat (first | exact Below.refl _ _ | assumption | refine Below.drew ?_ | (refine Below.alloc ?_ (by simp <;> omega) _))))) hb; obtain ⟨hc, hfz⟩ := bcell hbw))
      have hblk : w'.heap[w.heap.size + 1 + 1]? = some (.cells #[.int .i64 0, .bool false, .slice none 0 0] 46 (0, 0)) := (hbw.block _ q2).trans N3.out
      have HBLK := Lib.hid hblk
      have hb9 : Below w.heap.size w w' := below_step' hw0 hbw
      clear hblk
      go_wp2_with fail
      exact bodyPost_ret (v := .agg #[.int .i64 s, .bool neg', .slice A' l'.length cap']) (by simp [results, Tryd.results49, go_sem, hc, k7, k8, k9, q2]) rfl
        ⟨s, neg', A', cap', l', rfl, hf.upto HBLK.out (noWord3 _ _ _ _ _) (set3_grown _ _ _ _ _), hb9.grown (set3_grown _ _ _ _ _) hb9.size (fun k hk => by injection hk with hk; omega)⟩

end Go.Proofs.YtfbcdfoohpkfeaaDoor
/- Quotients of whole numbers. -/
namespace Go.Proofs.YtfbcdfoohpkfeaaDoor
open Go.RowKit

theorem sgn_mul_quo (z1 z2 : Int) : (if decide (sgn z1 * sgn z2 < 0) = true then -((z1.natAbs / z2.natAbs : Nat) : Int) else ((z1.natAbs / z2.natAbs : Nat) : Int)) = z1.tdiv z2 := by
  rcases Int.lt_trichotomy z1 0 with a | a | a <;> rcases Int.lt_trichotomy z2 0 with b | b | b
  all_goals
    first
      | (subst a; simp [sgn])
      | (subst b; simp [sgn])
      | skip
  all_goals
    simp only [sgn, a, b, if_true, if_neg (Int.not_lt.2 (Int.le_of_lt a)), if_neg (Int.not_lt.2 (Int.le_of_lt b))]
  · obtain ⟨x, hx⟩ : ∃ x : Nat, z1 = -(x : Int) := ⟨z1.natAbs, by omega⟩
    obtain ⟨y, hy⟩ : ∃ y : Nat, z2 = -(y : Int) := ⟨z2.natAbs, by omega⟩
    subst hx; subst hy
    rw [Int.natAbs_neg, Int.natAbs_neg, Int.natAbs_natCast, Int.natAbs_natCast, Int.neg_tdiv, Int.tdiv_neg, Int.neg_neg]
    simp [Int.ofNat_tdiv]
  · obtain ⟨x, hx⟩ : ∃ x : Nat, z1 = -(x : Int) := ⟨z1.natAbs, by omega⟩
    obtain ⟨y, hy⟩ : ∃ y : Nat, z2 = (y : Int) := ⟨z2.natAbs, by omega⟩
    subst hx; subst hy
    rw [Int.natAbs_neg, Int.natAbs_natCast, Int.natAbs_natCast, Int.neg_tdiv]
    simp [Int.ofNat_tdiv]
  · obtain ⟨x, hx⟩ : ∃ x : Nat, z1 = (x : Int) := ⟨z1.natAbs, by omega⟩
    obtain ⟨y, hy⟩ : ∃ y : Nat, z2 = -(y : Int) := ⟨z2.natAbs, by omega⟩
    subst hx; subst hy
    rw [Int.natAbs_neg, Int.natAbs_natCast, Int.natAbs_natCast, Int.tdiv_neg]
    simp [Int.ofNat_tdiv]
  · obtain ⟨x, hx⟩ : ∃ x : Nat, z1 = (x : Int) := ⟨z1.natAbs, by omega⟩
    obtain ⟨y, hy⟩ : ∃ y : Nat, z2 = (y : Int) := ⟨z2.natAbs, by omega⟩
    subst hx; subst hy
    rw [Int.natAbs_natCast, Int.natAbs_natCast]
    simp [Int.ofNat_tdiv]

set_option maxRecDepth 100000 in
set_option maxHeartbeats 8000000 in
theorem iquo_any (s1 : Int) (neg1 : Bool) (A1 : Option Addr) (c1 : Nat) (l1 : List Nat) (z1 : Int) (s2 : Int) (neg2 : Bool) (A2 : Option Addr) (c2 : Nat) (l2 : List Nat) (z2 : Int) (w : World)
    (h1 : IntF w s1 neg1 A1 c1 l1 z1) (h2 : IntF w s2 neg2 A2 c2 l2 z2) (hl1 : l1.length ≤ lim) (hl2 : l2.length ≤ lim) (hz0 : z2 ≠ 0) :
    Calls Tryd.prog 52 #[.agg #[.int .i64 s1, .bool neg1, .slice A1 l1.length c1], .agg #[.int .i64 s2, .bool neg2, .slice A2 l2.length c2]] w fun e w' => IntR w (z1.tdiv z2) e w' := by
  have HS1 := hide (fun W => isSmall_any s1 neg1 A1 c1 l1.length W)
  have HS2 := hide (fun W => isSmall_any s2 neg2 A2 c2 l2.length W)
  have hz := sgn_mul_quo z1 z2
  have LEN : ∀ (W : World) (A5 : Option Addr) (c5 : Nat) (l5 : List Nat) (_ : Unit), NatV W A5 c5 l5 z1.natAbs → l5.length ≤ lim ∧ l5.length + 1 ≤ 35184372088832 := fun _ _ _ _ _ g => h1.len_lim hl1 g
  have LEN2 : ∀ (W : World) (A5 : Option Addr) (c5 : Nat) (l5 : List Nat) (_ : Unit), NatV W A5 c5 l5 z2.natAbs → l5.length ≤ lim ∧ l5.length + 1 ≤ 35184372088832 := fun _ _ _ _ _ g => h2.len_lim hl2 g
  have G1 : ∀ W0, Below w.heap.size w W0 → Hid (∀ W, Below W0.heap.size W0 W → Calls Tryd.prog 50 #[.agg #[.int .i64 s1, .bool neg1, .slice A1 l1.length c1]] W fun e w' => e = .returned (.int .i64 (sgn z1)) ∧ Below W.heap.size W w') := fun W0 h0 W hW => sign_any s1 neg1 A1 c1 l1 z1 W (IntF.below h1 (below_step' h0 hW))
  have G2 : ∀ W0, Below w.heap.size w W0 → Hid (∀ W, Below W0.heap.size W0 W → Calls Tryd.prog 50 #[.agg #[.int .i64 s2, .bool neg2, .slice A2 l2.length c2]] W fun e w' => e = .returned (.int .i64 (sgn z2)) ∧ Below W.heap.size W w') := fun W0 h0 W hW => sign_any s2 neg2 A2 c2 l2 z2 W (IntF.below h2 (below_step' h0 hW))
  have B1 : ∀ W0, Below w.heap.size w W0 → Hid (∀ W, Below W0.heap.size W0 W → Calls Tryd.prog 77 #[.agg #[.int .i64 s1, .bool neg1, .slice A1 l1.length c1]] W fun e w' => NatR W z1.natAbs e w') := fun W0 h0 W hW => abs_any s1 neg1 A1 c1 l1 z1 W (IntF.below h1 (below_step' h0 hW))
  have B2 : ∀ W0, Below w.heap.size w W0 → Hid (∀ W, Below W0.heap.size W0 W → Calls Tryd.prog 77 #[.agg #[.int .i64 s2, .bool neg2, .slice A2 l2.length c2]] W fun e w' => NatR W z2.natAbs e w') := fun W0 h0 W hW => abs_any s2 neg2 A2 c2 l2 z2 W (IntF.below h2 (below_step' h0 hW))
  have ho1 : -1 ≤ sgn z1 * sgn z2 ∧ sgn z1 * sgn z2 ≤ 1 := by unfold sgn; (repeat' split) <;> omega
  have hsz1 : l1.length = 0 → s1 = z1 ∧ z1.natAbs < M63 := fun h => by obtain ⟨e, _, e3⟩ := h1.of_small h; exact ⟨e, e3⟩
  have hsz2 : l2.length = 0 → s2 = z2 ∧ z2.natAbs < M63 := fun h => by obtain ⟨e, _, e3⟩ := h2.of_small h; exact ⟨e, e3⟩
  have hm20 : 0 < z2.natAbs := by omega
  by_cases hs : l1.length = 0 ∧ l2.length = 0
  · obtain ⟨a1, a2⟩ := hs
    rw [decide_eq_true a1] at HS1
    rw [decide_eq_true a2] at HS2
    obtain ⟨y1, y2⟩ := hsz1 a1
    obtain ⟨y3, y4⟩ := hsz2 a2
    subst y1; subst y3
    have hq : (s1.tdiv s2).natAbs < M63 := by rw [Int.natAbs_tdiv]; exact Nat.lt_of_le_of_lt (Nat.div_le_self _ _) y2
    have eq : IntKind.i64.wrap (s1.tdiv s2) = s1.tdiv s2 := IntWalk.i64_in _ (by rw [M63_eq] at hq; omega)
    have eq' : wrap64 (s1.tdiv s2) = s1.tdiv s2 := IntWalk.wrap64_in _ (by rw [M63_eq] at hq; omega)
    have HQ := hide hq
    have b0 : (s2 == 0) = false := beq_eq_false_iff_ne.2 hz0
    clear hz LEN LEN2 G1 G2 B1 B2 ho1 hsz1 hsz2 hm20 h1 h2 hl1 hl2 a1 a2 y2 y4 hq
    go_enter Tryd.func52, Tryd.ntmps52
    go_wp2_with fail
    obtain ⟨n1, n2, n3, hsz, hw0⟩ := three_new w (.cells #[.int .i64 s1, .bool neg1, .slice A1 l1.length c1] 46) (.cells #[.int .i64 s2, .bool neg2, .slice A2 l2.length c2] 46) (.cells #[.int .i64 0, .bool false, .slice none 0 0] 46)
    generalize (((w.alloc (.cells #[.int .i64 s1, .bool neg1, .slice A1 l1.length c1] 46)).alloc (.cells #[.int .i64 s2, .bool neg2, .slice A2 l2.length c2] 46)).alloc (.cells #[.int .i64 0, .bool false, .slice none 0 0] 46)) = W0 at *
    have k1 := cells_of n1 0
    have k2 := cells_of n1 1
    have k3 := cells_of n1 2
    simp only [Array.getElem?_eq_getElem, three0, three1, three2] at k1 k2 k3
    have k4 := cells_of n2 0
    have k5 := cells_of n2 1
    have k6 := cells_of n2 2
    simp only [Array.getElem?_eq_getElem, three0, three1, three2] at k4 k5 k6
    have q0 : w.heap.size < W0.heap.size := by omega
    have q1 : w.heap.size + 1 < W0.heap.size := by omega
    have q2 : w.heap.size + 1 + 1 < W0.heap.size := by omega
    have k7 := cells_of n3 0
    have k8 := cells_of n3 1
    have k9 := cells_of n3 2
    simp only [Array.getElem?_eq_getElem, three0, three1, three2] at k7 k8 k9
    have f7 := unfrozen_of n3 0
    have f8 := unfrozen_of n3 1
    have f9 := unfrozen_of n3 2
    have N3 := Lib.hid n3
    clear n3
    clear n1 n2
    refine ((unhide HS1) _).mono ?_
    rintro e w1 ⟨rfl, hw1⟩
    have hbw1 := below_eq (w := W0) (by (first | assumption | (repeat (first | exact Below.refl _ _ | assumption | refine Below.drew ?_ | (refine Below.alloc ?_ (by simp <;> omega) _))))) hw1
    obtain ⟨hc, hfz⟩ := bcell hbw1
    clear hw1
    go_wp2_with fail
    refine ((unhide HS2) _).mono ?_
    rintro e w2 ⟨rfl, hw2⟩
    have hbw2 := below_eq (w := W0) (by (first | assumption | (repeat (first | exact Below.refl _ _ | assumption | refine Below.drew ?_ | (refine Below.alloc ?_ (by simp <;> omega) _))))) hw2
    obtain ⟨hc, hfz⟩ := bcell hbw2
    clear hw2
    go_wp2_with fail
    refine bodyPost_ret (v := .agg #[.int .i64 (s1.tdiv s2), .bool false, .slice none 0 0]) (by simp [results, Tryd.results52, go_sem, hc, k7, k8, k9, q2]) rfl ⟨s1.tdiv s2, false, none, 0, [], rfl, IntF.small (unhide HQ), ?_⟩
    have hb9 : Below w.heap.size w w2 := below_step' hw0 hbw2
    exact hb9.grown (set3_grown _ _ _ _ _) hb9.size (fun k hk => by injection hk with hk; omega)
  · 
    obtain ⟨m1, hm1⟩ : ∃ o, o = z1.natAbs := ⟨_, rfl⟩
    obtain ⟨m2, hm2⟩ : ∃ o, o = z2.natAbs := ⟨_, rfl⟩
    obtain ⟨o1, hoo1⟩ : ∃ o, o = sgn z1 := ⟨_, rfl⟩
    obtain ⟨o2, hoo2⟩ : ∃ o, o = sgn z2 := ⟨_, rfl⟩
    rw [← hm1] at B1 LEN hz
    rw [← hm2] at B2 LEN2 hz hm20
    rw [← hoo1] at G1 hz ho1
    rw [← hoo2] at G2 hz ho1
    obtain ⟨op, hop⟩ : ∃ o, o = o1 * o2 := ⟨_, rfl⟩
    have e1 : IntKind.i64.wrap (o1 * o2) = op := by rw [hop]; exact IntWalk.i64_in _ (by omega)
    have e1' : wrap64 (o1 * o2) = op := by rw [hop]; exact IntWalk.wrap64_in _ (by omega)
    rw [← hop] at hz
    obtain ⟨ng, hng⟩ : ∃ b, b = decide (op < 0) := ⟨_, rfl⟩
    rw [← hng] at hz
    obtain ⟨Z, hZ⟩ : ∃ o, o = z1.tdiv z2 := ⟨_, rfl⟩
    rw [← hZ] at hz ⊢
    have HZ := Lib.hid hz.symm
    have HG1 := hide G1; have HG2 := hide G2; have HB1 := hide B1; have HB2 := hide B2; have HLEN := hide LEN; have HLEN2 := hide LEN2
    have ngE := hng.symm
    clear hm1 hm2 hoo1 hoo2 ho1 hop hng hz hZ G1 G2 B1 B2 h1 h2 LEN LEN2 hl1 hl2 hz0
    by_cases a1 : l1.length = 0
    · have a2 : ¬ l2.length = 0 := fun h => hs ⟨a1, h⟩
      rw [decide_eq_true a1] at HS1
      rw [decide_eq_false a2] at HS2
      clear hsz1 hsz2 hs a1 a2
      go_enter Tryd.func52, Tryd.ntmps52
      go_wp2_with fail
      obtain ⟨n1, n2, n3, hsz, hw0⟩ := three_new w (.cells #[.int .i64 s1, .bool neg1, .slice A1 l1.length c1] 46) (.cells #[.int .i64 s2, .bool neg2, .slice A2 l2.length c2] 46) (.cells #[.int .i64 0, .bool false, .slice none 0 0] 46)
      generalize (((w.alloc (.cells #[.int .i64 s1, .bool neg1, .slice A1 l1.length c1] 46)).alloc (.cells #[.int .i64 s2, .bool neg2, .slice A2 l2.length c2] 46)).alloc (.cells #[.int .i64 0, .bool false, .slice none 0 0] 46)) = W0 at *
      have k1 := cells_of n1 0
      have k2 := cells_of n1 1
      have k3 := cells_of n1 2
      simp only [Array.getElem?_eq_getElem, three0, three1, three2] at k1 k2 k3
      have k4 := cells_of n2 0
      have k5 := cells_of n2 1
      have k6 := cells_of n2 2
      simp only [Array.getElem?_eq_getElem, three0, three1, three2] at k4 k5 k6
      have q0 : w.heap.size < W0.heap.size := by omega
      have q1 : w.heap.size + 1 < W0.heap.size := by omega
      have q2 : w.heap.size + 1 + 1 < W0.heap.size := by omega
      have k7 := cells_of n3 0
      have k8 := cells_of n3 1
      have k9 := cells_of n3 2
      simp only [Array.getElem?_eq_getElem, three0, three1, three2] at k7 k8 k9
      have f7 := unfrozen_of n3 0
      have f8 := unfrozen_of n3 1
      have f9 := unfrozen_of n3 2
      have N3 := Lib.hid n3
      clear n3
      clear n1 n2
      have G1 := (unhide HG1) W0 hw0; have G2 := (unhide HG2) W0 hw0; have B1 := (unhide HB1) W0 hw0; have B2 := (unhide HB2) W0 hw0
      refine ((unhide HS1) _).mono ?_
      rintro e w1 ⟨rfl, hw1⟩
      have hbw1 := below_eq (w := W0) (by (first | assumption | (repeat (first | exact Below.refl _ _ | assumption | refine Below.drew ?_ | (refine Below.alloc ?_ (by simp <;> omega) _))))) hw1
      obtain ⟨hc, hfz⟩ := bcell hbw1
      clear hw1
      go_wp2_with fail
      refine ((unhide HS2) _).mono ?_
      rintro e w2 ⟨rfl, hw2⟩
      have hbw2 := below_eq (w := W0) (by (first | assumption | (repeat (first | exact Below.refl _ _ | assumption | refine Below.drew ?_ | (refine Below.alloc ?_ (by simp <;> omega) _))))) hw2
      obtain ⟨hc, hfz⟩ := bcell hbw2
      clear hw2
      go_wp2_with fail
      go_region_with (first | (go_at_call_of 77 (Value.agg #[.int .i64 s1, .bool neg1, .slice A1 l1.length c1]); refine ((unhide B1) _ (by (first | assumption | (repeat (first | exact Below.refl _ _ | assumption | refine Below.drew ?_ | (refine Below.alloc ?_ (by simp <;> omega) _)))))).mono ?_; rintro e w' ⟨A5, cap5, l5, rfl, hn5, hb⟩; have hbw := below_step (w := W0) (by (first | assumption | (repeat (first | exact Below.refl _ _ | assumption | refine Below.drew ?_ | (refine Below.alloc ?_ (by simp <;> omega) _))))) hb; obtain ⟨hc, hfz⟩ := bcell hbw) | (go_at_call_of 77 (Value.agg #[.int .i64 s2, .bool neg2, .slice A2 l2.length c2]); refine ((unhide B2) _ (by (first | assumption | (repeat (first | exact Below.refl _ _ | assumption | refine Below.drew ?_ | (refine Below.alloc ?_ (by simp <;> omega) _)))))).mono ?_; rintro e w' ⟨A6, cap6, l6, rfl, hn6, hb⟩; have hn5' := hn5.below hb; have hbw := below_step (w := W0) (by (first | assumption | (repeat (first | exact Below.refl _ _ | assumption | refine Below.drew ?_ | (refine Below.alloc ?_ (by simp <;> omega) _))))) hb; obtain ⟨hc, hfz⟩ := bcell hbw) | (go_at_call 81; refine (div_any A5 A6 cap5 cap6 l5 l6 m1 m2 _ (by exact hn5') (by exact hn6) hm20 ((unhide HLEN) _ _ _ _ () hn5').2 ((unhide HLEN2) _ _ _ _ () hn6).2).mono ?_; rintro e w' ⟨A7, cap7, l7, A8, cap8, l8, rfl, hn7, hn8, hb⟩; have hbw := below_step (w := W0) (by (first | assumption | (repeat (first | exact Below.refl _ _ | assumption | refine Below.drew ?_ | (refine Below.alloc ?_ (by simp <;> omega) _))))) hb; obtain ⟨hc, hfz⟩ := bcell hbw))
      all_goals
        go_wp2_with fail
        go_region_with (first | (go_at_call_of 50 (Value.agg #[.int .i64 s1, .bool neg1, .slice A1 l1.length c1]); refine ((unhide G1) _ (by (first | assumption | (repeat (first | exact Below.refl _ _ | assumption | refine Below.drew ?_ | (refine Below.alloc ?_ (by simp <;> omega) _)))))).mono ?_; rintro e w' ⟨rfl, hb⟩; have hn7 : NatV w' A7 cap7 l7 (m1 / m2) := (by first | exact hn7.below hb | exact NatV.below (NatV.drew hn7) hb | exact NatV.below (w := World.drew _) hn7 hb); have hbw := below_step (w := W0) (by (first | assumption | (repeat (first | exact Below.refl _ _ | assumption | refine Below.drew ?_ | (refine Below.alloc ?_ (by simp <;> omega) _))))) hb; obtain ⟨hc, hfz⟩ := bcell hbw) | (go_at_call_of 50 (Value.agg #[.int .i64 s2, .bool neg2, .slice A2 l2.length c2]); refine ((unhide G2) _ (by (first | assumption | (repeat (first | exact Below.refl _ _ | assumption | refine Below.drew ?_ | (refine Below.alloc ?_ (by simp <;> omega) _)))))).mono ?_; rintro e w' ⟨rfl, hb⟩; have hn7 : NatV w' A7 cap7 l7 (m1 / m2) := (by first | exact hn7.below hb | exact NatV.below (NatV.drew hn7) hb | exact NatV.below (w := World.drew _) hn7 hb); have hbw := below_step (w := W0) (by (first | assumption | (repeat (first | exact Below.refl _ _ | assumption | refine Below.drew ?_ | (refine Below.alloc ?_ (by simp <;> omega) _))))) hb; obtain ⟨hc, hfz⟩ := bcell hbw) | (go_at_call 76; refine (signed_any ng A7 cap7 l7 (m1 / m2) _ (by exact hn7)).mono ?_; rw [← HZ.out]; rintro e w' ⟨s, neg', A', cap', l', rfl, hf, hb⟩; have hbw := below_step (w := W0) (by (first | assumption | (repeat (first | exact Below.refl _ _ | assumption | refine Below.drew ?_ | (refine Below.alloc ?_ (by simp <;> omega) _))))) hb; obtain ⟨hc, hfz⟩ := bcell hbw))
        all_goals
          have hblk : w'.heap[w.heap.size + 1 + 1]? = some (.cells #[.int .i64 0, .bool false, .slice none 0 0] 46 (0, 0)) := (hbw.block _ q2).trans N3.out
          have HBLK := Lib.hid hblk
          have hb9 : Below w.heap.size w w' := below_step' hw0 hbw
          clear hblk
          go_wp2_with fail
          exact bodyPost_ret (v := .agg #[.int .i64 s, .bool neg', .slice A' l'.length cap']) (by simp [results, Tryd.results52, go_sem, hc, k7, k8, k9, q2]) rfl
            ⟨s, neg', A', cap', l', rfl, hf.upto HBLK.out (noWord3 _ _ _ _ _) (set3_grown _ _ _ _ _), hb9.grown (set3_grown _ _ _ _ _) hb9.size (fun k hk => by injection hk with hk; omega)⟩
    · skip
      rw [decide_eq_false a1] at HS1
      clear hsz1 hsz2 hs a1
      go_enter Tryd.func52, Tryd.ntmps52
      go_wp2_with fail
      obtain ⟨n1, n2, n3, hsz, hw0⟩ := three_new w (.cells #[.int .i64 s1, .bool neg1, .slice A1 l1.length c1] 46) (.cells #[.int .i64 s2, .bool neg2, .slice A2 l2.length c2] 46) (.cells #[.int .i64 0, .bool false, .slice none 0 0] 46)
      generalize (((w.alloc (.cells #[.int .i64 s1, .bool neg1, .slice A1 l1.length c1] 46)).alloc (.cells #[.int .i64 s2, .bool neg2, .slice A2 l2.length c2] 46)).alloc (.cells #[.int .i64 0, .bool false, .slice none 0 0] 46)) = W0 at *
      have k1 := cells_of n1 0
      have k2 := cells_of n1 1
      have k3 := cells_of n1 2
      simp only [Array.getElem?_eq_getElem, three0, three1, three2] at k1 k2 k3
      have k4 := cells_of n2 0
      have k5 := cells_of n2 1
      have k6 := cells_of n2 2
      simp only [Array.getElem?_eq_getElem, three0, three1, three2] at k4 k5 k6
      have q0 : w.heap.size < W0.heap.size := by omega
      have q1 : w.heap.size + 1 < W0.heap.size := by omega
      have q2 : w.heap.size + 1 + 1 < W0.heap.size := by omega
      have k7 := cells_of n3 0
      have k8 := cells_of n3 1
      have k9 := cells_of n3 2
      simp only [Array.getElem?_eq_getElem, three0, three1, three2] at k7 k8 k9
      have f7 := unfrozen_of n3 0
      have f8 := unfrozen_of n3 1
      have f9 := unfrozen_of n3 2
      have N3 := Lib.hid n3
      clear n3
      clear n1 n2
      have G1 := (unhide HG1) W0 hw0; have G2 := (unhide HG2) W0 hw0; have B1 := (unhide HB1) W0 hw0; have B2 := (unhide HB2) W0 hw0
      refine ((unhide HS1) _).mono ?_
      rintro e w1 ⟨rfl, hw1⟩
      have hbw1 := below_eq (w := W0) (by (first | assumption | (repeat (first | exact Below.refl _ _ | assumption | refine Below.drew ?_ | (refine Below.alloc ?_ (by simp <;> omega) _))))) hw1
      obtain ⟨hc, hfz⟩ := bcell hbw1
      clear hw1
      go_wp2_with fail
      go_region_with (first | (go_at_call_of 77 (Value.agg #[.int .i64 s1, .bool neg1, .slice A1 l1.length c1]); refine ((unhide B1) _ (by (first | assumption | (repeat (first | exact Below.refl _ _ | assumption | refine Below.drew ?_ | (refine Below.alloc ?_ (by simp <;> omega) _)))))).mono ?_; rintro e w' ⟨A5, cap5, l5, rfl, hn5, hb⟩; have hbw := below_step (w := W0) (by (first | assumption | (repeat (first | exact Below.refl _ _ | assumption | refine Below.drew ?_ | (refine Below.alloc ?_ (by simp <;> omega) _))))) hb; obtain ⟨hc, hfz⟩ := bcell hbw) | (go_at_call_of 77 (Value.agg #[.int .i64 s2, .bool neg2, .slice A2 l2.length c2]); refine ((unhide B2) _ (by (first | assumption | (repeat (first | exact Below.refl _ _ | assumption | refine Below.drew ?_ | (refine Below.alloc ?_ (by simp <;> omega) _)))))).mono ?_; rintro e w' ⟨A6, cap6, l6, rfl, hn6, hb⟩; have hn5' := hn5.below hb; have hbw := below_step (w := W0) (by (first | assumption | (repeat (first | exact Below.refl _ _ | assumption | refine Below.drew ?_ | (refine Below.alloc ?_ (by simp <;> omega) _))))) hb; obtain ⟨hc, hfz⟩ := bcell hbw) | (go_at_call 81; refine (div_any A5 A6 cap5 cap6 l5 l6 m1 m2 _ (by exact hn5') (by exact hn6) hm20 ((unhide HLEN) _ _ _ _ () hn5').2 ((unhide HLEN2) _ _ _ _ () hn6).2).mono ?_; rintro e w' ⟨A7, cap7, l7, A8, cap8, l8, rfl, hn7, hn8, hb⟩; have hbw := below_step (w := W0) (by (first | assumption | (repeat (first | exact Below.refl _ _ | assumption | refine Below.drew ?_ | (refine Below.alloc ?_ (by simp <;> omega) _))))) hb; obtain ⟨hc, hfz⟩ := bcell hbw))
      all_goals
        go_wp2_with fail
        go_region_with (first | (go_at_call_of 50 (Value.agg #[.int .i64 s1, .bool neg1, .slice A1 l1.length c1]); refine ((unhide G1) _ (by (first | assumption | (repeat (first | exact Below.refl _ _ | assumption | refine Below.drew ?_ | (refine Below.alloc ?_ (by simp <;> omega) _)))))).mono ?_; rintro e w' ⟨rfl, hb⟩; have hn7 : NatV w' A7 cap7 l7 (m1 / m2) := (by first | exact hn7.below hb | exact NatV.below (NatV.drew hn7) hb | exact NatV.below (w := World.drew _) hn7 hb); have hbw := below_step (w := W0) (by (first | assumption | (repeat (first | exact Below.refl _ _ | assumption | refine Below.drew ?_ | (refine Below.alloc ?_ (by simp <;> omega) _))))) hb; obtain ⟨hc, hfz⟩ := bcell hbw) | (go_at_call_of 50 (Value.agg #[.int .i64 s2, .bool neg2, .slice A2 l2.length c2]); refine ((unhide G2) _ (by (first | assumption | (repeat (first | exact Below.refl _ _ | assumption | refine Below.drew ?_ | (refine Below.alloc ?_ (by simp <;> omega) _)))))).mono ?_; rintro e w' ⟨rfl, hb⟩; have hn7 : NatV w' A7 cap7 l7 (m1 / m2) := (by first | exact hn7.below hb | exact NatV.below (NatV.drew hn7) hb | exact NatV.below (w := World.drew _) hn7 hb); have hbw := below_step (w := W0) (by (first | assumption | (repeat (first | exact Below.refl _ _ | assumption | refine Below.drew ?_ | (refine Below.alloc ?_ (by simp <;> omega) _))))) hb; obtain ⟨hc, hfz⟩ := bcell hbw) | (go_at_call 76; refine (signed_any ng A7 cap7 l7 (m1 / m2) _ (by exact hn7)).mono ?_; rw [← HZ.out]; rintro e w' ⟨s, neg', A', cap', l', rfl, hf, hb⟩; have hbw := below_step (w := W0) (by (first | assumption | (repeat (first | exact Below.refl _ _ | assumption | refine Below.drew ?_ | (refine Below.alloc ?_ (by simp <;> omega) _))))) hb; obtain ⟨hc, hfz⟩ := bcell hbw))
        all_goals
          have hblk : w'.heap[w.heap.size + 1 + 1]? = some (.cells #[.int .i64 0, .bool false, .slice none 0 0] 46 (0, 0)) := (hbw.block _ q2).trans N3.out
          have HBLK := Lib.hid hblk
          have hb9 : Below w.heap.size w w' := below_step' hw0 hbw
          clear hblk
          go_wp2_with fail
          exact bodyPost_ret (v := .agg #[.int .i64 s, .bool neg', .slice A' l'.length cap']) (by simp [results, Tryd.results52, go_sem, hc, k7, k8, k9, q2]) rfl
            ⟨s, neg', A', cap', l', rfl, hf.upto HBLK.out (noWord3 _ _ _ _ _) (set3_grown _ _ _ _ _), hb9.grown (set3_grown _ _ _ _ _) hb9.size (fun k hk => by injection hk with hk; omega)⟩

end Go.Proofs.YtfbcdfoohpkfeaaDoor
/- Sums of whole numbers: small ones, with a small sum. -/
namespace Go.Proofs.YtfbcdfoohpkfeaaDoor
open Go.RowKit

set_option maxRecDepth 100000 in
set_option maxHeartbeats 8000000 in
theorem iadd_small (s1 : Int) (neg1 : Bool) (A1 : Option Addr) (c1 : Nat) (l1 : List Nat) (z1 : Int) (s2 : Int) (neg2 : Bool) (A2 : Option Addr) (c2 : Nat) (l2 : List Nat) (z2 : Int) (w : World)
    (h1 : IntF w s1 neg1 A1 c1 l1 z1) (h2 : IntF w s2 neg2 A2 c2 l2 z2) (hl1 : l1.length ≤ lim) (hl2 : l2.length ≤ lim) (a1 : l1.length = 0) (a2 : l2.length = 0) (hz : (z1 + z2).natAbs < M63) :
    Calls Tryd.prog 68 #[.agg #[.int .i64 s1, .bool neg1, .slice A1 l1.length c1], .agg #[.int .i64 s2, .bool neg2, .slice A2 l2.length c2]] w fun e w' => IntR w (z1 + z2) e w' := by
  have HS1 := hide (fun W => isSmall_any s1 neg1 A1 c1 l1.length W)
  have HS2 := hide (fun W => isSmall_any s2 neg2 A2 c2 l2.length W)
  rw [decide_eq_true a1] at HS1
  rw [decide_eq_true a2] at HS2
  obtain ⟨e1, en1, b1⟩ := h1.of_small a1
  obtain ⟨e2, en2, b2⟩ := h2.of_small a2
  clear en1 en2
  subst e1 e2
  obtain ⟨Z, hZ⟩ : ∃ o, o = s1 + s2 := ⟨_, rfl⟩
  rw [← hZ] at hz ⊢
  rw [M63_eq] at b1 b2
  have hz' := hz
  rw [M63_eq] at hz'
  have w1 : IntKind.i64.wrap (s1 + s2) = Z := by rw [hZ]; exact IntWalk.i64_in _ (by omega)
  have w2 : wrap64 (s1 + s2) = Z := by rw [hZ]; exact IntWalk.wrap64_in _ (by omega)
  have n1 : (Z == -9223372036854775808) = false := beq_eq_false_iff_ne.2 (by omega)
  have n2 : (Z != -9223372036854775808) = true := by simp [bne, n1]
  have HZ := hide hz
  by_cases hp : 0 < s2
  · have d1 : decide (s1 < Z) = true := decide_eq_true (by omega)
    have d2 : decide (0 < s2) = true := decide_eq_true hp
    clear h1 h2 hl1 hl2 a1 a2 hz hz' hZ b1 b2 hp
    go_enter Tryd.func68, Tryd.ntmps68
    go_wp2_with fail
    obtain ⟨n1, n2, n3, hsz, hw0⟩ := three_new w (.cells #[.int .i64 s1, .bool neg1, .slice A1 l1.length c1] 46) (.cells #[.int .i64 s2, .bool neg2, .slice A2 l2.length c2] 46) (.cells #[.int .i64 0, .bool false, .slice none 0 0] 46)
    generalize (((w.alloc (.cells #[.int .i64 s1, .bool neg1, .slice A1 l1.length c1] 46)).alloc (.cells #[.int .i64 s2, .bool neg2, .slice A2 l2.length c2] 46)).alloc (.cells #[.int .i64 0, .bool false, .slice none 0 0] 46)) = W0 at *
    have k1 := cells_of n1 0
    have k2 := cells_of n1 1
    have k3 := cells_of n1 2
    simp only [Array.getElem?_eq_getElem, three0, three1, three2] at k1 k2 k3
    have k4 := cells_of n2 0
    have k5 := cells_of n2 1
    have k6 := cells_of n2 2
    simp only [Array.getElem?_eq_getElem, three0, three1, three2] at k4 k5 k6
    have q0 : w.heap.size < W0.heap.size := by omega
    have q1 : w.heap.size + 1 < W0.heap.size := by omega
    have q2 : w.heap.size + 1 + 1 < W0.heap.size := by omega
    have k7 := cells_of n3 0
    have k8 := cells_of n3 1
    have k9 := cells_of n3 2
    simp only [Array.getElem?_eq_getElem, three0, three1, three2] at k7 k8 k9
    have f7 := unfrozen_of n3 0
    have f8 := unfrozen_of n3 1
    have f9 := unfrozen_of n3 2
    have N3 := Lib.hid n3
    clear n3
    clear n1 n2
    refine ((unhide HS1) _).mono ?_
    rintro e w1 ⟨rfl, hw1⟩
    have hbw1 := below_eq (w := W0) (by (first | assumption | (repeat (first | exact Below.refl _ _ | assumption | refine Below.drew ?_ | (refine Below.alloc ?_ (by simp <;> omega) _))))) hw1
    obtain ⟨hc, hfz⟩ := bcell hbw1
    clear hw1
    go_wp2_with fail
    refine ((unhide HS2) _).mono ?_
    rintro e w2 ⟨rfl, hw2⟩
    have hbw2 := below_eq (w := W0) (by (first | assumption | (repeat (first | exact Below.refl _ _ | assumption | refine Below.drew ?_ | (refine Below.alloc ?_ (by simp <;> omega) _))))) hw2
    obtain ⟨hc, hfz⟩ := bcell hbw2
    clear hw2
    go_wp2_with fail
    have hbw : Below W0.heap.size W0 w2 := by (first | assumption | (repeat (first | exact Below.refl _ _ | assumption | refine Below.drew ?_ | (refine Below.alloc ?_ (by simp <;> omega) _))))
    have hblk : w2.heap[w.heap.size + 1 + 1]? = some (.cells #[.int .i64 0, .bool false, .slice none 0 0] 46 (0, 0)) := (hbw.block _ q2).trans N3.out
    have hb9 : Below w.heap.size w w2 := below_step' hw0 hbw
    exact bodyPost_ret (v := .agg #[.int .i64 Z, .bool false, .slice none 0 0]) (by simp [results, Tryd.results68, go_sem, hc, k7, k8, k9, q2]) rfl
      ⟨Z, false, none, 0, [], rfl, IntF.small (unhide HZ), hb9.grown (set3_grown _ _ _ _ _) hb9.size (fun k hk => by injection hk with hk; omega)⟩
  · have d1 : decide (s1 < Z) = false := decide_eq_false (by omega)
    have d2 : decide (0 < s2) = false := decide_eq_false hp
    clear h1 h2 hl1 hl2 a1 a2 hz hz' hZ b1 b2 hp
    go_enter Tryd.func68, Tryd.ntmps68
    go_wp2_with fail
    obtain ⟨n1, n2, n3, hsz, hw0⟩ := three_new w (.cells #[.int .i64 s1, .bool neg1, .slice A1 l1.length c1] 46) (.cells #[.int .i64 s2, .bool neg2, .slice A2 l2.length c2] 46) (.cells #[.int .i64 0, .bool false, .slice none 0 0] 46)
    generalize (((w.alloc (.cells #[.int .i64 s1, .bool neg1, .slice A1 l1.length c1] 46)).alloc (.cells #[.int .i64 s2, .bool neg2, .slice A2 l2.length c2] 46)).alloc (.cells #[.int .i64 0, .bool false, .slice none 0 0] 46)) = W0 at *
    have k1 := cells_of n1 0
    have k2 := cells_of n1 1
    have k3 := cells_of n1 2
    simp only [Array.getElem?_eq_getElem, three0, three1, three2] at k1 k2 k3
    have k4 := cells_of n2 0
    have k5 := cells_of n2 1
    have k6 := cells_of n2 2
    simp only [Array.getElem?_eq_getElem, three0, three1, three2] at k4 k5 k6
    have q0 : w.heap.size < W0.heap.size := by omega
    have q1 : w.heap.size + 1 < W0.heap.size := by omega
    have q2 : w.heap.size + 1 + 1 < W0.heap.size := by omega
    have k7 := cells_of n3 0
    have k8 := cells_of n3 1
    have k9 := cells_of n3 2
    simp only [Array.getElem?_eq_getElem, three0, three1, three2] at k7 k8 k9
    have f7 := unfrozen_of n3 0
    have f8 := unfrozen_of n3 1
    have f9 := unfrozen_of n3 2
    have N3 := Lib.hid n3
    clear n3
    clear n1 n2
    refine ((unhide HS1) _).mono ?_
    rintro e w1 ⟨rfl, hw1⟩
    have hbw1 := below_eq (w := W0) (by (first | assumption | (repeat (first | exact Below.refl _ _ | assumption | refine Below.drew ?_ | (refine Below.alloc ?_ (by simp <;> omega) _))))) hw1
    obtain ⟨hc, hfz⟩ := bcell hbw1
    clear hw1
    go_wp2_with fail
    refine ((unhide HS2) _).mono ?_
    rintro e w2 ⟨rfl, hw2⟩
    have hbw2 := below_eq (w := W0) (by (first | assumption | (repeat (first | exact Below.refl _ _ | assumption | refine Below.drew ?_ | (refine Below.alloc ?_ (by simp <;> omega) _))))) hw2
    obtain ⟨hc, hfz⟩ := bcell hbw2
    clear hw2
    go_wp2_with fail
    have hbw : Below W0.heap.size W0 w2 := by (first | assumption | (repeat (first | exact Below.refl _ _ | assumption | refine Below.drew ?_ | (refine Below.alloc ?_ (by simp <;> omega) _))))
    have hblk : w2.heap[w.heap.size + 1 + 1]? = some (.cells #[.int .i64 0, .bool false, .slice none 0 0] 46 (0, 0)) := (hbw.block _ q2).trans N3.out
    have hb9 : Below w.heap.size w w2 := below_step' hw0 hbw
    exact bodyPost_ret (v := .agg #[.int .i64 Z, .bool false, .slice none 0 0]) (by simp [results, Tryd.results68, go_sem, hc, k7, k8, k9, q2]) rfl
      ⟨Z, false, none, 0, [], rfl, IntF.small (unhide HZ), hb9.grown (set3_grown _ _ _ _ _) hb9.size (fun k hk => by injection hk with hk; omega)⟩

end Go.Proofs.YtfbcdfoohpkfeaaDoor
/- Sums of whole numbers: small ones whose sum is not small. -/
namespace Go.Proofs.YtfbcdfoohpkfeaaDoor
open Go.RowKit

set_option maxRecDepth 100000 in
set_option maxHeartbeats 8000000 in
theorem iadd_over (s1 : Int) (neg1 : Bool) (A1 : Option Addr) (c1 : Nat) (l1 : List Nat) (z1 : Int) (s2 : Int) (neg2 : Bool) (A2 : Option Addr) (c2 : Nat) (l2 : List Nat) (z2 : Int) (w : World)
    (h1 : IntF w s1 neg1 A1 c1 l1 z1) (h2 : IntF w s2 neg2 A2 c2 l2 z2) (hl1 : l1.length ≤ lim) (hl2 : l2.length ≤ lim) (a1 : l1.length = 0) (a2 : l2.length = 0) (hz : M63 ≤ (z1 + z2).natAbs) :
    Calls Tryd.prog 68 #[.agg #[.int .i64 s1, .bool neg1, .slice A1 l1.length c1], .agg #[.int .i64 s2, .bool neg2, .slice A2 l2.length c2]] w fun e w' => IntR w (z1 + z2) e w' := by
  have HLEN := hide (fun (W : World) (A5 : Option Addr) (c5 : Nat) (l5 : List Nat) (_ : Unit) (g : NatV W A5 c5 l5 z1.natAbs) => h1.len_lim hl1 g)
  have HLEN2 := hide (fun (W : World) (A5 : Option Addr) (c5 : Nat) (l5 : List Nat) (_ : Unit) (g : NatV W A5 c5 l5 z2.natAbs) => h2.len_lim hl2 g)
  have G1 : ∀ W0, Below w.heap.size w W0 → Hid (∀ W, Below W0.heap.size W0 W → Calls Tryd.prog 50 #[.agg #[.int .i64 s1, .bool neg1, .slice A1 l1.length c1]] W fun e w' => e = .returned (.int .i64 (sgn z1)) ∧ Below W.heap.size W w') := fun W0 h0 W hW => sign_any s1 neg1 A1 c1 l1 z1 W (IntF.below h1 (below_step' h0 hW))
  have G2 : ∀ W0, Below w.heap.size w W0 → Hid (∀ W, Below W0.heap.size W0 W → Calls Tryd.prog 50 #[.agg #[.int .i64 s2, .bool neg2, .slice A2 l2.length c2]] W fun e w' => e = .returned (.int .i64 (sgn z2)) ∧ Below W.heap.size W w') := fun W0 h0 W hW => sign_any s2 neg2 A2 c2 l2 z2 W (IntF.below h2 (below_step' h0 hW))
  have B1 : ∀ W0, Below w.heap.size w W0 → Hid (∀ W, Below W0.heap.size W0 W → Calls Tryd.prog 77 #[.agg #[.int .i64 s1, .bool neg1, .slice A1 l1.length c1]] W fun e w' => NatR W z1.natAbs e w') := fun W0 h0 W hW => abs_any s1 neg1 A1 c1 l1 z1 W (IntF.below h1 (below_step' h0 hW))
  have B2 : ∀ W0, Below w.heap.size w W0 → Hid (∀ W, Below W0.heap.size W0 W → Calls Tryd.prog 77 #[.agg #[.int .i64 s2, .bool neg2, .slice A2 l2.length c2]] W fun e w' => NatR W z2.natAbs e w') := fun W0 h0 W hW => abs_any s2 neg2 A2 c2 l2 z2 W (IntF.below h2 (below_step' h0 hW))
  obtain ⟨m1, hm1⟩ : ∃ o, o = z1.natAbs := ⟨_, rfl⟩
  obtain ⟨m2, hm2⟩ : ∃ o, o = z2.natAbs := ⟨_, rfl⟩
  obtain ⟨o1, ho1⟩ : ∃ o, o = sgn z1 := ⟨_, rfl⟩
  obtain ⟨o2, ho2⟩ : ∃ o, o = sgn z2 := ⟨_, rfl⟩
  obtain ⟨Z, hZ⟩ : ∃ o, o = z1 + z2 := ⟨_, rfl⟩
  have hs1 : (o1 < 0) ↔ z1 < 0 := by rw [ho1]; exact sgn_neg z1
  have hs2 : (o2 < 0) ↔ z2 < 0 := by rw [ho2]; exact sgn_neg z2
  have HS1 := hide (fun W => isSmall_any s1 neg1 A1 c1 l1.length W)
  have HS2 := hide (fun W => isSmall_any s2 neg2 A2 c2 l2.length W)
  rw [← ho1] at G1
  rw [← ho2] at G2
  rw [← hm1] at B1 HLEN
  rw [← hm2] at B2 HLEN2
  rw [← hZ]
  have HG1 := hide G1; have HG2 := hide G2; have HB1 := hide B1; have HB2 := hide B2
  clear G1 G2 B1 B2
  rw [decide_eq_true a1] at HS1
  rw [decide_eq_true a2] at HS2
  obtain ⟨e1, en1, b1⟩ := h1.of_small a1
  obtain ⟨e2, en2, b2⟩ := h2.of_small a2
  clear en1 en2
  subst e1 e2
  rw [M63_eq] at b1 b2 hz
  obtain ⟨T, hT⟩ : ∃ o, o = wrap64 (s1 + s2) := ⟨_, rfl⟩
  have w2 : wrap64 (s1 + s2) = T := hT.symm
  have w1 : IntKind.i64.wrap (s1 + s2) = T := by rw [hT]; exact IntWalk.i64_left _
  have hT2 : T = (s1 + s2 + 9223372036854775808) % 18446744073709551616 - 9223372036854775808 := by rw [hT, ← IntWalk.i64_left]; exact IntKind.wrap_i64 _
  by_cases hp : 0 < s2
  · have d1 : decide (s1 < T) = false := decide_eq_false (by rw [hT2]; omega)
    have d2 : decide (0 < s2) = true := decide_eq_true hp
    have D1 : decide (o1 < 0) = false := decide_eq_false (by rw [hs1]; omega)
    have D2 : decide (o2 < 0) = false := decide_eq_false (by rw [hs2]; omega)
    have HSG := hide (fun (W : World) (A : Option Addr) (c : Nat) (l : List Nat) (g : NatV W A c l (m1 + m2)) => (show Calls Tryd.prog 76 #[.bool (false), .slice A l.length c] W fun e w' => IntR W Z e w' by
      have := signed_any (false) A c l (m1 + m2) W g
      rw [show (if (false) = true then -(((m1 + m2) : Nat) : Int) else (((m1 + m2) : Nat) : Int)) = Z by rw [if_neg Bool.false_ne_true, hZ, hm1, hm2]; omega] at this
      exact this))
    clear h1 h2 hl1 hl2 a1 a2 hz hZ b1 b2 hp hm1 hm2 ho1 ho2 hs1 hs2 hT hT2
    go_enter Tryd.func68, Tryd.ntmps68
    go_wp2_with fail
    obtain ⟨n1, n2, n3, hsz, hw0⟩ := three_new w (.cells #[.int .i64 s1, .bool neg1, .slice A1 l1.length c1] 46) (.cells #[.int .i64 s2, .bool neg2, .slice A2 l2.length c2] 46) (.cells #[.int .i64 0, .bool false, .slice none 0 0] 46)
    generalize (((w.alloc (.cells #[.int .i64 s1, .bool neg1, .slice A1 l1.length c1] 46)).alloc (.cells #[.int .i64 s2, .bool neg2, .slice A2 l2.length c2] 46)).alloc (.cells #[.int .i64 0, .bool false, .slice none 0 0] 46)) = W0 at *
    have k1 := cells_of n1 0
    have k2 := cells_of n1 1
    have k3 := cells_of n1 2
    simp only [Array.getElem?_eq_getElem, three0, three1, three2] at k1 k2 k3
    have k4 := cells_of n2 0
    have k5 := cells_of n2 1
    have k6 := cells_of n2 2
    simp only [Array.getElem?_eq_getElem, three0, three1, three2] at k4 k5 k6
    have q0 : w.heap.size < W0.heap.size := by omega
    have q1 : w.heap.size + 1 < W0.heap.size := by omega
    have q2 : w.heap.size + 1 + 1 < W0.heap.size := by omega
    have k7 := cells_of n3 0
    have k8 := cells_of n3 1
    have k9 := cells_of n3 2
    simp only [Array.getElem?_eq_getElem, three0, three1, three2] at k7 k8 k9
    have f7 := unfrozen_of n3 0
    have f8 := unfrozen_of n3 1
    have f9 := unfrozen_of n3 2
    have N3 := Lib.hid n3
    clear n3
    clear n1 n2
    refine ((unhide HS1) _).mono ?_
    rintro e w1 ⟨rfl, hw1⟩
    have hbw1 := below_eq (w := W0) (by (first | assumption | (repeat (first | exact Below.refl _ _ | assumption | refine Below.drew ?_ | (refine Below.alloc ?_ (by simp <;> omega) _))))) hw1
    obtain ⟨hc, hfz⟩ := bcell hbw1
    clear hw1
    go_wp2_with fail
    refine ((unhide HS2) _).mono ?_
    rintro e w2 ⟨rfl, hw2⟩
    have hbw2 := below_eq (w := W0) (by (first | assumption | (repeat (first | exact Below.refl _ _ | assumption | refine Below.drew ?_ | (refine Below.alloc ?_ (by simp <;> omega) _))))) hw2
    obtain ⟨hc, hfz⟩ := bcell hbw2
    clear hw2
    go_wp2_with fail
    have B1 := (unhide HB1) W0 hw0; have B2 := (unhide HB2) W0 hw0; have G1 := (unhide HG1) W0 hw0; have G2 := (unhide HG2) W0 hw0
    go_region_held3 (fun w' => w'.cell? ⟨w.heap.size, 0, none⟩ = some (.int .i64 s1) ∧ w'.cell? ⟨w.heap.size, 1, none⟩ = some (.bool neg1) ∧ w'.cell? ⟨w.heap.size, 2, none⟩ = some (.slice A1 l1.length c1) ∧ w'.cell? ⟨w.heap.size + 1, 0, none⟩ = some (.int .i64 s2) ∧ w'.cell? ⟨w.heap.size + 1, 1, none⟩ = some (.bool neg2) ∧ w'.cell? ⟨w.heap.size + 1, 2, none⟩ = some (.slice A2 l2.length c2)) ((first | with_reducible exact ⟨(hc _ _ q0).trans k1, (hc _ _ q0).trans k2, (hc _ _ q0).trans k3, (hc _ _ q1).trans k4, (hc _ _ q1).trans k5, (hc _ _ q1).trans k6⟩ | with_reducible exact ⟨k1, k2, k3, k4, k5, k6⟩ | with_reducible exact ⟨(cell_set3 _ _ _ _ _ (by omega)).trans ((hc _ _ q0).trans k1), (cell_set3 _ _ _ _ _ (by omega)).trans ((hc _ _ q0).trans k2), (cell_set3 _ _ _ _ _ (by omega)).trans ((hc _ _ q0).trans k3), (cell_set3 _ _ _ _ _ (by omega)).trans ((hc _ _ q1).trans k4), (cell_set3 _ _ _ _ _ (by omega)).trans ((hc _ _ q1).trans k5), (cell_set3 _ _ _ _ _ (by omega)).trans ((hc _ _ q1).trans k6)⟩ | exact ⟨(hc _ _ q0).trans k1, (hc _ _ q0).trans k2, (hc _ _ q0).trans k3, (hc _ _ q1).trans k4, (hc _ _ q1).trans k5, (hc _ _ q1).trans k6⟩ | exact ⟨k1, k2, k3, k4, k5, k6⟩)) (first | (go_at_call_of 77 (Value.agg #[.int .i64 s1, .bool neg1, .slice A1 l1.length c1]); refine ((unhide B1) _ (by (first | assumption | (repeat (first | exact Below.refl _ _ | assumption | refine Below.drew ?_ | (refine Below.alloc ?_ (by simp <;> omega) _)))))).mono ?_; rintro e w' ⟨A5, cap5, l5, rfl, hn5, hb⟩; have hbw := below_step (w := W0) (by (first | assumption | (repeat (first | exact Below.refl _ _ | assumption | refine Below.drew ?_ | (refine Below.alloc ?_ (by simp <;> omega) _))))) hb; obtain ⟨hc, hfz⟩ := bcell hbw) | (go_at_call_of 77 (Value.agg #[.int .i64 s2, .bool neg2, .slice A2 l2.length c2]); refine ((unhide B2) _ (by (first | assumption | (repeat (first | exact Below.refl _ _ | assumption | refine Below.drew ?_ | (refine Below.alloc ?_ (by simp <;> omega) _)))))).mono ?_; rintro e w' ⟨A6, cap6, l6, rfl, hn6, hb⟩; have hn5' := hn5.below hb; have hbw := below_step (w := W0) (by (first | assumption | (repeat (first | exact Below.refl _ _ | assumption | refine Below.drew ?_ | (refine Below.alloc ?_ (by simp <;> omega) _))))) hb; obtain ⟨hc, hfz⟩ := bcell hbw))
    go_wp2_with fail
    refine ((unhide G1) _ (by (first | assumption | (repeat (first | exact Below.refl _ _ | assumption | refine Below.drew ?_ | (refine Below.alloc ?_ (by simp <;> omega) _)))))).mono ?_
    rintro e w6 ⟨rfl, hb⟩
    replace hn5' := hn5'.below hb
    replace hn6 := hn6.below hb
    have hbw := below_step (w := W0) (by (first | assumption | (repeat (first | exact Below.refl _ _ | assumption | refine Below.drew ?_ | (refine Below.alloc ?_ (by simp <;> omega) _))))) hb
    obtain ⟨hc, hfz⟩ := bcell hbw
    go_wp2_with fail
    refine ((unhide G2) _ (by (first | assumption | (repeat (first | exact Below.refl _ _ | assumption | refine Below.drew ?_ | (refine Below.alloc ?_ (by simp <;> omega) _)))))).mono ?_
    rintro e w7 ⟨rfl, hb⟩
    replace hn5' := hn5'.below hb
    replace hn6 := hn6.below hb
    have hbw := below_step (w := W0) (by (first | assumption | (repeat (first | exact Below.refl _ _ | assumption | refine Below.drew ?_ | (refine Below.alloc ?_ (by simp <;> omega) _))))) hb
    obtain ⟨hc, hfz⟩ := bcell hbw
    go_wp2_with fail
    refine (add_any A5 A6 cap5 cap6 l5 l6 m1 m2 _ (by exact hn5') (by exact hn6) ((unhide HLEN) _ _ _ _ () hn5').1 ((unhide HLEN2) _ _ _ _ () hn6).1).mono ?_
    rintro e w8 ⟨A7, cap7, l7, rfl, hn7, hb⟩
    have hbw := below_step (w := W0) (by (first | assumption | (repeat (first | exact Below.refl _ _ | assumption | refine Below.drew ?_ | (refine Below.alloc ?_ (by simp <;> omega) _))))) hb
    obtain ⟨hc, hfz⟩ := bcell hbw
    go_wp2_with fail
    refine ((unhide HSG) _ A7 cap7 l7 hn7).mono ?_
    rintro e w' ⟨s, neg', A', cap', l', rfl, hf, hb⟩
    have hbw := below_step (w := W0) (by (first | assumption | (repeat (first | exact Below.refl _ _ | assumption | refine Below.drew ?_ | (refine Below.alloc ?_ (by simp <;> omega) _))))) hb
    obtain ⟨hc, hfz⟩ := bcell hbw
    have hblk : w'.heap[w.heap.size + 1 + 1]? = some (.cells #[.int .i64 0, .bool false, .slice none 0 0] 46 (0, 0)) := (hbw.block _ q2).trans N3.out
    have HBLK := Lib.hid hblk
    have hb9 : Below w.heap.size w w' := below_step' hw0 hbw
    clear hblk
    go_wp2_with fail
    exact bodyPost_ret (v := .agg #[.int .i64 s, .bool neg', .slice A' l'.length cap']) (by simp [results, Tryd.results68, go_sem, hc, k7, k8, k9, q2]) rfl
      ⟨s, neg', A', cap', l', rfl, hf.upto HBLK.out (noWord3 _ _ _ _ _) (set3_grown _ _ _ _ _), hb9.grown (set3_grown _ _ _ _ _) hb9.size (fun k hk => by injection hk with hk; omega)⟩
  · have d2 : decide (0 < s2) = false := decide_eq_false hp
    have D1 : decide (o1 < 0) = true := decide_eq_true (by rw [hs1]; omega)
    have D2 : decide (o2 < 0) = true := decide_eq_true (by rw [hs2]; omega)
    have HSG := hide (fun (W : World) (A : Option Addr) (c : Nat) (l : List Nat) (g : NatV W A c l (m1 + m2)) => (show Calls Tryd.prog 76 #[.bool (true), .slice A l.length c] W fun e w' => IntR W Z e w' by
      have := signed_any (true) A c l (m1 + m2) W g
      rw [show (if (true) = true then -(((m1 + m2) : Nat) : Int) else (((m1 + m2) : Nat) : Int)) = Z by rw [if_pos rfl, hZ, hm1, hm2]; omega] at this
      exact this))
    by_cases hq : s1 < T
    · have d1 : decide (s1 < T) = true := decide_eq_true hq
      clear h1 h2 hl1 hl2 a1 a2 hz hZ b1 b2 hp hq hm1 hm2 ho1 ho2 hs1 hs2 hT hT2
      go_enter Tryd.func68, Tryd.ntmps68
      go_wp2_with fail
      obtain ⟨n1, n2, n3, hsz, hw0⟩ := three_new w (.cells #[.int .i64 s1, .bool neg1, .slice A1 l1.length c1] 46) (.cells #[.int .i64 s2, .bool neg2, .slice A2 l2.length c2] 46) (.cells #[.int .i64 0, .bool false, .slice none 0 0] 46)
      generalize (((w.alloc (.cells #[.int .i64 s1, .bool neg1, .slice A1 l1.length c1] 46)).alloc (.cells #[.int .i64 s2, .bool neg2, .slice A2 l2.length c2] 46)).alloc (.cells #[.int .i64 0, .bool false, .slice none 0 0] 46)) = W0 at *
      have k1 := cells_of n1 0
      have k2 := cells_of n1 1
      have k3 := cells_of n1 2
      simp only [Array.getElem?_eq_getElem, three0, three1, three2] at k1 k2 k3
      have k4 := cells_of n2 0
      have k5 := cells_of n2 1
      have k6 := cells_of n2 2
      simp only [Array.getElem?_eq_getElem, three0, three1, three2] at k4 k5 k6
      have q0 : w.heap.size < W0.heap.size := by omega
      have q1 : w.heap.size + 1 < W0.heap.size := by omega
      have q2 : w.heap.size + 1 + 1 < W0.heap.size := by omega
      have k7 := cells_of n3 0
      have k8 := cells_of n3 1
      have k9 := cells_of n3 2
      simp only [Array.getElem?_eq_getElem, three0, three1, three2] at k7 k8 k9
      have f7 := unfrozen_of n3 0
      have f8 := unfrozen_of n3 1
      have f9 := unfrozen_of n3 2
      have N3 := Lib.hid n3
      clear n3
      clear n1 n2
      refine ((unhide HS1) _).mono ?_
      rintro e w1 ⟨rfl, hw1⟩
      have hbw1 := below_eq (w := W0) (by (first | assumption | (repeat (first | exact Below.refl _ _ | assumption | refine Below.drew ?_ | (refine Below.alloc ?_ (by simp <;> omega) _))))) hw1
      obtain ⟨hc, hfz⟩ := bcell hbw1
      clear hw1
      go_wp2_with fail
      refine ((unhide HS2) _).mono ?_
      rintro e w2 ⟨rfl, hw2⟩
      have hbw2 := below_eq (w := W0) (by (first | assumption | (repeat (first | exact Below.refl _ _ | assumption | refine Below.drew ?_ | (refine Below.alloc ?_ (by simp <;> omega) _))))) hw2
      obtain ⟨hc, hfz⟩ := bcell hbw2
      clear hw2
      go_wp2_with fail
      have B1 := (unhide HB1) W0 hw0; have B2 := (unhide HB2) W0 hw0; have G1 := (unhide HG1) W0 hw0; have G2 := (unhide HG2) W0 hw0
      go_region_held3 (fun w' => w'.cell? ⟨w.heap.size, 0, none⟩ = some (.int .i64 s1) ∧ w'.cell? ⟨w.heap.size, 1, none⟩ = some (.bool neg1) ∧ w'.cell? ⟨w.heap.size, 2, none⟩ = some (.slice A1 l1.length c1) ∧ w'.cell? ⟨w.heap.size + 1, 0, none⟩ = some (.int .i64 s2) ∧ w'.cell? ⟨w.heap.size + 1, 1, none⟩ = some (.bool neg2) ∧ w'.cell? ⟨w.heap.size + 1, 2, none⟩ = some (.slice A2 l2.length c2)) ((first | with_reducible exact ⟨(hc _ _ q0).trans k1, (hc _ _ q0).trans k2, (hc _ _ q0).trans k3, (hc _ _ q1).trans k4, (hc _ _ q1).trans k5, (hc _ _ q1).trans k6⟩ | with_reducible exact ⟨k1, k2, k3, k4, k5, k6⟩ | with_reducible exact ⟨(cell_set3 _ _ _ _ _ (by omega)).trans ((hc _ _ q0).trans k1), (cell_set3 _ _ _ _ _ (by omega)).trans ((hc _ _ q0).trans k2), (cell_set3 _ _ _ _ _ (by omega)).trans ((hc _ _ q0).trans k3), (cell_set3 _ _ _ _ _ (by omega)).trans ((hc _ _ q1).trans k4), (cell_set3 _ _ _ _ _ (by omega)).trans ((hc _ _ q1).trans k5), (cell_set3 _ _ _ _ _ (by omega)).trans ((hc _ _ q1).trans k6)⟩ | exact ⟨(hc _ _ q0).trans k1, (hc _ _ q0).trans k2, (hc _ _ q0).trans k3, (hc _ _ q1).trans k4, (hc _ _ q1).trans k5, (hc _ _ q1).trans k6⟩ | exact ⟨k1, k2, k3, k4, k5, k6⟩)) (first | (go_at_call_of 77 (Value.agg #[.int .i64 s1, .bool neg1, .slice A1 l1.length c1]); refine ((unhide B1) _ (by (first | assumption | (repeat (first | exact Below.refl _ _ | assumption | refine Below.drew ?_ | (refine Below.alloc ?_ (by simp <;> omega) _)))))).mono ?_; rintro e w' ⟨A5, cap5, l5, rfl, hn5, hb⟩; have hbw := below_step (w := W0) (by (first | assumption | (repeat (first | exact Below.refl _ _ | assumption | refine Below.drew ?_ | (refine Below.alloc ?_ (by simp <;> omega) _))))) hb; obtain ⟨hc, hfz⟩ := bcell hbw) | (go_at_call_of 77 (Value.agg #[.int .i64 s2, .bool neg2, .slice A2 l2.length c2]); refine ((unhide B2) _ (by (first | assumption | (repeat (first | exact Below.refl _ _ | assumption | refine Below.drew ?_ | (refine Below.alloc ?_ (by simp <;> omega) _)))))).mono ?_; rintro e w' ⟨A6, cap6, l6, rfl, hn6, hb⟩; have hn5' := hn5.below hb; have hbw := below_step (w := W0) (by (first | assumption | (repeat (first | exact Below.refl _ _ | assumption | refine Below.drew ?_ | (refine Below.alloc ?_ (by simp <;> omega) _))))) hb; obtain ⟨hc, hfz⟩ := bcell hbw))
      go_wp2_with fail
      refine ((unhide G1) _ (by (first | assumption | (repeat (first | exact Below.refl _ _ | assumption | refine Below.drew ?_ | (refine Below.alloc ?_ (by simp <;> omega) _)))))).mono ?_
      rintro e w6 ⟨rfl, hb⟩
      replace hn5' := hn5'.below hb
      replace hn6 := hn6.below hb
      have hbw := below_step (w := W0) (by (first | assumption | (repeat (first | exact Below.refl _ _ | assumption | refine Below.drew ?_ | (refine Below.alloc ?_ (by simp <;> omega) _))))) hb
      obtain ⟨hc, hfz⟩ := bcell hbw
      go_wp2_with fail
      refine ((unhide G2) _ (by (first | assumption | (repeat (first | exact Below.refl _ _ | assumption | refine Below.drew ?_ | (refine Below.alloc ?_ (by simp <;> omega) _)))))).mono ?_
      rintro e w7 ⟨rfl, hb⟩
      replace hn5' := hn5'.below hb
      replace hn6 := hn6.below hb
      have hbw := below_step (w := W0) (by (first | assumption | (repeat (first | exact Below.refl _ _ | assumption | refine Below.drew ?_ | (refine Below.alloc ?_ (by simp <;> omega) _))))) hb
      obtain ⟨hc, hfz⟩ := bcell hbw
      go_wp2_with fail
      refine (add_any A5 A6 cap5 cap6 l5 l6 m1 m2 _ (by exact hn5') (by exact hn6) ((unhide HLEN) _ _ _ _ () hn5').1 ((unhide HLEN2) _ _ _ _ () hn6).1).mono ?_
      rintro e w8 ⟨A7, cap7, l7, rfl, hn7, hb⟩
      have hbw := below_step (w := W0) (by (first | assumption | (repeat (first | exact Below.refl _ _ | assumption | refine Below.drew ?_ | (refine Below.alloc ?_ (by simp <;> omega) _))))) hb
      obtain ⟨hc, hfz⟩ := bcell hbw
      go_wp2_with fail
      refine ((unhide HSG) _ A7 cap7 l7 hn7).mono ?_
      rintro e w' ⟨s, neg', A', cap', l', rfl, hf, hb⟩
      have hbw := below_step (w := W0) (by (first | assumption | (repeat (first | exact Below.refl _ _ | assumption | refine Below.drew ?_ | (refine Below.alloc ?_ (by simp <;> omega) _))))) hb
      obtain ⟨hc, hfz⟩ := bcell hbw
      have hblk : w'.heap[w.heap.size + 1 + 1]? = some (.cells #[.int .i64 0, .bool false, .slice none 0 0] 46 (0, 0)) := (hbw.block _ q2).trans N3.out
      have HBLK := Lib.hid hblk
      have hb9 : Below w.heap.size w w' := below_step' hw0 hbw
      clear hblk
      go_wp2_with fail
      exact bodyPost_ret (v := .agg #[.int .i64 s, .bool neg', .slice A' l'.length cap']) (by simp [results, Tryd.results68, go_sem, hc, k7, k8, k9, q2]) rfl
        ⟨s, neg', A', cap', l', rfl, hf.upto HBLK.out (noWord3 _ _ _ _ _) (set3_grown _ _ _ _ _), hb9.grown (set3_grown _ _ _ _ _) hb9.size (fun k hk => by injection hk with hk; omega)⟩
    · have d1 : decide (s1 < T) = false := decide_eq_false hq
      have n1 : (T == -9223372036854775808) = true := beq_iff_eq.2 (by rw [hT2] at hq ⊢; omega)
      have n2 : (T != -9223372036854775808) = false := by simp [bne, n1]
      clear h1 h2 hl1 hl2 a1 a2 hz hZ b1 b2 hp hq hm1 hm2 ho1 ho2 hs1 hs2 hT hT2
      go_enter Tryd.func68, Tryd.ntmps68
      go_wp2_with fail
      obtain ⟨n1, n2, n3, hsz, hw0⟩ := three_new w (.cells #[.int .i64 s1, .bool neg1, .slice A1 l1.length c1] 46) (.cells #[.int .i64 s2, .bool neg2, .slice A2 l2.length c2] 46) (.cells #[.int .i64 0, .bool false, .slice none 0 0] 46)
      generalize (((w.alloc (.cells #[.int .i64 s1, .bool neg1, .slice A1 l1.length c1] 46)).alloc (.cells #[.int .i64 s2, .bool neg2, .slice A2 l2.length c2] 46)).alloc (.cells #[.int .i64 0, .bool false, .slice none 0 0] 46)) = W0 at *
      have k1 := cells_of n1 0
      have k2 := cells_of n1 1
      have k3 := cells_of n1 2
      simp only [Array.getElem?_eq_getElem, three0, three1, three2] at k1 k2 k3
      have k4 := cells_of n2 0
      have k5 := cells_of n2 1
      have k6 := cells_of n2 2
      simp only [Array.getElem?_eq_getElem, three0, three1, three2] at k4 k5 k6
      have q0 : w.heap.size < W0.heap.size := by omega
      have q1 : w.heap.size + 1 < W0.heap.size := by omega
      have q2 : w.heap.size + 1 + 1 < W0.heap.size := by omega
      have k7 := cells_of n3 0
      have k8 := cells_of n3 1
      have k9 := cells_of n3 2
      simp only [Array.getElem?_eq_getElem, three0, three1, three2] at k7 k8 k9
      have f7 := unfrozen_of n3 0
      have f8 := unfrozen_of n3 1
      have f9 := unfrozen_of n3 2
      have N3 := Lib.hid n3
      clear n3
      clear n1 n2
      refine ((unhide HS1) _).mono ?_
      rintro e w1 ⟨rfl, hw1⟩
      have hbw1 := below_eq (w := W0) (by (first | assumption | (repeat (first | exact Below.refl _ _ | assumption | refine Below.drew ?_ | (refine Below.alloc ?_ (by simp <;> omega) _))))) hw1
      obtain ⟨hc, hfz⟩ := bcell hbw1
      clear hw1
      go_wp2_with fail
      refine ((unhide HS2) _).mono ?_
      rintro e w2 ⟨rfl, hw2⟩
      have hbw2 := below_eq (w := W0) (by (first | assumption | (repeat (first | exact Below.refl _ _ | assumption | refine Below.drew ?_ | (refine Below.alloc ?_ (by simp <;> omega) _))))) hw2
      obtain ⟨hc, hfz⟩ := bcell hbw2
      clear hw2
      go_wp2_with fail
      have B1 := (unhide HB1) W0 hw0; have B2 := (unhide HB2) W0 hw0; have G1 := (unhide HG1) W0 hw0; have G2 := (unhide HG2) W0 hw0
      go_region_held3 (fun w' => w'.cell? ⟨w.heap.size, 0, none⟩ = some (.int .i64 s1) ∧ w'.cell? ⟨w.heap.size, 1, none⟩ = some (.bool neg1) ∧ w'.cell? ⟨w.heap.size, 2, none⟩ = some (.slice A1 l1.length c1) ∧ w'.cell? ⟨w.heap.size + 1, 0, none⟩ = some (.int .i64 s2) ∧ w'.cell? ⟨w.heap.size + 1, 1, none⟩ = some (.bool neg2) ∧ w'.cell? ⟨w.heap.size + 1, 2, none⟩ = some (.slice A2 l2.length c2)) ((first | with_reducible exact ⟨(hc _ _ q0).trans k1, (hc _ _ q0).trans k2, (hc _ _ q0).trans k3, (hc _ _ q1).trans k4, (hc _ _ q1).trans k5, (hc _ _ q1).trans k6⟩ | with_reducible exact ⟨k1, k2, k3, k4, k5, k6⟩ | with_reducible exact ⟨(cell_set3 _ _ _ _ _ (by omega)).trans ((hc _ _ q0).trans k1), (cell_set3 _ _ _ _ _ (by omega)).trans ((hc _ _ q0).trans k2), (cell_set3 _ _ _ _ _ (by omega)).trans ((hc _ _ q0).trans k3), (cell_set3 _ _ _ _ _ (by omega)).trans ((hc _ _ q1).trans k4), (cell_set3 _ _ _ _ _ (by omega)).trans ((hc _ _ q1).trans k5), (cell_set3 _ _ _ _ _ (by omega)).trans ((hc _ _ q1).trans k6)⟩ | exact ⟨(hc _ _ q0).trans k1, (hc _ _ q0).trans k2, (hc _ _ q0).trans k3, (hc _ _ q1).trans k4, (hc _ _ q1).trans k5, (hc _ _ q1).trans k6⟩ | exact ⟨k1, k2, k3, k4, k5, k6⟩)) (first | (go_at_call_of 77 (Value.agg #[.int .i64 s1, .bool neg1, .slice A1 l1.length c1]); refine ((unhide B1) _ (by (first | assumption | (repeat (first | exact Below.refl _ _ | assumption | refine Below.drew ?_ | (refine Below.alloc ?_ (by simp <;> omega) _)))))).mono ?_; rintro e w' ⟨A5, cap5, l5, rfl, hn5, hb⟩; have hbw := below_step (w := W0) (by (first | assumption | (repeat (first | exact Below.refl _ _ | assumption | refine Below.drew ?_ | (refine Below.alloc ?_ (by simp <;> omega) _))))) hb; obtain ⟨hc, hfz⟩ := bcell hbw) | (go_at_call_of 77 (Value.agg #[.int .i64 s2, .bool neg2, .slice A2 l2.length c2]); refine ((unhide B2) _ (by (first | assumption | (repeat (first | exact Below.refl _ _ | assumption | refine Below.drew ?_ | (refine Below.alloc ?_ (by simp <;> omega) _)))))).mono ?_; rintro e w' ⟨A6, cap6, l6, rfl, hn6, hb⟩; have hn5' := hn5.below hb; have hbw := below_step (w := W0) (by (first | assumption | (repeat (first | exact Below.refl _ _ | assumption | refine Below.drew ?_ | (refine Below.alloc ?_ (by simp <;> omega) _))))) hb; obtain ⟨hc, hfz⟩ := bcell hbw))
      go_wp2_with fail
      refine ((unhide G1) _ (by (first | assumption | (repeat (first | exact Below.refl _ _ | assumption | refine Below.drew ?_ | (refine Below.alloc ?_ (by simp <;> omega) _)))))).mono ?_
      rintro e w6 ⟨rfl, hb⟩
      replace hn5' := hn5'.below hb
      replace hn6 := hn6.below hb
      have hbw := below_step (w := W0) (by (first | assumption | (repeat (first | exact Below.refl _ _ | assumption | refine Below.drew ?_ | (refine Below.alloc ?_ (by simp <;> omega) _))))) hb
      obtain ⟨hc, hfz⟩ := bcell hbw
      go_wp2_with fail
      refine ((unhide G2) _ (by (first | assumption | (repeat (first | exact Below.refl _ _ | assumption | refine Below.drew ?_ | (refine Below.alloc ?_ (by simp <;> omega) _)))))).mono ?_
      rintro e w7 ⟨rfl, hb⟩
      replace hn5' := hn5'.below hb
      replace hn6 := hn6.below hb
      have hbw := below_step (w := W0) (by (first | assumption | (repeat (first | exact Below.refl _ _ | assumption | refine Below.drew ?_ | (refine Below.alloc ?_ (by simp <;> omega) _))))) hb
      obtain ⟨hc, hfz⟩ := bcell hbw
      go_wp2_with fail
      refine (add_any A5 A6 cap5 cap6 l5 l6 m1 m2 _ (by exact hn5') (by exact hn6) ((unhide HLEN) _ _ _ _ () hn5').1 ((unhide HLEN2) _ _ _ _ () hn6).1).mono ?_
      rintro e w8 ⟨A7, cap7, l7, rfl, hn7, hb⟩
      have hbw := below_step (w := W0) (by (first | assumption | (repeat (first | exact Below.refl _ _ | assumption | refine Below.drew ?_ | (refine Below.alloc ?_ (by simp <;> omega) _))))) hb
      obtain ⟨hc, hfz⟩ := bcell hbw
      go_wp2_with fail
      refine ((unhide HSG) _ A7 cap7 l7 hn7).mono ?_
      rintro e w' ⟨s, neg', A', cap', l', rfl, hf, hb⟩
      have hbw := below_step (w := W0) (by (first | assumption | (repeat (first | exact Below.refl _ _ | assumption | refine Below.drew ?_ | (refine Below.alloc ?_ (by simp <;> omega) _))))) hb
      obtain ⟨hc, hfz⟩ := bcell hbw
      have hblk : w'.heap[w.heap.size + 1 + 1]? = some (.cells #[.int .i64 0, .bool false, .slice none 0 0] 46 (0, 0)) := (hbw.block _ q2).trans N3.out
      have HBLK := Lib.hid hblk
      have hb9 : Below w.heap.size w w' := below_step' hw0 hbw
      clear hblk
      go_wp2_with fail
      exact bodyPost_ret (v := .agg #[.int .i64 s, .bool neg', .slice A' l'.length cap']) (by simp [results, Tryd.results68, go_sem, hc, k7, k8, k9, q2]) rfl
        ⟨s, neg', A', cap', l', rfl, hf.upto HBLK.out (noWord3 _ _ _ _ _) (set3_grown _ _ _ _ _), hb9.grown (set3_grown _ _ _ _ _) hb9.size (fun k hk => by injection hk with hk; omega)⟩

end Go.Proofs.YtfbcdfoohpkfeaaDoor
