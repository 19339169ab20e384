/- Part 12 of the texts beneath a law of layer 1: RfQn, RfQd, RfQt, RfFlQ, RfOf, ArOk, FrR, FrC, Join, JnW, JnZ, JnF. -/
import Derived.Test.YtmahhmdodfimbaaGreatDoorCd11
/- The walks through the opposite and the difference of numbers of the reference. -/
namespace Go.Proofs.YtmahhmdodfimbaaGreatDoor
open Go.RowKit

set_option maxRecDepth 100000 in
set_option maxHeartbeats 16000000 in
theorem qneg_walk (A1 : Option Addr) (c1 : Nat) (l1 : List Nat) (m1 : Bool) (A2 : Option Addr) (c2 : Nat) (l2 : List Nat) (m2 : Bool) (z1 b1 n : Int) (p q : Rat) (w : World) (f1 : WholeF w A1 c1 l1 m1 z1)
    (hd1 : ∀ W, Below w.heap.size w W → Calls Tryz.prog 95 #[(Value.agg #[.slice A1 l1.length c1, .bool m1, .slice A2 l2.length c2, .bool m2])] W fun e w' => WholeR W b1 e w') (hn : ∀ (A7 : Option Addr) (c7 : Nat) (l7 : List Nat) (m7 : Bool) (W : World), Below w.heap.size w W → WholeF W A7 c7 l7 m7 z1 → Calls Tryz.prog 138 #[(Value.agg #[.slice A7 l7.length c7, .bool m7])] W fun e w' => WholeR W n e w') (hnum : n = q.num) (hden : b1 = (q.den : Int)) :
    Calls Tryz.prog 99 #[(Value.agg #[.slice A1 l1.length c1, .bool m1, .slice A2 l2.length c2, .bool m2])] w fun e w' => QR w q e w' := by
  have H1 := hide f1
  clear f1
  have HD1 := hide hd1
  have HN := hide hn
  clear hd1 hn
  go_enter Tryz.func99, Tryz.ntmps99
  go_upto_region 1 with fail
  obtain ⟨n0, n1, hsz, hw0⟩ := two_new w (.cells #[.slice A1 l1.length c1, .bool m1, .slice A2 l2.length c2, .bool m2] 52) (.cells #[.slice none 0 0, .bool false, .slice none 0 0, .bool false] 52)
  generalize ((w.alloc (.cells #[.slice A1 l1.length c1, .bool m1, .slice A2 l2.length c2, .bool m2] 52)).alloc (.cells #[.slice none 0 0, .bool false, .slice none 0 0, .bool false] 52)) = W0 at *
  have k0_0 : W0.cell? ⟨w.heap.size, 0, none⟩ = some (.slice A1 l1.length c1) := cells_of n0 0
  have k0_1 : W0.cell? ⟨w.heap.size, 1, none⟩ = some (.bool m1) := cells_of n0 1
  have k0_2 : W0.cell? ⟨w.heap.size, 2, none⟩ = some (.slice A2 l2.length c2) := cells_of n0 2
  have k0_3 : W0.cell? ⟨w.heap.size, 3, none⟩ = some (.bool m2) := cells_of n0 3
  have q0 : w.heap.size < W0.heap.size := by omega
  have k1_0 : W0.cell? ⟨w.heap.size + 1, 0, none⟩ = some (.slice none 0 0) := cells_of n1 0
  have k1_1 : W0.cell? ⟨w.heap.size + 1, 1, none⟩ = some (.bool false) := cells_of n1 1
  have k1_2 : W0.cell? ⟨w.heap.size + 1, 2, none⟩ = some (.slice none 0 0) := cells_of n1 2
  have k1_3 : W0.cell? ⟨w.heap.size + 1, 3, none⟩ = some (.bool false) := cells_of n1 3
  have q1 : w.heap.size + 1 < W0.heap.size := by omega
  have f1_0 := unfrozen_of n1 0
  have f1_1 := unfrozen_of n1 1
  have f1_2 := unfrozen_of n1 2
  have f1_3 := unfrozen_of n1 3
  have NR := Lib.hid n1
  clear hsz n0 n1
  replace H1 := hide ((unhide H1).below hw0)
  go_upto_region 1 with fail
  have KEEP := hide (show ∀ X, Below W0.heap.size W0 X → X.cell? ⟨w.heap.size, 0, none⟩ = some (.slice A1 l1.length c1) ∧ X.cell? ⟨w.heap.size, 1, none⟩ = some (.bool m1) ∧ X.cell? ⟨w.heap.size, 2, none⟩ = some (.slice A2 l2.length c2) ∧ X.cell? ⟨w.heap.size, 3, none⟩ = some (.bool m2) from fun X hB => ⟨keep_cell hB q0 k0_0, keep_cell hB q0 k0_1, keep_cell hB q0 k0_2, keep_cell hB q0 k0_3⟩)
  go_region_held3 (fun w' => w'.cell? ⟨w.heap.size, 0, none⟩ = some (.slice A1 l1.length c1) ∧ w'.cell? ⟨w.heap.size, 1, none⟩ = some (.bool m1) ∧ w'.cell? ⟨w.heap.size, 2, none⟩ = some (.slice A2 l2.length c2) ∧ w'.cell? ⟨w.heap.size, 3, none⟩ = some (.bool m2)) (first | with_reducible exact ⟨(cell_set4 _ _ _ _ _ _ (by omega)).trans (keep_cell hbw q0 k0_0), (cell_set4 _ _ _ _ _ _ (by omega)).trans (keep_cell hbw q0 k0_1), (cell_set4 _ _ _ _ _ _ (by omega)).trans (keep_cell hbw q0 k0_2), (cell_set4 _ _ _ _ _ _ (by omega)).trans (keep_cell hbw q0 k0_3)⟩ | with_reducible exact (unhide KEEP) _ (by (repeat (first | with_reducible exact Below.refl _ _ | with_reducible assumption | with_reducible refine Below.drew ?_ | with_reducible refine below_alloc ?_ _)))) (first | (go_at_call_of 138 (Value.agg #[.slice A1 l1.length c1, .bool m1]); refine ((unhide HN) A1 c1 l1 m1 _ (below_step' hw0 (by (repeat (first | with_reducible exact Below.refl _ _ | with_reducible assumption | with_reducible refine Below.drew ?_ | with_reducible refine below_alloc ?_ _)))) (WholeF.below (unhide H1) (by (repeat (first | with_reducible exact Below.refl _ _ | with_reducible assumption | with_reducible refine Below.drew ?_ | with_reducible refine below_alloc ?_ _))))).mono ?_; rintro e w' ⟨A8, c8, l8, m8, rfl, hf8, hb8⟩; have hbw := below_step (w := W0) (by (repeat (first | with_reducible exact Below.refl _ _ | with_reducible assumption | with_reducible refine Below.drew ?_ | with_reducible refine below_alloc ?_ _))) hb8; have hsw := hbw.size; obtain ⟨hc, hfz⟩ := bcell hbw) | (go_at_call_of 95 (Value.agg #[.slice A1 l1.length c1, .bool m1, .slice A2 l2.length c2, .bool m2]); refine ((unhide HD1) _ (below_step' hw0 (by (repeat (first | with_reducible exact Below.refl _ _ | with_reducible assumption | with_reducible refine Below.drew ?_ | with_reducible refine below_alloc ?_ _))))).mono ?_; rintro e w' ⟨A5, c5, l5, m5, rfl, hf5, hb5⟩; have hf8 := WholeF.below (WholeF.below hf8 (by (repeat (first | with_reducible exact Below.refl _ _ | with_reducible assumption | with_reducible refine Below.drew ?_ | with_reducible refine below_alloc ?_ _)))) hb5; have hbw := below_step (w := W0) (by (repeat (first | with_reducible exact Below.refl _ _ | with_reducible assumption | with_reducible refine Below.drew ?_ | with_reducible refine below_alloc ?_ _))) hb5; have hsw := hbw.size; obtain ⟨hc, hfz⟩ := bcell hbw))
  all_goals
    have hblk : w'.heap[w.heap.size + 1]? = some (.cells #[.slice none 0 0, .bool false, .slice none 0 0, .bool false] 52 (0, 0)) := (hbw.block _ q1).trans NR.out
    have HBLK := Lib.hid hblk
    have hb9 : Below w.heap.size w w' := below_step' hw0 hbw
    have hfi := (hf8)
    have hfj := (hf5)
    clear hblk
    go_wp2_with fail
    exact bodyPost_ret (v := (Value.agg #[.slice A8 l8.length c8, .bool m8, .slice A5 l5.length c5, .bool m5])) (by simp [results, Tryz.results99, go_sem, hc, k1_0, k1_1, k1_2, k1_3, q1]) rfl
      ⟨A8, c8, l8, m8, A5, c5, l5, m5, rfl, hnum ▸ hfi.upto HBLK.out (noW2_4 _ _ _ _ _ _ _ _) (set4_grown _ _ _ _ _ _), hden ▸ hfj.upto HBLK.out (noW2_4 _ _ _ _ _ _ _ _) (set4_grown _ _ _ _ _ _), hb9.grown (set4_grown _ _ _ _ _ _) hb9.size (fun k hk => by injection hk with hk; omega)⟩

set_option maxRecDepth 100000 in
set_option maxHeartbeats 16000000 in
theorem qsub_walk (A1 : Option Addr) (c1 : Nat) (l1 : List Nat) (m1 : Bool) (A2 : Option Addr) (c2 : Nat) (l2 : List Nat) (m2 : Bool) (A3 : Option Addr) (c3 : Nat) (l3 : List Nat) (m3 : Bool) (A4 : Option Addr) (c4 : Nat) (l4 : List Nat) (m4 : Bool) (z1 : Int) (p q : Rat) (w : World) 
    (hn : ∀ W, Below w.heap.size w W → Calls Tryz.prog 99 #[(Value.agg #[.slice A3 l3.length c3, .bool m3, .slice A4 l4.length c4, .bool m4])] W fun e w' => QR W p e w') (ha : ∀ (A7 : Option Addr) (c7 : Nat) (l7 : List Nat) (m7 : Bool) (A8 : Option Addr) (c8 : Nat) (l8 : List Nat) (m8 : Bool) (W : World), Below w.heap.size w W → WholeF W A7 c7 l7 m7 p.num → WholeF W A8 c8 l8 m8 (p.den : Int) → Calls Tryz.prog 43 #[(Value.agg #[.slice A1 l1.length c1, .bool m1, .slice A2 l2.length c2, .bool m2]), (Value.agg #[.slice A7 l7.length c7, .bool m7, .slice A8 l8.length c8, .bool m8])] W fun e w' => QR W q e w') :
    Calls Tryz.prog 44 #[(Value.agg #[.slice A1 l1.length c1, .bool m1, .slice A2 l2.length c2, .bool m2]), (Value.agg #[.slice A3 l3.length c3, .bool m3, .slice A4 l4.length c4, .bool m4])] w fun e w' => QR w q e w' := by
  have HN := hide hn
  have HA := hide ha
  clear hn ha
  go_enter Tryz.func44, Tryz.ntmps44
  go_upto_region 1 with fail
  obtain ⟨n0, n1, n2, hsz, hw0⟩ := three_new w (.cells #[.slice A1 l1.length c1, .bool m1, .slice A2 l2.length c2, .bool m2] 52) (.cells #[.slice A3 l3.length c3, .bool m3, .slice A4 l4.length c4, .bool m4] 52) (.cells #[.slice none 0 0, .bool false, .slice none 0 0, .bool false] 52)
  generalize (((w.alloc (.cells #[.slice A1 l1.length c1, .bool m1, .slice A2 l2.length c2, .bool m2] 52)).alloc (.cells #[.slice A3 l3.length c3, .bool m3, .slice A4 l4.length c4, .bool m4] 52)).alloc (.cells #[.slice none 0 0, .bool false, .slice none 0 0, .bool false] 52)) = W0 at *
  have k0_0 : W0.cell? ⟨w.heap.size, 0, none⟩ = some (.slice A1 l1.length c1) := cells_of n0 0
  have k0_1 : W0.cell? ⟨w.heap.size, 1, none⟩ = some (.bool m1) := cells_of n0 1
  have k0_2 : W0.cell? ⟨w.heap.size, 2, none⟩ = some (.slice A2 l2.length c2) := cells_of n0 2
  have k0_3 : W0.cell? ⟨w.heap.size, 3, none⟩ = some (.bool m2) := cells_of n0 3
  have q0 : w.heap.size < W0.heap.size := by omega
  have k1_0 : W0.cell? ⟨w.heap.size + 1, 0, none⟩ = some (.slice A3 l3.length c3) := cells_of n1 0
  have k1_1 : W0.cell? ⟨w.heap.size + 1, 1, none⟩ = some (.bool m3) := cells_of n1 1
  have k1_2 : W0.cell? ⟨w.heap.size + 1, 2, none⟩ = some (.slice A4 l4.length c4) := cells_of n1 2
  have k1_3 : W0.cell? ⟨w.heap.size + 1, 3, none⟩ = some (.bool m4) := cells_of n1 3
  have q1 : w.heap.size + 1 < W0.heap.size := by omega
  have k2_0 : W0.cell? ⟨w.heap.size + 1 + 1, 0, none⟩ = some (.slice none 0 0) := cells_of n2 0
  have k2_1 : W0.cell? ⟨w.heap.size + 1 + 1, 1, none⟩ = some (.bool false) := cells_of n2 1
  have k2_2 : W0.cell? ⟨w.heap.size + 1 + 1, 2, none⟩ = some (.slice none 0 0) := cells_of n2 2
  have k2_3 : W0.cell? ⟨w.heap.size + 1 + 1, 3, none⟩ = some (.bool false) := cells_of n2 3
  have q2 : w.heap.size + 1 + 1 < W0.heap.size := by omega
  have f2_0 := unfrozen_of n2 0
  have f2_1 := unfrozen_of n2 1
  have f2_2 := unfrozen_of n2 2
  have f2_3 := unfrozen_of n2 3
  have NR := Lib.hid n2
  clear hsz n0 n1 n2
  go_upto_region 1 with fail
  have KEEP := hide (show ∀ X, Below W0.heap.size W0 X → X.cell? ⟨w.heap.size, 0, none⟩ = some (.slice A1 l1.length c1) ∧ X.cell? ⟨w.heap.size, 1, none⟩ = some (.bool m1) ∧ X.cell? ⟨w.heap.size, 2, none⟩ = some (.slice A2 l2.length c2) ∧ X.cell? ⟨w.heap.size, 3, none⟩ = some (.bool m2) ∧ X.cell? ⟨w.heap.size + 1, 0, none⟩ = some (.slice A3 l3.length c3) ∧ X.cell? ⟨w.heap.size + 1, 1, none⟩ = some (.bool m3) ∧ X.cell? ⟨w.heap.size + 1, 2, none⟩ = some (.slice A4 l4.length c4) ∧ X.cell? ⟨w.heap.size + 1, 3, none⟩ = some (.bool m4) from fun X hB => ⟨keep_cell hB q0 k0_0, keep_cell hB q0 k0_1, keep_cell hB q0 k0_2, keep_cell hB q0 k0_3, keep_cell hB q1 k1_0, keep_cell hB q1 k1_1, keep_cell hB q1 k1_2, keep_cell hB q1 k1_3⟩)
  go_region_held3 (fun w' => w'.cell? ⟨w.heap.size, 0, none⟩ = some (.slice A1 l1.length c1) ∧ w'.cell? ⟨w.heap.size, 1, none⟩ = some (.bool m1) ∧ w'.cell? ⟨w.heap.size, 2, none⟩ = some (.slice A2 l2.length c2) ∧ w'.cell? ⟨w.heap.size, 3, none⟩ = some (.bool m2) ∧ w'.cell? ⟨w.heap.size + 1, 0, none⟩ = some (.slice A3 l3.length c3) ∧ w'.cell? ⟨w.heap.size + 1, 1, none⟩ = some (.bool m3) ∧ w'.cell? ⟨w.heap.size + 1, 2, none⟩ = some (.slice A4 l4.length c4) ∧ w'.cell? ⟨w.heap.size + 1, 3, none⟩ = some (.bool m4)) (first | with_reducible exact ⟨(cell_set4 _ _ _ _ _ _ (by omega)).trans (keep_cell hbw q0 k0_0), (cell_set4 _ _ _ _ _ _ (by omega)).trans (keep_cell hbw q0 k0_1), (cell_set4 _ _ _ _ _ _ (by omega)).trans (keep_cell hbw q0 k0_2), (cell_set4 _ _ _ _ _ _ (by omega)).trans (keep_cell hbw q0 k0_3), (cell_set4 _ _ _ _ _ _ (by omega)).trans (keep_cell hbw q1 k1_0), (cell_set4 _ _ _ _ _ _ (by omega)).trans (keep_cell hbw q1 k1_1), (cell_set4 _ _ _ _ _ _ (by omega)).trans (keep_cell hbw q1 k1_2), (cell_set4 _ _ _ _ _ _ (by omega)).trans (keep_cell hbw q1 k1_3)⟩ | with_reducible exact (unhide KEEP) _ (by (repeat (first | with_reducible exact Below.refl _ _ | with_reducible assumption | with_reducible refine Below.drew ?_ | with_reducible refine below_alloc ?_ _)))) (first | (go_at_call_of 99 (Value.agg #[.slice A3 l3.length c3, .bool m3, .slice A4 l4.length c4, .bool m4]); refine ((unhide HN) _ (below_step' hw0 (by (repeat (first | with_reducible exact Below.refl _ _ | with_reducible assumption | with_reducible refine Below.drew ?_ | with_reducible refine below_alloc ?_ _))))).mono ?_; rintro e w' ⟨A5, c5, l5, m5, A6, c6, l6, m6, rfl, hf5, hf6, hb5⟩; have hbw := below_step (w := W0) (by (repeat (first | with_reducible exact Below.refl _ _ | with_reducible assumption | with_reducible refine Below.drew ?_ | with_reducible refine below_alloc ?_ _))) hb5; have hsw := hbw.size; obtain ⟨hc, hfz⟩ := bcell hbw) | (go_at_call_of 43 (Value.agg #[.slice A1 l1.length c1, .bool m1, .slice A2 l2.length c2, .bool m2]); refine ((unhide HA) A5 c5 l5 m5 A6 c6 l6 m6 _ (below_step' hw0 (by (repeat (first | with_reducible exact Below.refl _ _ | with_reducible assumption | with_reducible refine Below.drew ?_ | with_reducible refine below_alloc ?_ _)))) (WholeF.below hf5 (by (repeat (first | with_reducible exact Below.refl _ _ | with_reducible assumption | with_reducible refine Below.drew ?_ | with_reducible refine below_alloc ?_ _)))) (WholeF.below hf6 (by (repeat (first | with_reducible exact Below.refl _ _ | with_reducible assumption | with_reducible refine Below.drew ?_ | with_reducible refine below_alloc ?_ _))))).mono ?_; rintro e w' ⟨A7, c7, l7, m7, A8, c8, l8, m8, rfl, hf7, hf8, hb7⟩; have hf5 := WholeF.below (WholeF.below hf5 (by (repeat (first | with_reducible exact Below.refl _ _ | with_reducible assumption | with_reducible refine Below.drew ?_ | with_reducible refine below_alloc ?_ _)))) hb7; have hf6 := WholeF.below (WholeF.below hf6 (by (repeat (first | with_reducible exact Below.refl _ _ | with_reducible assumption | with_reducible refine Below.drew ?_ | with_reducible refine below_alloc ?_ _)))) hb7; have hbw := below_step (w := W0) (by (repeat (first | with_reducible exact Below.refl _ _ | with_reducible assumption | with_reducible refine Below.drew ?_ | with_reducible refine below_alloc ?_ _))) hb7; have hsw := hbw.size; obtain ⟨hc, hfz⟩ := bcell hbw))
  all_goals
    have hblk : w'.heap[w.heap.size + 1 + 1]? = some (.cells #[.slice none 0 0, .bool false, .slice none 0 0, .bool false] 52 (0, 0)) := (hbw.block _ q2).trans NR.out
    have HBLK := Lib.hid hblk
    have hb9 : Below w.heap.size w w' := below_step' hw0 hbw
    have hfi := (hf7)
    have hfj := (hf8)
    clear hblk
    go_wp2_with fail
    exact bodyPost_ret (v := (Value.agg #[.slice A7 l7.length c7, .bool m7, .slice A8 l8.length c8, .bool m8])) (by simp [results, Tryz.results44, go_sem, hc, k2_0, k2_1, k2_2, k2_3, q2]) rfl
      ⟨A7, c7, l7, m7, A8, c8, l8, m8, rfl, hfi.upto HBLK.out (noW2_4 _ _ _ _ _ _ _ _) (set4_grown _ _ _ _ _ _), hfj.upto HBLK.out (noW2_4 _ _ _ _ _ _ _ _) (set4_grown _ _ _ _ _ _), hb9.grown (set4_grown _ _ _ _ _ _) hb9.size (fun k hk => by injection hk with hk; omega)⟩

end Go.Proofs.YtmahhmdodfimbaaGreatDoor
/- The walk through the quotient of numbers of the reference. -/
namespace Go.Proofs.YtmahhmdodfimbaaGreatDoor
open Go.RowKit

set_option maxRecDepth 100000 in
set_option maxHeartbeats 16000000 in
theorem qdiv_walk (A1 : Option Addr) (c1 : Nat) (l1 : List Nat) (m1 : Bool) (A2 : Option Addr) (c2 : Nat) (l2 : List Nat) (m2 : Bool) (A3 : Option Addr) (c3 : Nat) (l3 : List Nat) (m3 : Bool) (A4 : Option Addr) (c4 : Nat) (l4 : List Nat) (m4 : Bool) (z1 b1 z3 b3 n d : Int) (p q : Rat) (w : World) (f1 : WholeF w A1 c1 l1 m1 z1) (f3 : WholeF w A3 c3 l3 m3 z3)
    (hd1 : ∀ W, Below w.heap.size w W → Calls Tryz.prog 95 #[(Value.agg #[.slice A1 l1.length c1, .bool m1, .slice A2 l2.length c2, .bool m2])] W fun e w' => WholeR W b1 e w') (hd3 : ∀ W, Below w.heap.size w W → Calls Tryz.prog 95 #[(Value.agg #[.slice A3 l3.length c3, .bool m3, .slice A4 l4.length c4, .bool m4])] W fun e w' => WholeR W b3 e w') (hn : OpW2 w 98 z1 b3 n) (hm : OpW2 w 98 b1 z3 d) (hr : OpRQ w 92 n d q) :
    Calls Tryz.prog 47 #[(Value.agg #[.slice A1 l1.length c1, .bool m1, .slice A2 l2.length c2, .bool m2]), (Value.agg #[.slice A3 l3.length c3, .bool m3, .slice A4 l4.length c4, .bool m4])] w fun e w' => QR w q e w' := by
  have H1 := hide f1
  have H3 := hide f3
  clear f1 f3
  have HD1 := hide hd1
  have HD3 := hide hd3
  have HN := hide hn
  have HM := hide hm
  have HR := hide hr
  clear hd1 hd3 hn hm hr
  go_enter Tryz.func47, Tryz.ntmps47
  go_upto_region 1 with fail
  obtain ⟨n0, n1, n2, hsz, hw0⟩ := three_new w (.cells #[.slice A1 l1.length c1, .bool m1, .slice A2 l2.length c2, .bool m2] 52) (.cells #[.slice A3 l3.length c3, .bool m3, .slice A4 l4.length c4, .bool m4] 52) (.cells #[.slice none 0 0, .bool false, .slice none 0 0, .bool false] 52)
  generalize (((w.alloc (.cells #[.slice A1 l1.length c1, .bool m1, .slice A2 l2.length c2, .bool m2] 52)).alloc (.cells #[.slice A3 l3.length c3, .bool m3, .slice A4 l4.length c4, .bool m4] 52)).alloc (.cells #[.slice none 0 0, .bool false, .slice none 0 0, .bool false] 52)) = W0 at *
  have k0_0 : W0.cell? ⟨w.heap.size, 0, none⟩ = some (.slice A1 l1.length c1) := cells_of n0 0
  have k0_1 : W0.cell? ⟨w.heap.size, 1, none⟩ = some (.bool m1) := cells_of n0 1
  have k0_2 : W0.cell? ⟨w.heap.size, 2, none⟩ = some (.slice A2 l2.length c2) := cells_of n0 2
  have k0_3 : W0.cell? ⟨w.heap.size, 3, none⟩ = some (.bool m2) := cells_of n0 3
  have q0 : w.heap.size < W0.heap.size := by omega
  have k1_0 : W0.cell? ⟨w.heap.size + 1, 0, none⟩ = some (.slice A3 l3.length c3) := cells_of n1 0
  have k1_1 : W0.cell? ⟨w.heap.size + 1, 1, none⟩ = some (.bool m3) := cells_of n1 1
  have k1_2 : W0.cell? ⟨w.heap.size + 1, 2, none⟩ = some (.slice A4 l4.length c4) := cells_of n1 2
  have k1_3 : W0.cell? ⟨w.heap.size + 1, 3, none⟩ = some (.bool m4) := cells_of n1 3
  have q1 : w.heap.size + 1 < W0.heap.size := by omega
  have k2_0 : W0.cell? ⟨w.heap.size + 1 + 1, 0, none⟩ = some (.slice none 0 0) := cells_of n2 0
  have k2_1 : W0.cell? ⟨w.heap.size + 1 + 1, 1, none⟩ = some (.bool false) := cells_of n2 1
  have k2_2 : W0.cell? ⟨w.heap.size + 1 + 1, 2, none⟩ = some (.slice none 0 0) := cells_of n2 2
  have k2_3 : W0.cell? ⟨w.heap.size + 1 + 1, 3, none⟩ = some (.bool false) := cells_of n2 3
  have q2 : w.heap.size + 1 + 1 < W0.heap.size := by omega
  have f2_0 := unfrozen_of n2 0
  have f2_1 := unfrozen_of n2 1
  have f2_2 := unfrozen_of n2 2
  have f2_3 := unfrozen_of n2 3
  have NR := Lib.hid n2
  clear hsz n0 n1 n2
  replace H1 := hide ((unhide H1).below hw0)
  replace H3 := hide ((unhide H3).below hw0)
  go_upto_region 1 with fail
  have KEEP := hide (show ∀ X, Below W0.heap.size W0 X → X.cell? ⟨w.heap.size, 0, none⟩ = some (.slice A1 l1.length c1) ∧ X.cell? ⟨w.heap.size, 1, none⟩ = some (.bool m1) ∧ X.cell? ⟨w.heap.size, 2, none⟩ = some (.slice A2 l2.length c2) ∧ X.cell? ⟨w.heap.size, 3, none⟩ = some (.bool m2) ∧ X.cell? ⟨w.heap.size + 1, 0, none⟩ = some (.slice A3 l3.length c3) ∧ X.cell? ⟨w.heap.size + 1, 1, none⟩ = some (.bool m3) ∧ X.cell? ⟨w.heap.size + 1, 2, none⟩ = some (.slice A4 l4.length c4) ∧ X.cell? ⟨w.heap.size + 1, 3, none⟩ = some (.bool m4) from fun X hB => ⟨keep_cell hB q0 k0_0, keep_cell hB q0 k0_1, keep_cell hB q0 k0_2, keep_cell hB q0 k0_3, keep_cell hB q1 k1_0, keep_cell hB q1 k1_1, keep_cell hB q1 k1_2, keep_cell hB q1 k1_3⟩)
  go_region_held3 (fun w' => w'.cell? ⟨w.heap.size, 0, none⟩ = some (.slice A1 l1.length c1) ∧ w'.cell? ⟨w.heap.size, 1, none⟩ = some (.bool m1) ∧ w'.cell? ⟨w.heap.size, 2, none⟩ = some (.slice A2 l2.length c2) ∧ w'.cell? ⟨w.heap.size, 3, none⟩ = some (.bool m2) ∧ w'.cell? ⟨w.heap.size + 1, 0, none⟩ = some (.slice A3 l3.length c3) ∧ w'.cell? ⟨w.heap.size + 1, 1, none⟩ = some (.bool m3) ∧ w'.cell? ⟨w.heap.size + 1, 2, none⟩ = some (.slice A4 l4.length c4) ∧ w'.cell? ⟨w.heap.size + 1, 3, none⟩ = some (.bool m4)) (first | with_reducible exact ⟨(cell_set4 _ _ _ _ _ _ (by omega)).trans (keep_cell hbw q0 k0_0), (cell_set4 _ _ _ _ _ _ (by omega)).trans (keep_cell hbw q0 k0_1), (cell_set4 _ _ _ _ _ _ (by omega)).trans (keep_cell hbw q0 k0_2), (cell_set4 _ _ _ _ _ _ (by omega)).trans (keep_cell hbw q0 k0_3), (cell_set4 _ _ _ _ _ _ (by omega)).trans (keep_cell hbw q1 k1_0), (cell_set4 _ _ _ _ _ _ (by omega)).trans (keep_cell hbw q1 k1_1), (cell_set4 _ _ _ _ _ _ (by omega)).trans (keep_cell hbw q1 k1_2), (cell_set4 _ _ _ _ _ _ (by omega)).trans (keep_cell hbw q1 k1_3)⟩ | with_reducible exact (unhide KEEP) _ (by (repeat (first | with_reducible exact Below.refl _ _ | with_reducible assumption | with_reducible refine Below.drew ?_ | with_reducible refine below_alloc ?_ _)))) (first | (go_at_call_of 95 (Value.agg #[.slice A3 l3.length c3, .bool m3, .slice A4 l4.length c4, .bool m4]); refine ((unhide HD3) _ (below_step' hw0 (by (repeat (first | with_reducible exact Below.refl _ _ | with_reducible assumption | with_reducible refine Below.drew ?_ | with_reducible refine below_alloc ?_ _))))).mono ?_; rintro e w' ⟨A5, c5, l5, m5, rfl, hf5, hb5⟩; have hbw := below_step (w := W0) (by (repeat (first | with_reducible exact Below.refl _ _ | with_reducible assumption | with_reducible refine Below.drew ?_ | with_reducible refine below_alloc ?_ _))) hb5; have hsw := hbw.size; obtain ⟨hc, hfz⟩ := bcell hbw) | (go_at_call_of 98 (Value.agg #[.slice A1 l1.length c1, .bool m1]); refine ((unhide HN) A1 c1 l1 m1 A5 c5 l5 m5 _ (below_step' hw0 (by (repeat (first | with_reducible exact Below.refl _ _ | with_reducible assumption | with_reducible refine Below.drew ?_ | with_reducible refine below_alloc ?_ _)))) (WholeF.below (unhide H1) (by (repeat (first | with_reducible exact Below.refl _ _ | with_reducible assumption | with_reducible refine Below.drew ?_ | with_reducible refine below_alloc ?_ _)))) (WholeF.below hf5 (by (repeat (first | with_reducible exact Below.refl _ _ | with_reducible assumption | with_reducible refine Below.drew ?_ | with_reducible refine below_alloc ?_ _))))).mono ?_; rintro e w' ⟨A7, c7, l7, m7, rfl, hf7, hb7⟩; have hf5 := WholeF.below (WholeF.below hf5 (by (repeat (first | with_reducible exact Below.refl _ _ | with_reducible assumption | with_reducible refine Below.drew ?_ | with_reducible refine below_alloc ?_ _)))) hb7; have hbw := below_step (w := W0) (by (repeat (first | with_reducible exact Below.refl _ _ | with_reducible assumption | with_reducible refine Below.drew ?_ | with_reducible refine below_alloc ?_ _))) hb7; have hsw := hbw.size; obtain ⟨hc, hfz⟩ := bcell hbw) | (go_at_call_of 95 (Value.agg #[.slice A1 l1.length c1, .bool m1, .slice A2 l2.length c2, .bool m2]); refine ((unhide HD1) _ (below_step' hw0 (by (repeat (first | with_reducible exact Below.refl _ _ | with_reducible assumption | with_reducible refine Below.drew ?_ | with_reducible refine below_alloc ?_ _))))).mono ?_; rintro e w' ⟨A6, c6, l6, m6, rfl, hf6, hb6⟩; have hf5 := WholeF.below (WholeF.below hf5 (by (repeat (first | with_reducible exact Below.refl _ _ | with_reducible assumption | with_reducible refine Below.drew ?_ | with_reducible refine below_alloc ?_ _)))) hb6; have hf7 := WholeF.below (WholeF.below hf7 (by (repeat (first | with_reducible exact Below.refl _ _ | with_reducible assumption | with_reducible refine Below.drew ?_ | with_reducible refine below_alloc ?_ _)))) hb6; have hbw := below_step (w := W0) (by (repeat (first | with_reducible exact Below.refl _ _ | with_reducible assumption | with_reducible refine Below.drew ?_ | with_reducible refine below_alloc ?_ _))) hb6; have hsw := hbw.size; obtain ⟨hc, hfz⟩ := bcell hbw) | (go_at_call_of 98 (Value.agg #[.slice A6 l6.length c6, .bool m6]); refine ((unhide HM) A6 c6 l6 m6 A3 c3 l3 m3 _ (below_step' hw0 (by (repeat (first | with_reducible exact Below.refl _ _ | with_reducible assumption | with_reducible refine Below.drew ?_ | with_reducible refine below_alloc ?_ _)))) (WholeF.below hf6 (by (repeat (first | with_reducible exact Below.refl _ _ | with_reducible assumption | with_reducible refine Below.drew ?_ | with_reducible refine below_alloc ?_ _)))) (WholeF.below (unhide H3) (by (repeat (first | with_reducible exact Below.refl _ _ | with_reducible assumption | with_reducible refine Below.drew ?_ | with_reducible refine below_alloc ?_ _))))).mono ?_; rintro e w' ⟨A8, c8, l8, m8, rfl, hf8, hb8⟩; have hf5 := WholeF.below (WholeF.below hf5 (by (repeat (first | with_reducible exact Below.refl _ _ | with_reducible assumption | with_reducible refine Below.drew ?_ | with_reducible refine below_alloc ?_ _)))) hb8; have hf7 := WholeF.below (WholeF.below hf7 (by (repeat (first | with_reducible exact Below.refl _ _ | with_reducible assumption | with_reducible refine Below.drew ?_ | with_reducible refine below_alloc ?_ _)))) hb8; have hf6 := WholeF.below (WholeF.below hf6 (by (repeat (first | with_reducible exact Below.refl _ _ | with_reducible assumption | with_reducible refine Below.drew ?_ | with_reducible refine below_alloc ?_ _)))) hb8; have hbw := below_step (w := W0) (by (repeat (first | with_reducible exact Below.refl _ _ | with_reducible assumption | with_reducible refine Below.drew ?_ | with_reducible refine below_alloc ?_ _))) hb8; have hsw := hbw.size; obtain ⟨hc, hfz⟩ := bcell hbw) | (go_at_call_of 92 (Value.agg #[.slice A7 l7.length c7, .bool m7]); refine ((unhide HR) A7 c7 l7 m7 A8 c8 l8 m8 _ (below_step' hw0 (by (repeat (first | with_reducible exact Below.refl _ _ | with_reducible assumption | with_reducible refine Below.drew ?_ | with_reducible refine below_alloc ?_ _)))) (WholeF.below hf7 (by (repeat (first | with_reducible exact Below.refl _ _ | with_reducible assumption | with_reducible refine Below.drew ?_ | with_reducible refine below_alloc ?_ _)))) (WholeF.below hf8 (by (repeat (first | with_reducible exact Below.refl _ _ | with_reducible assumption | with_reducible refine Below.drew ?_ | with_reducible refine below_alloc ?_ _))))).mono ?_; rintro e w' ⟨A9, c9, l9, m9, A10, c10, l10, m10, rfl, hf9, hf10, hb9⟩; have hf5 := WholeF.below (WholeF.below hf5 (by (repeat (first | with_reducible exact Below.refl _ _ | with_reducible assumption | with_reducible refine Below.drew ?_ | with_reducible refine below_alloc ?_ _)))) hb9; have hf7 := WholeF.below (WholeF.below hf7 (by (repeat (first | with_reducible exact Below.refl _ _ | with_reducible assumption | with_reducible refine Below.drew ?_ | with_reducible refine below_alloc ?_ _)))) hb9; have hf6 := WholeF.below (WholeF.below hf6 (by (repeat (first | with_reducible exact Below.refl _ _ | with_reducible assumption | with_reducible refine Below.drew ?_ | with_reducible refine below_alloc ?_ _)))) hb9; have hf8 := WholeF.below (WholeF.below hf8 (by (repeat (first | with_reducible exact Below.refl _ _ | with_reducible assumption | with_reducible refine Below.drew ?_ | with_reducible refine below_alloc ?_ _)))) hb9; have hbw := below_step (w := W0) (by (repeat (first | with_reducible exact Below.refl _ _ | with_reducible assumption | with_reducible refine Below.drew ?_ | with_reducible refine below_alloc ?_ _))) hb9; have hsw := hbw.size; obtain ⟨hc, hfz⟩ := bcell hbw))
  all_goals
    have hblk : w'.heap[w.heap.size + 1 + 1]? = some (.cells #[.slice none 0 0, .bool false, .slice none 0 0, .bool false] 52 (0, 0)) := (hbw.block _ q2).trans NR.out
    have HBLK := Lib.hid hblk
    have hb9 : Below w.heap.size w w' := below_step' hw0 hbw
    have hfi := (hf9)
    have hfj := (hf10)
    clear hblk
    go_wp2_with fail
    exact bodyPost_ret (v := (Value.agg #[.slice A9 l9.length c9, .bool m9, .slice A10 l10.length c10, .bool m10])) (by simp [results, Tryz.results47, go_sem, hc, k2_0, k2_1, k2_2, k2_3, q2]) rfl
      ⟨A9, c9, l9, m9, A10, c10, l10, m10, rfl, hfi.upto HBLK.out (noW2_4 _ _ _ _ _ _ _ _) (set4_grown _ _ _ _ _ _), hfj.upto HBLK.out (noW2_4 _ _ _ _ _ _ _ _) (set4_grown _ _ _ _ _ _), hb9.grown (set4_grown _ _ _ _ _ _) hb9.size (fun k hk => by injection hk with hk; omega)⟩

end Go.Proofs.YtmahhmdodfimbaaGreatDoor
/- The reference's numbers: what their sums, differences, products and quotients are. -/
namespace Go.Proofs.YtmahhmdodfimbaaGreatDoor
open Go.RowKit

namespace Wd
theorem add_q (x y : Rat) : x + y = Rat.divInt (x.num * (y.den : Int) + y.num * (x.den : Int)) ((x.den : Int) * (y.den : Int)) := by
  have hx := x.den_nz; have hy := y.den_nz
  conv => lhs; rw [← Rat.num_divInt_den x, ← Rat.num_divInt_den y]
  exact Rat.divInt_add_divInt _ _ (by omega) (by omega)
theorem div_q (x y : Rat) : x / y = Rat.divInt (x.num * (y.den : Int)) ((x.den : Int) * y.num) := by
  rw [Rat.div_def]
  conv => lhs; rw [← Rat.num_divInt_den x, Rat.inv_def]
  exact Rat.divInt_mul_divInt _ _
theorem int_q (n : Int) : (Rat.divInt n 1).num = n ∧ (Rat.divInt n 1).den = 1 := by
  have h : Rat.divInt n 1 = (n : Rat) := by
    rw [← Rat.num_divInt_den (n : Rat)]; rfl
  rw [h]
  exact ⟨rfl, rfl⟩
theorem add_i {x y : Rat} (hx : (x.den : Int) = 1) (hy : (y.den : Int) = 1) : x.num + y.num = (x + y).num ∧ (x.den : Int) = ((x + y).den : Int) := by
  have h : x + y = Rat.divInt (x.num + y.num) 1 := by
    rw [add_q, hx, hy]; simp
  rw [h, (int_q _).1, (int_q _).2]; exact ⟨rfl, hx⟩
/-- Both parts of a number are below the base to the power of K. -/
def SzQ (B K : Nat) (q : Rat) : Prop := Sz B K q.num ∧ Sz B K (q.den : Int)
end Wd

theorem ow_mul {w : World} {a b c : Int} {K L : Nat} (ha : Wd.Sz B32 K a) (hb : Wd.Sz B32 L b) (hK : K + L ≤ 35184372088832) (e : c = a * b) : OpW2 w 98 a b c := by
  subst e
  exact fun A1 c1 l1 m1 A2 c2 l2 m2 W _ f g => tmul_any A1 c1 l1 m1 a A2 c2 l2 m2 b W f g (by have := f.len ha; have := g.len hb; omega)
theorem ow_add {w : World} {a b c : Int} {K L : Nat} (ha : Wd.Sz B32 K a) (hb : Wd.Sz B32 L b) (hK : K + L + 1 ≤ 35184372088832) (e : c = a + b) : OpW2 w 97 a b c := by
  subst e
  exact fun A1 c1 l1 m1 A2 c2 l2 m2 W _ f g => tadd_any A1 c1 l1 m1 a A2 c2 l2 m2 b W f g (by have := f.len ha; have := g.len hb; omega)
theorem oq_ratio {w : World} {a b : Int} {q : Rat} {K : Nat} (ha : Wd.Sz B32 K a) (hb : Wd.Sz B32 K b) (h0 : b ≠ 0) (hK : K + 1 ≤ 35184372088832) (e : q = Rat.divInt a b) : OpRQ w 92 a b q := by
  subst e
  exact fun A1 c1 l1 m1 A2 c2 l2 m2 W _ f g => tratio_any A1 c1 l1 m1 a A2 c2 l2 m2 b K W f g h0 ha hb hK
theorem o_one {w : World} {b : Int} {o : Bool} (h : o = decide (b = 1)) : ∀ (A7 : Option Addr) (c7 : Nat) (l7 : List Nat) (m7 : Bool) (W : World), Below w.heap.size w W → WholeF W A7 c7 l7 m7 b → Calls Tryz.prog 96 #[(Value.agg #[.slice A7 l7.length c7, .bool m7])] W fun e w' => e = .returned (.bool o) ∧ Below W.heap.size W w' := by
  subst h
  exact fun A c l m W _ f => tisOne_any A c l m b W f

theorem tqadd_any (K : Nat) (A1 : Option Addr) (c1 : Nat) (l1 : List Nat) (m1 : Bool) (A2 : Option Addr) (c2 : Nat) (l2 : List Nat) (m2 : Bool) (A3 : Option Addr) (c3 : Nat) (l3 : List Nat) (m3 : Bool) (A4 : Option Addr) (c4 : Nat) (l4 : List Nat) (m4 : Bool) (x y : Rat) (w : World) (h1 : QV w A1 c1 l1 m1 A2 c2 l2 m2 x) (h2 : QV w A3 c3 l3 m3 A4 c4 l4 m4 y) (sx : Wd.SzQ B32 K x) (sy : Wd.SzQ B32 K y) (hK : 4 * K + 4 ≤ 35184372088832) :
    Calls Tryz.prog 43 #[.agg #[.slice A1 l1.length c1, .bool m1, .slice A2 l2.length c2, .bool m2], .agg #[.slice A3 l3.length c3, .bool m3, .slice A4 l4.length c4, .bool m4]] w fun e w' => QR w (x + y) e w' := by
  have hd1 := fun W (hW : Below w.heap.size w W) => tdenv_any A1 c1 l1 m1 A2 c2 l2 m2 x W (h1.below hW)
  have hd3 := fun W (hW : Below w.heap.size w W) => tdenv_any A3 c3 l3 m3 A4 c4 l4 m4 y W (h2.below hW)
  have hx := x.den_nz; have hy := y.den_nz
  have s1 : Wd.Sz B32 (2 * K + 1) (x.num * (y.den : Int) + y.num * (x.den : Int)) := by
    have a := sx.1.mul sy.2; have b := sy.1.mul sx.2
    rw [← Nat.two_mul] at a b
    exact a.add B32_pos b
  have s2 : Wd.Sz B32 (2 * K + 1) ((x.den : Int) * (y.den : Int)) := (sx.2.mul sy.2).mono B32_pos (by omega)
  have a1 := ow_mul (w := w) sx.1 sy.2 (by omega) rfl
  have a3 := ow_mul (w := w) sy.1 sx.2 (by omega) rfl
  have an := ow_add (w := w) (sx.1.mul sy.2) (sy.1.mul sx.2) (by omega) rfl
  have am := ow_mul (w := w) sx.2 sy.2 (by omega) rfl
  have ar := oq_ratio (w := w) s1 s2 (Int.mul_ne_zero (by omega) (by omega)) (by omega) (Wd.add_q x y)
  by_cases e1 : (x.den : Int) = 1
  · by_cases e2 : (y.den : Int) = 1
    · exact qadd_tt A1 c1 l1 m1 A2 c2 l2 m2 A3 c3 l3 m3 A4 c4 l4 m4 x.num (x.den : Int) y.num (y.den : Int) _ (x + y) w h1.num h2.num hd1 hd3 (o_one (decide_eq_true e1).symm) (o_one (decide_eq_true e2).symm) (ow_add sx.1 sy.1 (by omega) rfl) (Wd.add_i e1 e2).1 (Wd.add_i e1 e2).2
    · exact qadd_tf A1 c1 l1 m1 A2 c2 l2 m2 A3 c3 l3 m3 A4 c4 l4 m4 x.num (x.den : Int) y.num (y.den : Int) _ _ _ _ (x + y) w h1.num h2.num hd1 hd3 (o_one (decide_eq_true e1).symm) (o_one (decide_eq_false e2).symm) a1 a3 an am ar
  · exact qadd_f A1 c1 l1 m1 A2 c2 l2 m2 A3 c3 l3 m3 A4 c4 l4 m4 x.num (x.den : Int) y.num (y.den : Int) _ _ _ _ (x + y) w h1.num h2.num hd1 hd3 (o_one (decide_eq_false e1).symm) a1 a3 an am ar
theorem tqneg_any (A1 : Option Addr) (c1 : Nat) (l1 : List Nat) (m1 : Bool) (A2 : Option Addr) (c2 : Nat) (l2 : List Nat) (m2 : Bool) (x : Rat) (w : World) (h1 : QV w A1 c1 l1 m1 A2 c2 l2 m2 x) :
    Calls Tryz.prog 99 #[.agg #[.slice A1 l1.length c1, .bool m1, .slice A2 l2.length c2, .bool m2]] w fun e w' => QR w (-x) e w' :=
  qneg_walk A1 c1 l1 m1 A2 c2 l2 m2 x.num (x.den : Int) (-x.num) x (-x) w h1.num (fun W hW => tdenv_any A1 c1 l1 m1 A2 c2 l2 m2 x W (h1.below hW)) (fun A c l m W _ f => tneg_any A c l m x.num W f) rfl rfl
theorem tqsub_any (K : Nat) (A1 : Option Addr) (c1 : Nat) (l1 : List Nat) (m1 : Bool) (A2 : Option Addr) (c2 : Nat) (l2 : List Nat) (m2 : Bool) (A3 : Option Addr) (c3 : Nat) (l3 : List Nat) (m3 : Bool) (A4 : Option Addr) (c4 : Nat) (l4 : List Nat) (m4 : Bool) (x y : Rat) (w : World) (h1 : QV w A1 c1 l1 m1 A2 c2 l2 m2 x) (h2 : QV w A3 c3 l3 m3 A4 c4 l4 m4 y) (sx : Wd.SzQ B32 K x) (sy : Wd.SzQ B32 K y) (hK : 4 * K + 4 ≤ 35184372088832) :
    Calls Tryz.prog 44 #[.agg #[.slice A1 l1.length c1, .bool m1, .slice A2 l2.length c2, .bool m2], .agg #[.slice A3 l3.length c3, .bool m3, .slice A4 l4.length c4, .bool m4]] w fun e w' => QR w (x - y) e w' := by
  rw [Rat.sub_eq_add_neg]
  exact qsub_walk A1 c1 l1 m1 A2 c2 l2 m2 A3 c3 l3 m3 A4 c4 l4 m4 0 (-y) (x + -y) w (fun W hW => tqneg_any A3 c3 l3 m3 A4 c4 l4 m4 y W (h2.below hW))
    (fun A5 c5 l5 m5 A6 c6 l6 m6 W hW f g => tqadd_any K A1 c1 l1 m1 A2 c2 l2 m2 A5 c5 l5 m5 A6 c6 l6 m6 x (-y) W (h1.below hW) (QV.of f g) sx ⟨sy.1.neg, sy.2⟩ hK)
theorem tqdiv_any (K : Nat) (A1 : Option Addr) (c1 : Nat) (l1 : List Nat) (m1 : Bool) (A2 : Option Addr) (c2 : Nat) (l2 : List Nat) (m2 : Bool) (A3 : Option Addr) (c3 : Nat) (l3 : List Nat) (m3 : Bool) (A4 : Option Addr) (c4 : Nat) (l4 : List Nat) (m4 : Bool) (x y : Rat) (w : World) (h1 : QV w A1 c1 l1 m1 A2 c2 l2 m2 x) (h2 : QV w A3 c3 l3 m3 A4 c4 l4 m4 y) (sx : Wd.SzQ B32 K x) (sy : Wd.SzQ B32 K y) (hK : 4 * K + 4 ≤ 35184372088832) (h0 : y.num ≠ 0) :
    Calls Tryz.prog 47 #[.agg #[.slice A1 l1.length c1, .bool m1, .slice A2 l2.length c2, .bool m2], .agg #[.slice A3 l3.length c3, .bool m3, .slice A4 l4.length c4, .bool m4]] w fun e w' => QR w (x / y) e w' := by
  have hx := x.den_nz
  exact qdiv_walk A1 c1 l1 m1 A2 c2 l2 m2 A3 c3 l3 m3 A4 c4 l4 m4 x.num (x.den : Int) y.num (y.den : Int) _ _ x (x / y) w h1.num h2.num
    (fun W hW => tdenv_any A1 c1 l1 m1 A2 c2 l2 m2 x W (h1.below hW)) (fun W hW => tdenv_any A3 c3 l3 m3 A4 c4 l4 m4 y W (h2.below hW))
    (ow_mul sx.1 sy.2 (by omega) rfl) (ow_mul sx.2 sy.1 (by omega) rfl) (oq_ratio (sx.1.mul sy.2) (sx.2.mul sy.1) (Int.mul_ne_zero (by omega) h0) (by omega) (Wd.div_q x y))
end Go.Proofs.YtmahhmdodfimbaaGreatDoor
/- The reference: the integer below and above a number, and one divided by it. -/
namespace Go.Proofs.YtmahhmdodfimbaaGreatDoor
open Go.RowKit

set_option maxRecDepth 100000 in
set_option maxHeartbeats 16000000 in
theorem qfloor_walk (A1 : Option Addr) (c1 : Nat) (l1 : List Nat) (m1 : Bool) (A2 : Option Addr) (c2 : Nat) (l2 : List Nat) (m2 : Bool) (z1 b1 n : Int) (p q : Rat) (w : World) (f1 : WholeF w A1 c1 l1 m1 z1)
    (hd1 : ∀ W, Below w.heap.size w W → Calls Tryz.prog 95 #[(Value.agg #[.slice A1 l1.length c1, .bool m1, .slice A2 l2.length c2, .bool m2])] W fun e w' => WholeR W b1 e w') (hf : ∀ (A7 : Option Addr) (c7 : Nat) (l7 : List Nat) (m7 : Bool) (A8 : Option Addr) (c8 : Nat) (l8 : List Nat) (m8 : Bool) (W : World), Below w.heap.size w W → WholeF W A7 c7 l7 m7 z1 → WholeF W A8 c8 l8 m8 b1 → Calls Tryz.prog 106 #[(Value.agg #[.slice A7 l7.length c7, .bool m7]), (Value.agg #[.slice A8 l8.length c8, .bool m8])] W fun e w' => WholeR W n e w') (ho : ∀ W, Calls Tryz.prog 107 #[] W fun e w' => WholeR W 1 e w') (hnum : n = q.num) (hden : (1 : Int) = (q.den : Int)) :
    Calls Tryz.prog 56 #[(Value.agg #[.slice A1 l1.length c1, .bool m1, .slice A2 l2.length c2, .bool m2])] w fun e w' => QR w q e w' := by
  have H1 := hide f1
  clear f1
  have HD1 := hide hd1
  have HF := hide hf
  have HO := hide ho
  clear hd1 hf ho
  go_enter Tryz.func56, Tryz.ntmps56
  go_upto_region 1 with fail
  obtain ⟨n0, n1, hsz, hw0⟩ := two_new w (.cells #[.slice A1 l1.length c1, .bool m1, .slice A2 l2.length c2, .bool m2] 52) (.cells #[.slice none 0 0, .bool false, .slice none 0 0, .bool false] 52)
  generalize ((w.alloc (.cells #[.slice A1 l1.length c1, .bool m1, .slice A2 l2.length c2, .bool m2] 52)).alloc (.cells #[.slice none 0 0, .bool false, .slice none 0 0, .bool false] 52)) = W0 at *
  have k0_0 : W0.cell? ⟨w.heap.size, 0, none⟩ = some (.slice A1 l1.length c1) := cells_of n0 0
  have k0_1 : W0.cell? ⟨w.heap.size, 1, none⟩ = some (.bool m1) := cells_of n0 1
  have k0_2 : W0.cell? ⟨w.heap.size, 2, none⟩ = some (.slice A2 l2.length c2) := cells_of n0 2
  have k0_3 : W0.cell? ⟨w.heap.size, 3, none⟩ = some (.bool m2) := cells_of n0 3
  have q0 : w.heap.size < W0.heap.size := by omega
  have k1_0 : W0.cell? ⟨w.heap.size + 1, 0, none⟩ = some (.slice none 0 0) := cells_of n1 0
  have k1_1 : W0.cell? ⟨w.heap.size + 1, 1, none⟩ = some (.bool false) := cells_of n1 1
  have k1_2 : W0.cell? ⟨w.heap.size + 1, 2, none⟩ = some (.slice none 0 0) := cells_of n1 2
  have k1_3 : W0.cell? ⟨w.heap.size + 1, 3, none⟩ = some (.bool false) := cells_of n1 3
  have q1 : w.heap.size + 1 < W0.heap.size := by omega
  have f1_0 := unfrozen_of n1 0
  have f1_1 := unfrozen_of n1 1
  have f1_2 := unfrozen_of n1 2
  have f1_3 := unfrozen_of n1 3
  have NR := Lib.hid n1
  clear hsz n0 n1
  replace H1 := hide ((unhide H1).below hw0)
  go_upto_region 1 with fail
  have KEEP := hide (show ∀ X, Below W0.heap.size W0 X → X.cell? ⟨w.heap.size, 0, none⟩ = some (.slice A1 l1.length c1) ∧ X.cell? ⟨w.heap.size, 1, none⟩ = some (.bool m1) ∧ X.cell? ⟨w.heap.size, 2, none⟩ = some (.slice A2 l2.length c2) ∧ X.cell? ⟨w.heap.size, 3, none⟩ = some (.bool m2) from fun X hB => ⟨keep_cell hB q0 k0_0, keep_cell hB q0 k0_1, keep_cell hB q0 k0_2, keep_cell hB q0 k0_3⟩)
  go_region_held3 (fun w' => w'.cell? ⟨w.heap.size, 0, none⟩ = some (.slice A1 l1.length c1) ∧ w'.cell? ⟨w.heap.size, 1, none⟩ = some (.bool m1) ∧ w'.cell? ⟨w.heap.size, 2, none⟩ = some (.slice A2 l2.length c2) ∧ w'.cell? ⟨w.heap.size, 3, none⟩ = some (.bool m2)) (first | with_reducible exact ⟨(cell_set4 _ _ _ _ _ _ (by omega)).trans (keep_cell hbw q0 k0_0), (cell_set4 _ _ _ _ _ _ (by omega)).trans (keep_cell hbw q0 k0_1), (cell_set4 _ _ _ _ _ _ (by omega)).trans (keep_cell hbw q0 k0_2), (cell_set4 _ _ _ _ _ _ (by omega)).trans (keep_cell hbw q0 k0_3)⟩ | with_reducible exact (unhide KEEP) _ (by (repeat (first | with_reducible exact Below.refl _ _ | with_reducible assumption | with_reducible refine Below.drew ?_ | with_reducible refine below_alloc ?_ _)))) (first | (go_at_call_of 95 (Value.agg #[.slice A1 l1.length c1, .bool m1, .slice A2 l2.length c2, .bool m2]); refine ((unhide HD1) _ (below_step' hw0 (by (repeat (first | with_reducible exact Below.refl _ _ | with_reducible assumption | with_reducible refine Below.drew ?_ | with_reducible refine below_alloc ?_ _))))).mono ?_; rintro e w' ⟨A5, c5, l5, m5, rfl, hf5, hb5⟩; have hbw := below_step (w := W0) (by (repeat (first | with_reducible exact Below.refl _ _ | with_reducible assumption | with_reducible refine Below.drew ?_ | with_reducible refine below_alloc ?_ _))) hb5; have hsw := hbw.size; obtain ⟨hc, hfz⟩ := bcell hbw) | (go_at_call_of 106 (Value.agg #[.slice A1 l1.length c1, .bool m1]); refine ((unhide HF) A1 c1 l1 m1 A5 c5 l5 m5 _ (below_step' hw0 (by (repeat (first | with_reducible exact Below.refl _ _ | with_reducible assumption | with_reducible refine Below.drew ?_ | with_reducible refine below_alloc ?_ _)))) (WholeF.below (unhide H1) (by (repeat (first | with_reducible exact Below.refl _ _ | with_reducible assumption | with_reducible refine Below.drew ?_ | with_reducible refine below_alloc ?_ _)))) (WholeF.below hf5 (by (repeat (first | with_reducible exact Below.refl _ _ | with_reducible assumption | with_reducible refine Below.drew ?_ | with_reducible refine below_alloc ?_ _))))).mono ?_; rintro e w' ⟨A6, c6, l6, m6, rfl, hf6, hb6⟩; have hf5 := WholeF.below (WholeF.below hf5 (by (repeat (first | with_reducible exact Below.refl _ _ | with_reducible assumption | with_reducible refine Below.drew ?_ | with_reducible refine below_alloc ?_ _)))) hb6; have hbw := below_step (w := W0) (by (repeat (first | with_reducible exact Below.refl _ _ | with_reducible assumption | with_reducible refine Below.drew ?_ | with_reducible refine below_alloc ?_ _))) hb6; have hsw := hbw.size; obtain ⟨hc, hfz⟩ := bcell hbw) | (go_at_call 107; refine ((unhide HO) _).mono ?_; rintro e w' ⟨A7, c7, l7, m7, rfl, hf7, hb7⟩; have hf5 := WholeF.below (WholeF.below hf5 (by (repeat (first | with_reducible exact Below.refl _ _ | with_reducible assumption | with_reducible refine Below.drew ?_ | with_reducible refine below_alloc ?_ _)))) hb7; have hf6 := WholeF.below (WholeF.below hf6 (by (repeat (first | with_reducible exact Below.refl _ _ | with_reducible assumption | with_reducible refine Below.drew ?_ | with_reducible refine below_alloc ?_ _)))) hb7; have hbw := below_step (w := W0) (by (repeat (first | with_reducible exact Below.refl _ _ | with_reducible assumption | with_reducible refine Below.drew ?_ | with_reducible refine below_alloc ?_ _))) hb7; have hsw := hbw.size; obtain ⟨hc, hfz⟩ := bcell hbw))
  all_goals
    have hblk : w'.heap[w.heap.size + 1]? = some (.cells #[.slice none 0 0, .bool false, .slice none 0 0, .bool false] 52 (0, 0)) := (hbw.block _ q1).trans NR.out
    have HBLK := Lib.hid hblk
    have hb9 : Below w.heap.size w w' := below_step' hw0 hbw
    have hfi := (hf6)
    have hfj := (hf7)
    clear hblk
    go_wp2_with fail
    exact bodyPost_ret (v := (Value.agg #[.slice A6 l6.length c6, .bool m6, .slice A7 l7.length c7, .bool m7])) (by simp [results, Tryz.results56, go_sem, hc, k1_0, k1_1, k1_2, k1_3, q1]) rfl
      ⟨A6, c6, l6, m6, A7, c7, l7, m7, rfl, hnum ▸ hfi.upto HBLK.out (noW2_4 _ _ _ _ _ _ _ _) (set4_grown _ _ _ _ _ _), hden ▸ hfj.upto HBLK.out (noW2_4 _ _ _ _ _ _ _ _) (set4_grown _ _ _ _ _ _), hb9.grown (set4_grown _ _ _ _ _ _) hb9.size (fun k hk => by injection hk with hk; omega)⟩

set_option maxRecDepth 100000 in
set_option maxHeartbeats 16000000 in
theorem qinv_walk (A1 : Option Addr) (c1 : Nat) (l1 : List Nat) (m1 : Bool) (A2 : Option Addr) (c2 : Nat) (l2 : List Nat) (m2 : Bool) (z1 : Int) (p q : Rat) (w : World) 
    (hi : ∀ W, Calls Tryz.prog 72 #[.int .i64 1] W fun e w' => QR W p e w') (hd : ∀ (A7 : Option Addr) (c7 : Nat) (l7 : List Nat) (m7 : Bool) (A8 : Option Addr) (c8 : Nat) (l8 : List Nat) (m8 : Bool) (W : World), Below w.heap.size w W → WholeF W A7 c7 l7 m7 p.num → WholeF W A8 c8 l8 m8 (p.den : Int) → Calls Tryz.prog 47 #[(Value.agg #[.slice A7 l7.length c7, .bool m7, .slice A8 l8.length c8, .bool m8]), (Value.agg #[.slice A1 l1.length c1, .bool m1, .slice A2 l2.length c2, .bool m2])] W fun e w' => QR W q e w') :
    Calls Tryz.prog 80 #[(Value.agg #[.slice A1 l1.length c1, .bool m1, .slice A2 l2.length c2, .bool m2])] w fun e w' => QR w q e w' := by
  have HI := hide hi
  have HD := hide hd
  clear hi hd
  go_enter Tryz.func80, Tryz.ntmps80
  go_upto_region 1 with fail
  obtain ⟨n0, n1, hsz, hw0⟩ := two_new w (.cells #[.slice A1 l1.length c1, .bool m1, .slice A2 l2.length c2, .bool m2] 52) (.cells #[.slice none 0 0, .bool false, .slice none 0 0, .bool false] 52)
  generalize ((w.alloc (.cells #[.slice A1 l1.length c1, .bool m1, .slice A2 l2.length c2, .bool m2] 52)).alloc (.cells #[.slice none 0 0, .bool false, .slice none 0 0, .bool false] 52)) = W0 at *
  have k0_0 : W0.cell? ⟨w.heap.size, 0, none⟩ = some (.slice A1 l1.length c1) := cells_of n0 0
  have k0_1 : W0.cell? ⟨w.heap.size, 1, none⟩ = some (.bool m1) := cells_of n0 1
  have k0_2 : W0.cell? ⟨w.heap.size, 2, none⟩ = some (.slice A2 l2.length c2) := cells_of n0 2
  have k0_3 : W0.cell? ⟨w.heap.size, 3, none⟩ = some (.bool m2) := cells_of n0 3
  have q0 : w.heap.size < W0.heap.size := by omega
  have k1_0 : W0.cell? ⟨w.heap.size + 1, 0, none⟩ = some (.slice none 0 0) := cells_of n1 0
  have k1_1 : W0.cell? ⟨w.heap.size + 1, 1, none⟩ = some (.bool false) := cells_of n1 1
  have k1_2 : W0.cell? ⟨w.heap.size + 1, 2, none⟩ = some (.slice none 0 0) := cells_of n1 2
  have k1_3 : W0.cell? ⟨w.heap.size + 1, 3, none⟩ = some (.bool false) := cells_of n1 3
  have q1 : w.heap.size + 1 < W0.heap.size := by omega
  have f1_0 := unfrozen_of n1 0
  have f1_1 := unfrozen_of n1 1
  have f1_2 := unfrozen_of n1 2
  have f1_3 := unfrozen_of n1 3
  have NR := Lib.hid n1
  clear hsz n0 n1
  go_upto_region 1 with fail
  have KEEP := hide (show ∀ X, Below W0.heap.size W0 X → X.cell? ⟨w.heap.size, 0, none⟩ = some (.slice A1 l1.length c1) ∧ X.cell? ⟨w.heap.size, 1, none⟩ = some (.bool m1) ∧ X.cell? ⟨w.heap.size, 2, none⟩ = some (.slice A2 l2.length c2) ∧ X.cell? ⟨w.heap.size, 3, none⟩ = some (.bool m2) from fun X hB => ⟨keep_cell hB q0 k0_0, keep_cell hB q0 k0_1, keep_cell hB q0 k0_2, keep_cell hB q0 k0_3⟩)
  go_region_held3 (fun w' => w'.cell? ⟨w.heap.size, 0, none⟩ = some (.slice A1 l1.length c1) ∧ w'.cell? ⟨w.heap.size, 1, none⟩ = some (.bool m1) ∧ w'.cell? ⟨w.heap.size, 2, none⟩ = some (.slice A2 l2.length c2) ∧ w'.cell? ⟨w.heap.size, 3, none⟩ = some (.bool m2)) (first | with_reducible exact ⟨(cell_set4 _ _ _ _ _ _ (by omega)).trans (keep_cell hbw q0 k0_0), (cell_set4 _ _ _ _ _ _ (by omega)).trans (keep_cell hbw q0 k0_1), (cell_set4 _ _ _ _ _ _ (by omega)).trans (keep_cell hbw q0 k0_2), (cell_set4 _ _ _ _ _ _ (by omega)).trans (keep_cell hbw q0 k0_3)⟩ | with_reducible exact (unhide KEEP) _ (by (repeat (first | with_reducible exact Below.refl _ _ | with_reducible assumption | with_reducible refine Below.drew ?_ | with_reducible refine below_alloc ?_ _)))) (first | (go_at_call_of 72 (Value.int .i64 1); refine ((unhide HI) _).mono ?_; rintro e w' ⟨A5, c5, l5, m5, A6, c6, l6, m6, rfl, hf5, hf6, hb5⟩; have hbw := below_step (w := W0) (by (repeat (first | with_reducible exact Below.refl _ _ | with_reducible assumption | with_reducible refine Below.drew ?_ | with_reducible refine below_alloc ?_ _))) hb5; have hsw := hbw.size; obtain ⟨hc, hfz⟩ := bcell hbw) | (go_at_call_of 47 (Value.agg #[.slice A5 l5.length c5, .bool m5, .slice A6 l6.length c6, .bool m6]); refine ((unhide HD) A5 c5 l5 m5 A6 c6 l6 m6 _ (below_step' hw0 (by (repeat (first | with_reducible exact Below.refl _ _ | with_reducible assumption | with_reducible refine Below.drew ?_ | with_reducible refine below_alloc ?_ _)))) (WholeF.below hf5 (by (repeat (first | with_reducible exact Below.refl _ _ | with_reducible assumption | with_reducible refine Below.drew ?_ | with_reducible refine below_alloc ?_ _)))) (WholeF.below hf6 (by (repeat (first | with_reducible exact Below.refl _ _ | with_reducible assumption | with_reducible refine Below.drew ?_ | with_reducible refine below_alloc ?_ _))))).mono ?_; rintro e w' ⟨A7, c7, l7, m7, A8, c8, l8, m8, rfl, hf7, hf8, hb7⟩; have hf5 := WholeF.below (WholeF.below hf5 (by (repeat (first | with_reducible exact Below.refl _ _ | with_reducible assumption | with_reducible refine Below.drew ?_ | with_reducible refine below_alloc ?_ _)))) hb7; have hf6 := WholeF.below (WholeF.below hf6 (by (repeat (first | with_reducible exact Below.refl _ _ | with_reducible assumption | with_reducible refine Below.drew ?_ | with_reducible refine below_alloc ?_ _)))) hb7; have hbw := below_step (w := W0) (by (repeat (first | with_reducible exact Below.refl _ _ | with_reducible assumption | with_reducible refine Below.drew ?_ | with_reducible refine below_alloc ?_ _))) hb7; have hsw := hbw.size; obtain ⟨hc, hfz⟩ := bcell hbw))
  all_goals
    have hblk : w'.heap[w.heap.size + 1]? = some (.cells #[.slice none 0 0, .bool false, .slice none 0 0, .bool false] 52 (0, 0)) := (hbw.block _ q1).trans NR.out
    have HBLK := Lib.hid hblk
    have hb9 : Below w.heap.size w w' := below_step' hw0 hbw
    have hfi := (hf7)
    have hfj := (hf8)
    clear hblk
    go_wp2_with fail
    exact bodyPost_ret (v := (Value.agg #[.slice A7 l7.length c7, .bool m7, .slice A8 l8.length c8, .bool m8])) (by simp [results, Tryz.results80, go_sem, hc, k1_0, k1_1, k1_2, k1_3, q1]) rfl
      ⟨A7, c7, l7, m7, A8, c8, l8, m8, rfl, hfi.upto HBLK.out (noW2_4 _ _ _ _ _ _ _ _) (set4_grown _ _ _ _ _ _), hfj.upto HBLK.out (noW2_4 _ _ _ _ _ _ _ _) (set4_grown _ _ _ _ _ _), hb9.grown (set4_grown _ _ _ _ _ _) hb9.size (fun k hk => by injection hk with hk; omega)⟩

theorem Wd.int_q' (n : Int) : n = (Rat.divInt n 1).num ∧ (1 : Int) = ((Rat.divInt n 1).den : Int) := ⟨(Wd.int_q n).1.symm, by rw [(Wd.int_q n).2]; rfl⟩
theorem tqfloor_any (K : Nat) (A1 : Option Addr) (c1 : Nat) (l1 : List Nat) (m1 : Bool) (A2 : Option Addr) (c2 : Nat) (l2 : List Nat) (m2 : Bool) (x : Rat) (w : World) (h : QV w A1 c1 l1 m1 A2 c2 l2 m2 x) (sx : Wd.SzQ B32 K x) (hK : 4 * K + 4 ≤ 35184372088832) :
    Calls Tryz.prog 56 #[(Value.agg #[.slice A1 l1.length c1, .bool m1, .slice A2 l2.length c2, .bool m2])] w fun e w' => QR w (Rat.divInt (x.num / (x.den : Int)) 1) e w' := by
  have hx := x.den_nz
  exact qfloor_walk A1 c1 l1 m1 A2 c2 l2 m2 x.num (x.den : Int) _ x _ w h.num (fun W hW => tdenv_any A1 c1 l1 m1 A2 c2 l2 m2 x W (h.below hW))
    (fun A7 c7 l7 m7 A8 c8 l8 m8 W _ f g => tfloorW_any A7 c7 l7 m7 _ A8 c8 l8 m8 _ K W f g (by omega) sx.1 (by have := f.len sx.1; omega) (by have := g.len sx.2; omega) (by omega))
    tone_any (Wd.int_q' _).1 (Wd.int_q' _).2
theorem tqinv_any (K : Nat) (A1 : Option Addr) (c1 : Nat) (l1 : List Nat) (m1 : Bool) (A2 : Option Addr) (c2 : Nat) (l2 : List Nat) (m2 : Bool) (x : Rat) (w : World) (h : QV w A1 c1 l1 m1 A2 c2 l2 m2 x) (sx : Wd.SzQ B32 K x) (h1 : 1 ≤ K) (hK : 4 * K + 4 ≤ 35184372088832) (h0 : x.num ≠ 0) :
    Calls Tryz.prog 80 #[(Value.agg #[.slice A1 l1.length c1, .bool m1, .slice A2 l2.length c2, .bool m2])] w fun e w' => QR w (Rat.divInt 1 1 / x) e w' := by
  have s1 : Wd.SzQ B32 K (Rat.divInt 1 1) := by
    have e : 1 < B32 ^ K := Nat.one_lt_pow (by omega) B32_pos
    unfold Wd.SzQ Wd.Sz
    rw [← (Wd.int_q' 1).1, ← (Wd.int_q' 1).2]
    exact ⟨e, e⟩
  exact qinv_walk A1 c1 l1 m1 A2 c2 l2 m2 0 (Rat.divInt 1 1) (Rat.divInt 1 1 / x) w (fun W => tInt_any 1 _ W (by omega) (by omega) (Wd.int_q' 1).1 (Wd.int_q' 1).2)
    (fun A7 c7 l7 m7 A8 c8 l8 m8 W hW f g => tqdiv_any K A7 c7 l7 m7 A8 c8 l8 m8 A1 c1 l1 m1 A2 c2 l2 m2 _ x W (QV.of f g) (h.below hW) s1 sx hK h0)
end Go.Proofs.YtmahhmdodfimbaaGreatDoor
/- The reference: a number, and its order. -/
namespace Go.Proofs.YtmahhmdodfimbaaGreatDoor
open Go.RowKit

set_option maxRecDepth 100000 in
set_option maxHeartbeats 2000000 in
theorem tOf_any (n d : Int) (w : World) (b1 : -9223372036854775808 ≤ n) (b2 : n ≤ 9223372036854775807) (b3 : -9223372036854775808 ≤ d) (b4 : d ≤ 9223372036854775807) (hd : d ≠ 0) :
    Calls Tryz.prog 41 #[.agg #[.int .i64 n, .int .i64 d]] w fun e w' => QR w (Rat.divInt n d) e w' := by
  have HO1 := hide (fun W => (tofInt_any n W b1 b2).mono (fun e w' h => h.1))
  have HO2 := hide (fun W => (tofInt_any d W b3 b4).mono (fun e w' h => h.1))
  have k1 : n.natAbs < B32 ^ 2 := by rw [B32_eq]; omega
  have k2 : d.natAbs < B32 ^ 2 := by rw [B32_eq]; omega
  obtain ⟨q, hq⟩ : ∃ q, q = Rat.divInt n d := ⟨_, rfl⟩
  have HR := hide (fun (A1 : Option Addr) (c1 : Nat) (l1 : List Nat) (m1 : Bool) (A2 : Option Addr) (c2 : Nat) (l2 : List Nat) (m2 : Bool) (W : World) (f1 : WholeF W A1 c1 l1 m1 n) (f2 : WholeF W A2 c2 l2 m2 d) => tratio_any A1 c1 l1 m1 n A2 c2 l2 m2 d 2 W f1 f2 hd k1 k2 (by omega))
  rw [← hq] at HR ⊢
  clear b1 b2 b3 b4 hd k1 k2 hq
  go_enter Tryz.func41, Tryz.ntmps41
  go_wp2_with fail
  obtain ⟨nx, n0, hsz, hw0⟩ := two_new w (.cells #[.int .i64 n, .int .i64 d] 23) (.cells #[.slice none 0 0, .bool false, .slice none 0 0, .bool false] 52)
  generalize ((w.alloc (.cells #[.int .i64 n, .int .i64 d] 23)).alloc (.cells #[.slice none 0 0, .bool false, .slice none 0 0, .bool false] 52)) = W0 at *
  have x0 : W0.cell? ⟨w.heap.size, 0, none⟩ = some (.int .i64 n) := cells_of nx 0
  have x1 : W0.cell? ⟨w.heap.size, 1, none⟩ = some (.int .i64 d) := cells_of nx 1
  have qx := lt_of_block nx
  clear nx
  have p0 : W0.cell? ⟨w.heap.size + 1, 0, none⟩ = some (.slice none 0 0) := cells_of n0 0
  have p1 : W0.cell? ⟨w.heap.size + 1, 1, none⟩ = some (.bool false) := cells_of n0 1
  have p2 : W0.cell? ⟨w.heap.size + 1, 2, none⟩ = some (.slice none 0 0) := cells_of n0 2
  have p3 : W0.cell? ⟨w.heap.size + 1, 3, none⟩ = some (.bool false) := cells_of n0 3
  have v0 := unfrozen_of n0 0; have v1 := unfrozen_of n0 1; have v2 := unfrozen_of n0 2; have v3 := unfrozen_of n0 3
  have q0 := lt_of_block n0
  have NR := Lib.hid n0
  clear n0 hsz
  go_region_with (first | (go_at_call_of 93 (Value.int .i64 n); refine ((unhide HO1) _).mono ?_; rintro e w' ⟨A1, c1, l1, m1, rfl, f1n, hb⟩; (try (first | replace f2 := WholeF.below f2 hb | replace f2 := (WholeF.below f2 (Below.drew (Below.refl _ _))).below hb)); have f1 := f1n; clear f1n; have hbw := below_step (w := W0) (by (first | with_reducible assumption | (repeat (first | with_reducible exact Below.refl _ _ | with_reducible assumption | refine Below.drew ?_ | (refine Below.alloc ?_ (by simp <;> omega) _))))) hb; obtain ⟨hc, hf⟩ := bcell hbw) | (go_at_call_of 93 (Value.int .i64 d); refine ((unhide HO2) _).mono ?_; rintro e w' ⟨A2, c2, l2, m2, rfl, f2n, hb⟩; (try (first | replace f1 := WholeF.below f1 hb | replace f1 := (WholeF.below f1 (Below.drew (Below.refl _ _))).below hb)); have f2 := f2n; clear f2n; have hbw := below_step (w := W0) (by (first | with_reducible assumption | (repeat (first | with_reducible exact Below.refl _ _ | with_reducible assumption | refine Below.drew ?_ | (refine Below.alloc ?_ (by simp <;> omega) _))))) hb; obtain ⟨hc, hf⟩ := bcell hbw) | (go_at_call 92; refine ((unhide HR) A1 c1 l1 m1 A2 c2 l2 m2 _ (by first | exact f1 | exact WholeF.below f1 (Below.drew (Below.refl _ _))) (by first | exact f2 | exact WholeF.below f2 (Below.drew (Below.refl _ _)))).mono ?_; rintro e w' ⟨A3, c3, l3, m3, A4, c4, l4, m4, rfl, f3, f4, hb⟩; have hbw := below_step (w := W0) (by (first | with_reducible assumption | (repeat (first | with_reducible exact Below.refl _ _ | with_reducible assumption | refine Below.drew ?_ | (refine Below.alloc ?_ (by simp <;> omega) _))))) hb; obtain ⟨hc, hf⟩ := bcell hbw))
  all_goals
    have hblk := (hbw.block _ q0).trans NR.out
    have hb9 := below_step' hw0 hbw
    have HBLK := Lib.hid hblk; have F3 := hide f3; have F4 := hide f4; have HB9 := hide hb9
    clear f3 f4 hblk hb9
    go_wp2_with fail
    exact bodyPost_ret (v := .agg #[.slice A3 l3.length c3, .bool m3, .slice A4 l4.length c4, .bool m4]) (by simp [results, Tryz.results41, go_sem, hc, p0, p1, p2, p3, q0]) rfl
      ⟨A3, c3, l3, m3, A4, c4, l4, m4, rfl, (unhide F3).upto HBLK.out (noW2_4 _ _ _ _ _ _ _ _) (set4_grown _ _ _ _ _ _), (unhide F4).upto HBLK.out (noW2_4 _ _ _ _ _ _ _ _) (set4_grown _ _ _ _ _ _), (unhide HB9).grown (set4_grown _ _ _ _ _ _) (unhide HB9).size (fun k hk => by injection hk with hk; omega)⟩
end Go.Proofs.YtmahhmdodfimbaaGreatDoor
/- Numbers as arguments of the reference. -/
namespace Go.Proofs.YtmahhmdodfimbaaGreatDoor
open Go.RowKit


theorem okR_bounds {n d : Int} (h : Wd.okR n d) : -9223372036854775808 ≤ n ∧ n ≤ 9223372036854775807 ∧ -9223372036854775808 ≤ d ∧ d ≤ 9223372036854775807 ∧ d ≠ 0 := by
  obtain ⟨r1, r2, r3, r4, _⟩ := h
  exact ⟨by omega, by omega, by omega, by omega, by omega⟩
theorem okR_szq {n d : Int} (h : Wd.okR n d) : Wd.SzQ B32 2 (Wd.qR n d) := by
  obtain ⟨a1, a2⟩ := Wd.qR_ok h
  obtain ⟨r1, r2, r3, r4, _⟩ := h
  unfold Wd.SzQ Wd.Sz
  rw [a1, a2, B32_eq]
  exact ⟨by omega, by omega⟩
theorem of_ok {n d : Int} (h : Wd.okR n d) (W : World) : Calls Tryz.prog 41 #[(Value.agg #[.int .i64 n, .int .i64 d])] W fun e w' => QR W (Wd.qR n d) e w' := by
  obtain ⟨b1, b2, b3, b4, b5⟩ := okR_bounds h
  exact tOf_any n d W b1 b2 b3 b4 b5
end Go.Proofs.YtmahhmdodfimbaaGreatDoor
/- The reference: small integers; lists of ints beside numbers. -/
namespace Go.Proofs.YtmahhmdodfimbaaGreatDoor
open Go.RowKit

set_option maxRecDepth 100000 in
set_option maxHeartbeats 16000000 in
theorem tqisint_any (A1 : Option Addr) (c1 : Nat) (l1 : List Nat) (m1 : Bool) (A2 : Option Addr) (c2 : Nat) (l2 : List Nat) (m2 : Bool) (q : Rat) (w : World) (h : QV w A1 c1 l1 m1 A2 c2 l2 m2 q) :
    Calls Tryz.prog 109 #[(Value.agg #[.slice A1 l1.length c1, .bool m1, .slice A2 l2.length c2, .bool m2])] w fun e w' => (∃ b, e = .returned (.bool b)) ∧ Below w.heap.size w w' := by
  have HD := hide (fun W (hW : Below w.heap.size w W) => tdenv_any A1 c1 l1 m1 A2 c2 l2 m2 q W (h.below hW))
  have HO := hide tone_any
  clear h
  go_enter Tryz.func109, Tryz.ntmps109
  go_wp2_with fail
  have hw0 : Below w.heap.size w (w.alloc (.cells #[.slice A1 l1.length c1, .bool m1, .slice A2 l2.length c2, .bool m2] 52)) := below_alloc (Below.refl _ _) _
  generalize w.alloc (.cells #[.slice A1 l1.length c1, .bool m1, .slice A2 l2.length c2, .bool m2] 52) = W0 at *
  refine ((unhide HD) _ hw0).mono ?_
  rintro e W1 ⟨A5, c5, l5, m5, rfl, f5, hb⟩
  replace hw0 := below_step' hw0 hb
  have F5 := hide f5
  clear hb f5
  go_wp2_with fail
  refine ((unhide HO) _).mono ?_
  rintro e W2 ⟨A6, c6, l6, m6, rfl, f6, hb⟩
  have hcm := tcmp_any A5 c5 l5 m5 _ A6 c6 l6 m6 _ W2 ((unhide F5).below hb) f6
  replace hw0 := below_step' hw0 hb
  obtain ⟨s, hs⟩ : ∃ s, s = sgn ((q.den : Int) - 1) := ⟨_, rfl⟩
  rw [← hs] at hcm
  have HCM := hide hcm
  clear hb f6 hcm hs
  go_wp2_with fail
  refine (unhide HCM).mono ?_
  rintro e W3 ⟨rfl, hb⟩
  replace hw0 := below_step' hw0 hb
  clear hb
  go_wp2_with fail
  all_goals first | go_ret | skip
  exact ⟨⟨_, rfl⟩, hw0⟩

set_option maxRecDepth 100000 in
set_option maxHeartbeats 16000000 in
theorem tqsmall_any (A1 : Option Addr) (c1 : Nat) (l1 : List Nat) (m1 : Bool) (A2 : Option Addr) (c2 : Nat) (l2 : List Nat) (m2 : Bool) (q : Rat) (w : World) (h : QV w A1 c1 l1 m1 A2 c2 l2 m2 q) (r1 : -9223372036854775808 ≤ q.num) (r2 : q.num ≤ 9223372036854775807) :
    Calls Tryz.prog 57 #[(Value.agg #[.slice A1 l1.length c1, .bool m1, .slice A2 l2.length c2, .bool m2])] w fun e w' => (∃ b, e = .returned (.tuple #[.int .i64 q.num, .bool b])) ∧ Below w.heap.size w w' := by
  have HS := hide (fun W (hW : Below w.heap.size w W) => tsmall_any A1 c1 l1 m1 q.num W (h.num.below hW))
  have HI := hide (fun W (hW : Below w.heap.size w W) => tqisint_any A1 c1 l1 m1 A2 c2 l2 m2 q W (h.below hW))
  have hr : decide (-9223372036854775808 ≤ q.num ∧ q.num ≤ 9223372036854775807) = true := decide_eq_true ⟨r1, r2⟩
  have HR := Lib.hid hr
  clear h hr r1 r2
  obtain ⟨z, hz⟩ : ∃ z, z = q.num := ⟨_, rfl⟩
  rw [← hz] at HS HR ⊢
  clear hz
  go_enter Tryz.func57, Tryz.ntmps57
  go_upto_region 1 with fail
  obtain ⟨n0, hsz, hw0⟩ := one_new w (.cells #[.slice A1 l1.length c1, .bool m1, .slice A2 l2.length c2, .bool m2] 52)
  generalize w.alloc (.cells #[.slice A1 l1.length c1, .bool m1, .slice A2 l2.length c2, .bool m2] 52) = W0 at *
  have k0 : W0.cell? ⟨w.heap.size, 0, none⟩ = some (.slice A1 l1.length c1) := cells_of n0 0
  have k1 : W0.cell? ⟨w.heap.size, 1, none⟩ = some (.bool m1) := cells_of n0 1
  have k2 : W0.cell? ⟨w.heap.size, 2, none⟩ = some (.slice A2 l2.length c2) := cells_of n0 2
  have k3 : W0.cell? ⟨w.heap.size, 3, none⟩ = some (.bool m2) := cells_of n0 3
  have q0 := lt_of_block n0
  clear n0 hsz
  go_wp2_with fail
  refine ((unhide HS) _ hw0).mono ?_
  rintro e W1 ⟨v, okk, rfl, ho, hv, hb⟩
  rw [HR.out] at ho
  subst ho
  obtain rfl : v = z := hv rfl
  obtain ⟨hc, hfz⟩ := bcell hb
  replace k0 := (hc _ _ q0).trans k0
  replace k1 := (hc _ _ q0).trans k1
  replace k2 := (hc _ _ q0).trans k2
  replace k3 := (hc _ _ q0).trans k3
  replace hw0 := below_step' hw0 hb
  clear hb hc hfz hv q0
  go_wp2_with fail
  refine ((unhide HI) _ hw0).mono ?_
  rintro e W2 ⟨⟨b, rfl⟩, hb⟩
  replace hw0 := below_step' hw0 hb
  clear hb k0 k1 k2 k3
  go_wp2_with fail
  go_ret2
  exact ⟨⟨_, rfl⟩, hw0⟩

theorem own_ne {w : World} {base b : Nat} {v : Value} {n : Nat} {xs : List Value} {cs : Array Value} (h : w.ownsRow base 3 1 v n xs) (hb : w.heap[b]? = some (.cells cs 52 (0, 0))) : some b ≠ v.ownBlock := by
  obtain ⟨_, ⟨rfl, _⟩ | ⟨g, cap, cur, rfl, _, hh, _⟩⟩ := h
  · simp [Value.ownBlock]
  · simp only [Value.ownBlock]
    intro e
    injection e with e
    subst e
    rw [hh] at hb
    injection hb with hb
    injection hb with _ hb _
    exact absurd hb (by decide)
theorem boxq_append {X w1 : World} {b : Nat} {q : Rat} {lv : Value} (hq : BoxQ X b q) (hne : some b ≠ lv.ownBlock) (hg : X.grownBy w1 lv.ownBlock) (hno : ∀ (A : Option Addr) (cap : Nat) (l : List Nat), Ws .u32 X X.heap.size A l → Ws .u32 w1 w1.heap.size A l) : BoxQ w1 b q := by
  obtain ⟨A, c, l, m, A', c', l', m', h1, ⟨⟨hn, hs⟩, d, ⟨hn2, hs2⟩, h3⟩⟩ := hq
  exact ⟨A, c, l, m, A', c', l', m', (hg.block _ (lt_of_block h1) hne).trans h1, ⟨⟨⟨hno _ c _ hn.ws, hn.cap1, hn.cap2, hn.lt, hn.norm, hn.val⟩, hs⟩, d, ⟨⟨hno _ c _ hn2.ws, hn2.cap1, hn2.cap2, hn2.lt, hn2.norm, hn2.val⟩, hs2⟩, h3⟩⟩
theorem ws_append {X w1 : World} {base : Nat} {lv : Value} {n : Nat} {L : List Int} (hown : X.ownsRow base 3 1 lv n (ivals L)) (hcap : ∀ g cap, lv = .slice (some ⟨g, 0, none⟩) n cap → ∀ i v, X.cell? ⟨g, i, none⟩ = some v → ∀ k, v ≠ .int .u32 k) (hg : X.grownBy w1 lv.ownBlock) (A : Option Addr) (l : List Nat) (h : Ws .u32 X X.heap.size A l) : Ws .u32 w1 w1.heap.size A l := fun hl => by
  obtain ⟨b, off, rfl, hb, hc⟩ := h hl
  refine ⟨b, off, rfl, Nat.lt_of_lt_of_le hb hg.size, fun j hj => ?_⟩
  refine (World.cell?_of_block (hg.block b hb ?_)).trans (hc j hj)
  obtain ⟨_, ⟨rfl, _⟩ | ⟨g, cap, cur, rfl, _⟩⟩ := hown
  · simp [Value.ownBlock]
  · simp only [Value.ownBlock]
    intro e
    injection e with e
    subst e
    exact hcap _ _ rfl _ _ (hc j hj) _ rfl

theorem boxq_grow {X w1 : World} {B b : Nat} {q : Rat} {lv : Value} {l : List Int} (hq : BoxQ X b q) (hown : OwnI X B lv l) (hg : X.grownBy w1 lv.ownBlock) : BoxQ w1 b q := by
  have hq' := hq
  obtain ⟨A, c, l1, m, A', c', l1', m', h1, _⟩ := hq'
  refine boxq_append hq (own_ne hown.1 h1) hg (fun A cap l h => ws_append hown.1 ?_ hg A l h)
  rintro g cap rfl i v hv k rfl
  obtain ⟨_, ⟨h2, _⟩ | ⟨g', cap', cur, he, _, hh, _⟩⟩ := hown.1
  · injection h2 with h2; cases h2
  · injection he with e1 _ _
    injection e1 with e1; injection e1 with e1
    subst e1
    rw [cell_of_row _ _ _ _ _ _ hh] at hv
    obtain ⟨z, hz⟩ := hown.2 g cur _ _ rfl hh i _ hv
    injection hz with hz
    cases hz
theorem own_slen {w : World} {B : Nat} {lv : Value} {l : List Int} (h : OwnI w B lv l) : slen lv = l.length := by
  obtain ⟨_, ⟨rfl, h2⟩ | ⟨g, cap, cur, rfl, _⟩⟩ := h.1
  · simp [slen, h2]
  · simp [slen]
theorem boxq_storeI {w W : World} {B b : Nat} {q : Rat} {lv : Value} {l : List Int} {A1a : Option Addr} {c1a : Nat} {l1a : List Nat} {m1a : Bool} {A1b : Option Addr} {c1b : Nat} {l1b : List Nat} {m1b : Bool} {x1 : Rat} (hq : BoxQ W b q) (hv : QV W A1a c1a l1a m1a A1b c1b l1b m1b x1) (hb : Below B w W) (hB : B ≤ b) (hBW : B ≤ W.heap.size) (hown : OwnI W B lv l) :
    BoxQ ((((W.setCell ⟨b, 0, none⟩ (.slice A1a l1a.length c1a)).setCell ⟨b, 1, none⟩ (.bool m1a)).setCell ⟨b, 2, none⟩ (.slice A1b l1b.length c1b)).setCell ⟨b, 3, none⟩ (.bool m1b)) b x1 ∧ Below B w ((((W.setCell ⟨b, 0, none⟩ (.slice A1a l1a.length c1a)).setCell ⟨b, 1, none⟩ (.bool m1a)).setCell ⟨b, 2, none⟩ (.slice A1b l1b.length c1b)).setCell ⟨b, 3, none⟩ (.bool m1b)) ∧ OwnI ((((W.setCell ⟨b, 0, none⟩ (.slice A1a l1a.length c1a)).setCell ⟨b, 1, none⟩ (.bool m1a)).setCell ⟨b, 2, none⟩ (.slice A1b l1b.length c1b)).setCell ⟨b, 3, none⟩ (.bool m1b)) B lv l := by
  obtain ⟨A, c, l1, m, A', c', l1', m', h1, h2⟩ := hq
  have hg := set4_grown W b (.slice A1a l1a.length c1a) (.bool m1a) (.slice A1b l1b.length c1b) (.bool m1b)
  have hne := own_ne hown.1 h1
  exact ⟨⟨_, _, _, _, _, _, _, _, set4_block h1, hv.upto h1 (noW2_4 _ _ _ _ _ _ _ _) hg⟩, hb.grown hg hBW (fun k hk => by injection hk with hk; omega), hown.kept (fun g hgv => hg.block g (hown.lt g hgv) (fun e => hne (by rw [hgv]; exact e.symm)))⟩
namespace Wd
theorem okR_mod {n d : Int} (h : okR n d) : okR (n % d) d ∧ (n % d ≠ 0 → okR d (n % d)) := by
  obtain ⟨h1, h2, h3, h4, h5⟩ := h
  have e1 := Int.emod_nonneg n (show d ≠ 0 by omega)
  have e2 := Int.emod_lt_of_pos n (show 0 < d by omega)
  have hc : (n % d).natAbs.Coprime d.natAbs := by
    unfold Nat.Coprime at *
    apply Nat.dvd_one.1
    rw [← h5]
    refine Nat.dvd_gcd ?_ (Nat.gcd_dvd_right _ _)
    have d1 : (((n % d).natAbs.gcd d.natAbs : Nat) : Int) ∣ n % d := Int.dvd_trans (Int.ofNat_dvd.2 (Nat.gcd_dvd_left _ _)) (Int.natAbs_dvd.2 (Int.dvd_refl _))
    have d2 : (((n % d).natAbs.gcd d.natAbs : Nat) : Int) ∣ d := Int.dvd_trans (Int.ofNat_dvd.2 (Nat.gcd_dvd_right _ _)) (Int.natAbs_dvd.2 (Int.dvd_refl _))
    have d3 := Int.dvd_add (Int.dvd_trans d2 (Int.dvd_mul_right d (n / d))) d1
    rw [Int.mul_ediv_add_emod] at d3
    have d4 := Int.natAbs_dvd_natAbs.2 d3
    rwa [Int.natAbs_natCast] at d4
  exact ⟨⟨h1, h2, by omega, by omega, hc⟩, fun h0 => ⟨by omega, by omega, by omega, by omega, hc.symm⟩⟩
theorem qR_sub_int {n d a : Int} (hd : 0 < d) : qR n d - qR a 1 = qR (n - a * d) d := by
  unfold qR
  rw [Rat.divInt_sub_divInt _ _ (by omega) (by omega), Int.mul_one, Int.mul_one]
theorem qR_inv {r d : Int} (h : okR r d) : Rat.divInt 1 1 / qR r d = qR d r := by
  have hp := qR_ok h
  rw [Rat.div_def, Rat.inv_def, hp.1, hp.2, Rat.divInt_mul_divInt, Int.one_mul, Int.one_mul]; rfl
end Wd

end Go.Proofs.YtmahhmdodfimbaaGreatDoor
/- The reference: the continued fraction of a number. -/
namespace Go.Proofs.YtmahhmdodfimbaaGreatDoor
open Go.RowKit

set_option maxRecDepth 100000 in
set_option maxHeartbeats 16000000 in
theorem tfrac_ok (n0 d0 : Int) (w : World) (ok : Wd.okR n0 d0) :
    Calls Tryz.prog 31 #[(Value.agg #[.int .i64 n0, .int .i64 d0])] w fun e w' => IntsR w (Wd.cf (d0.toNat + 1) n0 d0) 0 e w' := by
  have HI0 := hide (fun W => tIs_any n0 d0 W)
  rw [decide_eq_true ok] at HI0
  have HO0 := hide (fun W => of_ok ok W)
  have hst := And.intro (Wd.CfInv.start ok) ok
  have hLl : (Wd.cf (d0.toNat + 1) n0 d0).length ≤ 1000000000001 := by
    have := Wd.cf_len (d0.toNat + 1) n0 d0
    have := ok.2.1
    omega
  generalize Wd.cf (d0.toNat + 1) n0 d0 = L at *
  have HST := hide hst; have HLL := hide hLl
  clear hst ok hLl
  go_enter Tryz.func31, Tryz.ntmps31
  go_upto_region 1 with fail
  obtain ⟨n0_, hsz, hw0⟩ := one_new w (.cells #[.int .i64 n0, .int .i64 d0] 23)
  generalize w.alloc (.cells #[.int .i64 n0, .int .i64 d0] 23) = W0 at *
  have k0 : W0.cell? ⟨w.heap.size, 0, none⟩ = some (.int .i64 n0) := cells_of n0_ 0
  have k1 : W0.cell? ⟨w.heap.size, 1, none⟩ = some (.int .i64 d0) := cells_of n0_ 1
  have q0 := lt_of_block n0_
  clear n0_ hsz
  go_wp2_with fail
  refine ((unhide HI0) _).mono ?_
  rintro e W1 ⟨rfl, hb⟩
  obtain ⟨hc, hfz⟩ := bcell hb
  replace k0 := (hc _ _ q0).trans k0
  replace k1 := (hc _ _ q0).trans k1
  replace hw0 := below_step' hw0 hb
  clear hb hc hfz q0
  go_wp2_with fail
  refine ((unhide HO0) _).mono ?_
  rintro e W2 ⟨A1a, c1a, l1a, m1a, A1b, c1b, l1b, m1b, rfl, f1, f2, hb⟩
  replace hw0 := below_step' hw0 hb
  clear hb k0 k1
  go_upto_block 1 with fail
  have hn := heap_alloc_new W2 (.cells #[.slice A1a l1a.length c1a, .bool m1a, .slice A1b l1b.length c1b, .bool m1b] 52)
  have hbq : BoxQ (W2.alloc (.cells #[.slice A1a l1a.length c1a, .bool m1a, .slice A1b l1b.length c1b, .bool m1b] 52)) W2.heap.size (Wd.qR n0 d0) := BoxQ.new (QV.of f1 f2) rfl
  have hsz := hw0.size
  have hwB : Below w.heap.size w (W2.alloc (.cells #[.slice A1a l1a.length c1a, .bool m1a, .slice A1b l1b.length c1b, .bool m1b] 52)) := hw0.alloc hw0.size _
  clear f1 f2 hn hw0
  go_wp2_with fail
  go_loopw [4, 5] (fun lv sv wr => ∃ (l : List Int) (n d : Int) (b : Nat), sv = .pointer (some ⟨b, 0, none⟩) ∧ Hid (Wd.CfInv L l n d ∧ Wd.okR n d) ∧ OwnI wr w.heap.size lv l ∧ BoxQ wr b (Wd.qR n d) ∧ w.heap.size ≤ b ∧ Below w.heap.size w wr) (fun lv _ _ => L.length - slen lv)
  case atStart => exact ⟨[], n0, d0, W2.heap.size, rfl, unhide HST, OwnI.nil_ _ _, hbq, hsz, hwB⟩
  case round =>
    obtain ⟨l, n, d, b, rfl, HI, hown, hbx, hb0, hg⟩ := hrel
    obtain ⟨hci, hok⟩ := unhide HI
    have hd : 0 < d := by have := hok.1; omega
    have hsl := own_slen hown
    obtain ⟨h1, h2, h3, h4, _, _⟩ := hci.step hd
    have hokr := Wd.okR_mod hok
    have hll : l.length ≤ 1000000000001 := hci.len (unhide HLL)
    obtain ⟨a, ha⟩ : ∃ a, a = n / d := ⟨_, rfl⟩
    obtain ⟨r, hr⟩ : ∃ r, r = n % d := ⟨_, rfl⟩
    rw [← ha] at h1 h2 h3 h4
    rw [← hr] at h1 h2 hokr
    have hlt : l.length < L.length := by
      obtain ⟨⟨f, _, f2, _⟩, _, _, _⟩ := h1
      rw [← f2]; simp
    have ka : Wd.okR a 1 := ⟨by omega, by omega, by omega, by omega, by simp [Nat.Coprime]⟩
    have pn := Wd.qR_ok hok; have pa := Wd.qR_ok ka; have pr := Wd.qR_ok hokr.1
    have HFl : Hid (∀ (A1a : Option Addr) (c1a : Nat) (l1a : List Nat) (m1a : Bool) (A1b : Option Addr) (c1b : Nat) (l1b : List Nat) (m1b : Bool) W, QV W A1a c1a l1a m1a A1b c1b l1b m1b (Wd.qR n d) → Calls Tryz.prog 56 #[(Value.agg #[.slice A1a l1a.length c1a, .bool m1a, .slice A1b l1b.length c1b, .bool m1b])] W fun e w' => QR W (Wd.qR a 1) e w') := fun A1a c1a l1a m1a A1b c1b l1b m1b W f => by
      have := tqfloor_any 2 A1a c1a l1a m1a A1b c1b l1b m1b _ W f (okR_szq hok) (by omega)
      rw [pn.1, pn.2, ← ha] at this
      exact this
    have HSm : Hid (∀ (A1a : Option Addr) (c1a : Nat) (l1a : List Nat) (m1a : Bool) (A1b : Option Addr) (c1b : Nat) (l1b : List Nat) (m1b : Bool) W, QV W A1a c1a l1a m1a A1b c1b l1b m1b (Wd.qR a 1) → Calls Tryz.prog 57 #[(Value.agg #[.slice A1a l1a.length c1a, .bool m1a, .slice A1b l1b.length c1b, .bool m1b])] W fun e w' => (∃ b, e = .returned (.tuple #[.int .i64 a, .bool b])) ∧ Below W.heap.size W w') := fun A1a c1a l1a m1a A1b c1b l1b m1b W f => by
      have := tqsmall_any A1a c1a l1a m1a A1b c1b l1b m1b _ W f (by rw [pa.1]; omega) (by rw [pa.1]; omega)
      rwa [pa.1] at this
    have HSu : Hid (∀ (A1a : Option Addr) (c1a : Nat) (l1a : List Nat) (m1a : Bool) (A1b : Option Addr) (c1b : Nat) (l1b : List Nat) (m1b : Bool) (A2a : Option Addr) (c2a : Nat) (l2a : List Nat) (m2a : Bool) (A2b : Option Addr) (c2b : Nat) (l2b : List Nat) (m2b : Bool) W, QV W A1a c1a l1a m1a A1b c1b l1b m1b (Wd.qR n d) → QV W A2a c2a l2a m2a A2b c2b l2b m2b (Wd.qR a 1) → Calls Tryz.prog 44 #[(Value.agg #[.slice A1a l1a.length c1a, .bool m1a, .slice A1b l1b.length c1b, .bool m1b]), (Value.agg #[.slice A2a l2a.length c2a, .bool m2a, .slice A2b l2b.length c2b, .bool m2b])] W fun e w' => QR W (Wd.qR r d) e w') := fun A1a c1a l1a m1a A1b c1b l1b m1b A2a c2a l2a m2a A2b c2b l2b m2b W f g => by
      have := tqsub_any 2 A1a c1a l1a m1a A1b c1b l1b m1b A2a c2a l2a m2a A2b c2b l2b m2b _ _ W f g (okR_szq hok) (okR_szq ka) (by omega)
      rwa [Wd.qR_sub_int hd, h2] at this
    have HZ : Hid (∀ (A1a : Option Addr) (c1a : Nat) (l1a : List Nat) (m1a : Bool) (A1b : Option Addr) (c1b : Nat) (l1b : List Nat) (m1b : Bool) W, QV W A1a c1a l1a m1a A1b c1b l1b m1b (Wd.qR r d) → Calls Tryz.prog 46 #[(Value.agg #[.slice A1a l1a.length c1a, .bool m1a, .slice A1b l1b.length c1b, .bool m1b])] W fun e w' => e = .returned (.bool (decide (r = 0))) ∧ Below W.heap.size W w') := fun A1a c1a l1a m1a A1b c1b l1b m1b W f => by
      have := tqzero_any A1a c1a l1a m1a A1b c1b l1b m1b _ W f
      rwa [pr.1] at this
    have HIn : Hid (r ≠ 0 → ∀ (A1a : Option Addr) (c1a : Nat) (l1a : List Nat) (m1a : Bool) (A1b : Option Addr) (c1b : Nat) (l1b : List Nat) (m1b : Bool) W, QV W A1a c1a l1a m1a A1b c1b l1b m1b (Wd.qR r d) → Calls Tryz.prog 80 #[(Value.agg #[.slice A1a l1a.length c1a, .bool m1a, .slice A1b l1b.length c1b, .bool m1b])] W fun e w' => QR W (Wd.qR d r) e w') := fun h0 A1a c1a l1a m1a A1b c1b l1b m1b W f => by
      have := tqinv_any 2 A1a c1a l1a m1a A1b c1b l1b m1b _ W f (okR_szq hokr.1) (by omega) (by omega) (by rw [pr.1]; exact h0)
      rwa [Wd.qR_inv hokr.1] at this
    have H1 := hide h1; have HR := hide hokr.2
    have HLEN := hide (And.intro hsl hlt)
    clear hci hok hd h1 h2 h3 h4 hokr hr ha ka pn pa pr HI hsl hlt
    obtain ⟨A1a, c1a, l1a, m1a, A1b, c1b, l1b, m1b, j1, f1⟩ := hbx
    have kb1_0 : wr.cell? ⟨b, 0, none⟩ = some (.slice A1a l1a.length c1a) := cells_of j1 0
    have kb1_1 : wr.cell? ⟨b, 1, none⟩ = some (.bool m1a) := cells_of j1 1
    have kb1_2 : wr.cell? ⟨b, 2, none⟩ = some (.slice A1b l1b.length c1b) := cells_of j1 2
    have kb1_3 : wr.cell? ⟨b, 3, none⟩ = some (.bool m1b) := cells_of j1 3
    have F1 := hide f1
    clear f1
    go_wp2_with fail
    refine ((unhide HFl) A1a c1a l1a m1a A1b c1b l1b m1b wr (unhide F1)).mono ?_
    rintro e V1 ⟨A2a, c2a, l2a, m2a, A2b, c2b, l2b, m2b, rfl, g1, g2, hb⟩
    clear kb1_0 kb1_1 kb1_2 kb1_3
    have hown := OwnI.below hown hb
    replace hg := below_step' hg hb
    replace j1 := (hb.block _ (lt_of_block j1)).trans j1
    replace F1 := hide ((unhide F1).below hb)
    clear hb
    have F2 := hide (QV.of g1 g2)
    clear g1 g2
    go_upto_region 6 with fail
    have j2 := heap_alloc_new V1 (.cells #[.slice A2a l2a.length c2a, .bool m2a, .slice A2b l2b.length c2b, .bool m2b] 52)
    have hb := below_alloc (Below.refl V1.heap.size V1) (.cells #[.slice A2a l2a.length c2a, .bool m2a, .slice A2b l2b.length c2b, .bool m2b] 52)
    obtain ⟨bk, hbk⟩ : ∃ b, b = V1.heap.size := ⟨_, rfl⟩
    rw [← hbk] at j2 ⊢
    generalize V1.alloc (.cells #[.slice A2a l2a.length c2a, .bool m2a, .slice A2b l2b.length c2b, .bool m2b] 52) = W1 at *
    have hown := OwnI.below hown hb
    replace hg := below_step' hg hb
    replace j1 := (hb.block _ (lt_of_block j1)).trans j1
    replace F1 := hide ((unhide F1).below hb)
    replace F2 := hide ((unhide F2).below hb)
    clear hb
    clear hbk
    have kb2_0 : W1.cell? ⟨bk, 0, none⟩ = some (.slice A2a l2a.length c2a) := cells_of j2 0
    have kb2_1 : W1.cell? ⟨bk, 1, none⟩ = some (.bool m2a) := cells_of j2 1
    have kb2_2 : W1.cell? ⟨bk, 2, none⟩ = some (.slice A2b l2b.length c2b) := cells_of j2 2
    have kb2_3 : W1.cell? ⟨bk, 3, none⟩ = some (.bool m2b) := cells_of j2 3
    go_wp2_with fail
    refine ((unhide HSm) A2a c2a l2a m2a A2b c2b l2b m2b W1 (unhide F2)).mono ?_
    rintro e V2 ⟨⟨bb, rfl⟩, hb⟩
    clear kb2_0 kb2_1 kb2_2 kb2_3
    have hown := OwnI.below hown hb
    replace hg := below_step' hg hb
    replace j1 := (hb.block _ (lt_of_block j1)).trans j1
    replace j2 := (hb.block _ (lt_of_block j2)).trans j2
    replace F1 := hide ((unhide F1).below hb)
    replace F2 := hide ((unhide F2).below hb)
    clear hb
    have hown' := OwnI.below hown ((Below.refl V2.heap.size V2).alloc (Nat.le_refl _) (.cells #[.int .i64 a] 3))
    have hgs := hg.size
    go_upto_region 8 with (first | (at_builtin; refine wpList_append_int _ rfl _ _ rfl w.heap.size _ l rfl hown' ⟨_, 0, none⟩ 1 a rfl (one_cell _ _ _) (by omega) (by simp <;> omega) ?_; intro v' w1 hown1 hgrow1) | fail)
    have hx1 := boxq_grow (BoxQ.alloc (o := .cells #[.int .i64 a] 3) ⟨_, _, _, _, _, _, _, _, j1, unhide F1⟩) hown' hgrow1
    have hx2 := boxq_grow (BoxQ.alloc (o := .cells #[.int .i64 a] 3) ⟨_, _, _, _, _, _, _, _, j2, unhide F2⟩) hown' hgrow1
    replace hg := (hg.alloc hgs (.cells #[.int .i64 a] 3)).grown hgrow1 (by simp <;> omega) (fun g hgv => hown'.ge g hgv)
    clear hown hown' hgrow1 j1 j2 F1 F2 hgs
    have hown := hown1
    clear hown1
    obtain ⟨A3a, c3a, l3a, m3a, A3b, c3b, l3b, m3b, j1, f1⟩ := hx1
    obtain ⟨A4a, c4a, l4a, m4a, A4b, c4b, l4b, m4b, j2, f2⟩ := hx2
    have kb3_0 : w1.cell? ⟨b, 0, none⟩ = some (.slice A3a l3a.length c3a) := cells_of j1 0
    have kb3_1 : w1.cell? ⟨b, 1, none⟩ = some (.bool m3a) := cells_of j1 1
    have kb3_2 : w1.cell? ⟨b, 2, none⟩ = some (.slice A3b l3b.length c3b) := cells_of j1 2
    have kb3_3 : w1.cell? ⟨b, 3, none⟩ = some (.bool m3b) := cells_of j1 3
    have kb4_0 : w1.cell? ⟨bk, 0, none⟩ = some (.slice A4a l4a.length c4a) := cells_of j2 0
    have kb4_1 : w1.cell? ⟨bk, 1, none⟩ = some (.bool m4a) := cells_of j2 1
    have kb4_2 : w1.cell? ⟨bk, 2, none⟩ = some (.slice A4b l4b.length c4b) := cells_of j2 2
    have kb4_3 : w1.cell? ⟨bk, 3, none⟩ = some (.bool m4b) := cells_of j2 3
    have F1 := hide f1; have F2 := hide f2
    clear f1 f2
    go_wp2_with fail
    refine ((unhide HSu) A3a c3a l3a m3a A3b c3b l3b m3b A4a c4a l4a m4a A4b c4b l4b m4b w1 (unhide F1) (unhide F2)).mono ?_
    rintro e V4 ⟨A5a, c5a, l5a, m5a, A5b, c5b, l5b, m5b, rfl, g1, g2, hb⟩
    clear kb3_0 kb3_1 kb3_2 kb3_3 kb4_0 kb4_1 kb4_2 kb4_3
    have hown := OwnI.below hown hb
    replace hg := below_step' hg hb
    replace j1 := (hb.block _ (lt_of_block j1)).trans j1
    replace F1 := hide ((unhide F1).below hb)
    clear hb
    have kb3_0 : V4.cell? ⟨b, 0, none⟩ = some (.slice A3a l3a.length c3a) := cells_of j1 0
    have kb3_1 : V4.cell? ⟨b, 1, none⟩ = some (.bool m3a) := cells_of j1 1
    have kb3_2 : V4.cell? ⟨b, 2, none⟩ = some (.slice A3b l3b.length c3b) := cells_of j1 2
    have kb3_3 : V4.cell? ⟨b, 3, none⟩ = some (.bool m3b) := cells_of j1 3
    have fb3_0 := unfrozen_of j1 0
    have fb3_1 := unfrozen_of j1 1
    have fb3_2 := unfrozen_of j1 2
    have fb3_3 := unfrozen_of j1 3
    have qb := lt_of_block j1
    have hst := boxq_storeI ⟨_, _, _, _, _, _, _, _, j1, unhide F1⟩ (QV.of g1 g2) hg hb0 hg.size hown
    clear g1 g2 hown hg j1 j2 F1 F2
    go_upto_region 9 with fail
    generalize ((((V4.setCell ⟨b, 0, none⟩ (.slice A5a l5a.length c5a)).setCell ⟨b, 1, none⟩ (.bool m5a)).setCell ⟨b, 2, none⟩ (.slice A5b l5b.length c5b)).setCell ⟨b, 3, none⟩ (.bool m5b)) = W5 at *
    clear kb3_0 kb3_1 kb3_2 kb3_3
    clear fb3_0 fb3_1 fb3_2 fb3_3 qb
    obtain ⟨⟨A6a, c6a, l6a, m6a, A6b, c6b, l6b, m6b, j1, f1⟩, hg, hown⟩ := hst
    have kb6_0 : W5.cell? ⟨b, 0, none⟩ = some (.slice A6a l6a.length c6a) := cells_of j1 0
    have kb6_1 : W5.cell? ⟨b, 1, none⟩ = some (.bool m6a) := cells_of j1 1
    have kb6_2 : W5.cell? ⟨b, 2, none⟩ = some (.slice A6b l6b.length c6b) := cells_of j1 2
    have kb6_3 : W5.cell? ⟨b, 3, none⟩ = some (.bool m6b) := cells_of j1 3
    have F1 := hide f1
    clear f1
    by_cases hr0 : r = 0
    · rw [decide_eq_true hr0] at HZ
      have hL : l ++ [a] = L := by
        have := unhide H1
        rw [hr0] at this
        exact this.done
      have HL := Lib.hid hL
      clear hr0 hL
      go_wp2_with fail
      refine ((unhide HZ) A6a c6a l6a m6a A6b c6b l6b m6b W5 (unhide F1)).mono ?_
      rintro e V6 ⟨rfl, hb⟩
      clear kb6_0 kb6_1 kb6_2 kb6_3
      have hown := OwnI.below hown hb
      replace hg := below_step' hg hb
      clear hb
      go_wp2_with fail
      go_ret2
      exact ⟨_, rfl, by rw [← HL.out]; exact hown.1, hg⟩
    · rw [decide_eq_false hr0] at HZ
      have HIn' := hide ((unhide HIn) hr0)
      have HOK := hide ((unhide HR) hr0)
      clear hr0 HIn HR
      go_wp2_with fail
      refine ((unhide HZ) A6a c6a l6a m6a A6b c6b l6b m6b W5 (unhide F1)).mono ?_
      rintro e V6 ⟨rfl, hb⟩
      clear kb6_0 kb6_1 kb6_2 kb6_3
      have hown := OwnI.below hown hb
      replace hg := below_step' hg hb
      replace j1 := (hb.block _ (lt_of_block j1)).trans j1
      replace F1 := hide ((unhide F1).below hb)
      clear hb
      have kb6_0 : V6.cell? ⟨b, 0, none⟩ = some (.slice A6a l6a.length c6a) := cells_of j1 0
      have kb6_1 : V6.cell? ⟨b, 1, none⟩ = some (.bool m6a) := cells_of j1 1
      have kb6_2 : V6.cell? ⟨b, 2, none⟩ = some (.slice A6b l6b.length c6b) := cells_of j1 2
      have kb6_3 : V6.cell? ⟨b, 3, none⟩ = some (.bool m6b) := cells_of j1 3
      go_wp2_with fail
      refine ((unhide HIn') A6a c6a l6a m6a A6b c6b l6b m6b V6 (unhide F1)).mono ?_
      rintro e V7 ⟨A7a, c7a, l7a, m7a, A7b, c7b, l7b, m7b, rfl, g1, g2, hb⟩
      clear kb6_0 kb6_1 kb6_2 kb6_3
      have hown := OwnI.below hown hb
      replace hg := below_step' hg hb
      replace j1 := (hb.block _ (lt_of_block j1)).trans j1
      replace F1 := hide ((unhide F1).below hb)
      clear hb
      have kb6_0 : V7.cell? ⟨b, 0, none⟩ = some (.slice A6a l6a.length c6a) := cells_of j1 0
      have kb6_1 : V7.cell? ⟨b, 1, none⟩ = some (.bool m6a) := cells_of j1 1
      have kb6_2 : V7.cell? ⟨b, 2, none⟩ = some (.slice A6b l6b.length c6b) := cells_of j1 2
      have kb6_3 : V7.cell? ⟨b, 3, none⟩ = some (.bool m6b) := cells_of j1 3
      have fb6_0 := unfrozen_of j1 0
      have fb6_1 := unfrozen_of j1 1
      have fb6_2 := unfrozen_of j1 2
      have fb6_3 := unfrozen_of j1 3
      have qb := lt_of_block j1
      have hst := boxq_storeI ⟨_, _, _, _, _, _, _, _, j1, unhide F1⟩ (QV.of g1 g2) hg hb0 hg.size hown
      clear g1 g2 hown hg j1 F1
      go_upto_region 12 with fail
      generalize ((((V7.setCell ⟨b, 0, none⟩ (.slice A7a l7a.length c7a)).setCell ⟨b, 1, none⟩ (.bool m7a)).setCell ⟨b, 2, none⟩ (.slice A7b l7b.length c7b)).setCell ⟨b, 3, none⟩ (.bool m7b)) = W8 at *
      clear kb6_0 kb6_1 kb6_2 kb6_3
      clear fb6_0 fb6_1 fb6_2 fb6_3
      clear qb
      obtain ⟨⟨A8a, c8a, l8a, m8a, A8b, c8b, l8b, m8b, j1, f1⟩, hg, hown⟩ := hst
      have kb8_0 : W8.cell? ⟨b, 0, none⟩ = some (.slice A8a l8a.length c8a) := cells_of j1 0
      have kb8_1 : W8.cell? ⟨b, 1, none⟩ = some (.bool m8a) := cells_of j1 1
      have kb8_2 : W8.cell? ⟨b, 2, none⟩ = some (.slice A8b l8b.length c8b) := cells_of j1 2
      have kb8_3 : W8.cell? ⟨b, 3, none⟩ = some (.bool m8b) := cells_of j1 3
      have F1 := hide f1
      have hs2 := own_slen hown
      have HS2 := Lib.hid hs2
      clear f1 hs2
      go_wp2_with fail
      go_roundw
      case rel => exact ⟨l ++ [a], d, r, W8.heap.size, rfl, hide ⟨unhide H1, unhide HOK⟩, hown.below ((Below.refl _ _).alloc (Nat.le_refl _) _), BoxQ.new (unhide F1) rfl, hg.size, hg.alloc hg.size _⟩
      case measure =>
        obtain ⟨s1, s2⟩ := unhide HLEN
        have s3 := HS2.out
        rw [List.length_append, List.length_singleton] at s3
        simp only [slen] at *
        omega

set_option maxRecDepth 100000 in
set_option maxHeartbeats 16000000 in
theorem tfrac_bad (n0 d0 : Int) (w : World) (ok : ¬ Wd.okR n0 d0) :
    Calls Tryz.prog 31 #[(Value.agg #[.int .i64 n0, .int .i64 d0])] w fun e w' => IntsR w [] 1 e w' := by
  have HI0 := hide (fun W => tIs_any n0 d0 W)
  rw [decide_eq_false ok] at HI0
  clear ok
  go_enter Tryz.func31, Tryz.ntmps31
  go_wp2_with fail
  have hw0 : Below w.heap.size w (w.alloc (.cells #[.int .i64 n0, .int .i64 d0] 23)) := below_alloc (Below.refl _ _) _
  refine ((unhide HI0) _).mono ?_
  rintro e W1 ⟨rfl, hb⟩
  have hb9 := below_step' hw0 hb
  clear hb
  go_wp2_with fail
  go_ret2
  exact ⟨_, rfl, World.ownsRow_nil _ _ _ _, hb9⟩

end Go.Proofs.YtmahhmdodfimbaaGreatDoor
/- The number of a continued fraction. -/
namespace Go.Proofs.YtmahhmdodfimbaaGreatDoor
namespace Wd

/-- The number whose continued fraction a list is. -/
def joinQ : List Int → Rat
  | [] => 0
  | [a] => Rat.divInt a 1
  | a :: b :: l => Rat.divInt a 1 + (joinQ (b :: l))⁻¹
theorem joinQ_cons (a : Int) {l : List Int} (h : l ≠ []) : joinQ (a :: l) = Rat.divInt a 1 + (joinQ l)⁻¹ := by
  cases l with
  | nil => exact absurd rfl h
  | cons b l => rfl
/-- An int and what is behind it. -/
theorem step_parts (a : Int) (x : Rat) (hx : 0 < x.num) : (Rat.divInt a 1 + x⁻¹).num = a * x.num + x.den ∧ ((Rat.divInt a 1 + x⁻¹).den : Int) = x.num := by
  obtain ⟨n, hn⟩ := Int.eq_ofNat_of_zero_le (Int.le_of_lt hx)
  have hn0 : 0 < n := by omega
  have hc : (a * x.num + x.den).natAbs.Coprime n := by
    have hr := x.reduced
    unfold Nat.Coprime at *
    apply Nat.dvd_one.1
    rw [← hr]
    have d1 : (((a * x.num + x.den).natAbs.gcd n : Nat) : Int) ∣ a * x.num + x.den := Int.dvd_trans (Int.ofNat_dvd.2 (Nat.gcd_dvd_left _ _)) (Int.natAbs_dvd.2 (Int.dvd_refl _))
    have d2 : (((a * x.num + x.den).natAbs.gcd n : Nat) : Int) ∣ x.num := by rw [hn]; exact Int.ofNat_dvd.2 (Nat.gcd_dvd_right _ _)
    have d3 := Int.dvd_sub d1 (Int.dvd_trans d2 (Int.dvd_mul_left a x.num))
    rw [show a * x.num + (x.den : Int) - a * x.num = (x.den : Int) by omega] at d3
    refine Nat.dvd_gcd ?_ (Int.ofNat_dvd.1 d3)
    have d4 := Int.natAbs_dvd_natAbs.2 d2
    rwa [Int.natAbs_natCast] at d4
  have e : Rat.divInt a 1 + x⁻¹ = Rat.mk' (a * x.num + x.den) n (by omega) hc := by
    rw [Rat.mk_eq_divInt, Rat.inv_def, hn, Rat.divInt_add_divInt _ _ (by omega) (by omega), Int.mul_one, Int.one_mul]
  rw [e]
  exact ⟨rfl, hn.symm⟩
theorem one_parts (a : Int) : (Rat.divInt a 1).num = a ∧ ((Rat.divInt a 1).den : Int) = 1 := by
  have h : Rat.divInt a 1 = (a : Rat) := by
    rw [← Rat.num_divInt_den (a : Rat)]; rfl
  rw [h]
  exact ⟨rfl, rfl⟩
theorem sz_step {B s K : Nat} {a n d : Int} (hB : 9223372036854775809 ≤ B ^ s) (ha : -9223372036854775808 ≤ a ∧ a ≤ 9223372036854775808) (hn : Sz B K n) (hd : Sz B K d) : Sz B (K + s) (a * n + d) := by
  unfold Sz at *
  have h1 : (a * n + d).natAbs ≤ a.natAbs * n.natAbs + d.natAbs := Nat.le_trans (Int.natAbs_add_le _ _) (by rw [Int.natAbs_mul]; exact Nat.le_refl _)
  have h2 : a.natAbs * n.natAbs ≤ 9223372036854775808 * n.natAbs := Nat.mul_le_mul_right _ (by omega)
  have h3 : 9223372036854775809 * B ^ K ≤ B ^ s * B ^ K := Nat.mul_le_mul_right _ hB
  rw [Nat.pow_add, Nat.mul_comm (B ^ K)]
  generalize B ^ s * B ^ K = X at *
  generalize B ^ K = Y at *
  omega
/-- All but the first are at least 1. -/
def Big (l : List Int) : Prop := ∀ x ∈ l, 1 ≤ x ∧ x ≤ 9223372036854775807
theorem join_big {B s : Nat} (hB : 9223372036854775809 ≤ B ^ s) (hB1 : 1 < B) : ∀ l : List Int, l ≠ [] → Big l → 0 < (joinQ l).num ∧ Sz B (s * l.length) (joinQ l).num ∧ Sz B (s * l.length) ((joinQ l).den : Int)
  | [], h, _ => absurd rfl h
  | [a], _, h => by
    obtain ⟨h1, h2⟩ := h a (by simp)
    obtain ⟨e1, e2⟩ := one_parts a
    show 0 < (Rat.divInt a 1).num ∧ Sz B (s * 1) (Rat.divInt a 1).num ∧ Sz B (s * 1) ((Rat.divInt a 1).den : Int)
    rw [e1, e2, Nat.mul_one]
    unfold Sz
    exact ⟨by omega, by omega, by omega⟩
  | a :: b :: l, _, h => by
    obtain ⟨h1, h2⟩ := h a (by simp)
    obtain ⟨i1, i2, i3⟩ := join_big hB hB1 (b :: l) (by simp) (fun x hx => h x (List.mem_cons_of_mem _ hx))
    rw [joinQ_cons a (by simp)]
    obtain ⟨e1, e2⟩ := step_parts a (joinQ (b :: l)) i1
    rw [e1, e2]
    have hd := (joinQ (b :: l)).den_nz
    refine ⟨?_, ?_, ?_⟩
    · have := Int.mul_pos (show 0 < a by omega) i1
      omega
    · have := sz_step hB (a := a) ⟨by omega, by omega⟩ i2 i3
      rwa [← Nat.mul_succ] at this
    · exact i2.mono hB1 (Nat.mul_le_mul_left _ (by simp))
/-- .. of a list whose first is any int. -/
theorem join_any {B s : Nat} (hB : 9223372036854775809 ≤ B ^ s) (hB1 : 1 < B) (a : Int) (l : List Int) (ha : -9223372036854775808 ≤ a ∧ a ≤ 9223372036854775807) (h : Big l) : Sz B (s * (a :: l).length) (joinQ (a :: l)).num ∧ Sz B (s * (a :: l).length) ((joinQ (a :: l)).den : Int) := by
  cases l with
  | nil =>
    obtain ⟨e1, e2⟩ := one_parts a
    show Sz B (s * 1) (Rat.divInt a 1).num ∧ Sz B (s * 1) ((Rat.divInt a 1).den : Int)
    rw [e1, e2, Nat.mul_one]
    unfold Sz
    exact ⟨by omega, by omega⟩
  | cons b l =>
    obtain ⟨i1, i2, i3⟩ := join_big hB hB1 (b :: l) (by simp) h
    rw [joinQ_cons a (by simp)]
    obtain ⟨e1, e2⟩ := step_parts a (joinQ (b :: l)) i1
    rw [e1, e2]
    refine ⟨?_, i2.mono hB1 (Nat.mul_le_mul_left _ (by simp))⟩
    have := sz_step hB (a := a) ⟨by omega, by omega⟩ i2 i3
    rwa [← Nat.mul_succ] at this
/-- Which lists are continued fractions. -/
def JoinOk (l : List Int) : Prop := 0 < l.length ∧ (∀ i, i < l.length → 1 ≤ i → 1 ≤ l.getD i 0) ∧ (l.length = 1 ∨ l.getD (l.length - 1) 0 ≠ 1)
instance (l : List Int) : Decidable (JoinOk l) := by unfold JoinOk; infer_instance
/-- What the number of a list is told as. -/
def joinT (l : List Int) : Told := if 64 < l.length then ⟨0, 0, 3⟩ else if JoinOk l then told (joinQ l) else ⟨0, 0, 1⟩
theorem drop_cons {l : List Int} {i : Nat} (h : i < l.length) : l.drop i = l.getD i 0 :: l.drop (i + 1) := by
  rw [List.drop_eq_getElem_cons h]; simp [List.getD, h]
theorem big_drop {l : List Int} (h : JoinOk l) (hb : ∀ i, i < l.length → -9223372036854775808 ≤ l.getD i 0 ∧ l.getD i 0 ≤ 9223372036854775807) (i : Nat) (hi : 1 ≤ i) : Big (l.drop i) := by
  intro x hx
  obtain ⟨j, hj⟩ := List.getElem?_of_mem hx
  rw [List.getElem?_drop] at hj
  have hl : i + j < l.length := (List.getElem?_eq_some_iff.1 hj).1
  have e : l.getD (i + j) 0 = x := by simp [List.getD, hj]
  have h1 := h.2.1 (i + j) hl (by omega)
  have h2 := hb (i + j) hl
  rw [e] at h1 h2
  exact ⟨h1, h2.2⟩
end Wd
end Go.Proofs.YtmahhmdodfimbaaGreatDoor
/- The program: quotients in memory, an int as a quotient. -/
namespace Go.Proofs.YtmahhmdodfimbaaGreatDoor
open Go.RowKit

/-- A quotient of the program in memory. -/
structure IQ (w : World) (s1a : Int) (neg1a : Bool) (A1a : Option Addr) (c1a : Nat) (l1a : List Nat) (s1b : Int) (neg1b : Bool) (A1b : Option Addr) (c1b : Nat) (l1b : List Nat) (q : Rat) : Prop where
  n : IntF w s1a neg1a A1a c1a l1a q.num
  d : IntF w s1b neg1b A1b c1b l1b (q.den : Int)
theorem IQ.below {w w' : World} {s1a : Int} {neg1a : Bool} {A1a : Option Addr} {c1a : Nat} {l1a : List Nat} {s1b : Int} {neg1b : Bool} {A1b : Option Addr} {c1b : Nat} {l1b : List Nat} {q : Rat} (h : IQ w s1a neg1a A1a c1a l1a s1b neg1b A1b c1b l1b q) (hb : Below w.heap.size w w') : IQ w' s1a neg1a A1a c1a l1a s1b neg1b A1b c1b l1b q := ⟨h.n.below hb, h.d.below hb⟩
/-- Block b holds a quotient of the program. -/
def BoxT (w : World) (b : Nat) (q : Rat) : Prop := ∃ s1a neg1a A1a c1a l1a s1b neg1b A1b c1b l1b, w.heap[b]? = some (.cells #[.int .i64 s1a, .bool neg1a, .slice A1a (List.length l1a) c1a, .int .i64 s1b, .bool neg1b, .slice A1b (List.length l1b) c1b] 63 (0, 0)) ∧ IQ w s1a neg1a A1a c1a l1a s1b neg1b A1b c1b l1b q
theorem boxt_new {W : World} {s1a : Int} {neg1a : Bool} {A1a : Option Addr} {c1a : Nat} {l1a : List Nat} {s1b : Int} {neg1b : Bool} {A1b : Option Addr} {c1b : Nat} {l1b : List Nat} {q : Rat} (h : IQ W s1a neg1a A1a c1a l1a s1b neg1b A1b c1b l1b q) : BoxT (W.alloc (.cells #[.int .i64 s1a, .bool neg1a, .slice A1a l1a.length c1a, .int .i64 s1b, .bool neg1b, .slice A1b l1b.length c1b] 63)) W.heap.size q :=
  ⟨_, _, _, _, _, _, _, _, _, _, heap_alloc_new W _, h.below ((Below.refl _ _).alloc (Nat.le_refl _) _)⟩
theorem boxt_below {w w' : World} {b : Nat} {q : Rat} (h : BoxT w b q) (hb : Below w.heap.size w w') : BoxT w' b q := by
  obtain ⟨s1a, neg1a, A1a, c1a, l1a, s1b, neg1b, A1b, c1b, l1b, h1, h2⟩ := h
  exact ⟨s1a, neg1a, A1a, c1a, l1a, s1b, neg1b, A1b, c1b, l1b, (hb.block _ (lt_of_block h1)).trans h1, h2.below hb⟩
theorem set6_block {W : World} {b : Nat} {a0 a1 a2 a3 a4 a5 u0 u1 u2 u3 u4 u5 : Value} {T : TypeId} (h : W.heap[b]? = some (.cells #[a0, a1, a2, a3, a4, a5] T (0, 0))) : ((((((W.setCell ⟨b, 0, none⟩ u0).setCell ⟨b, 1, none⟩ u1).setCell ⟨b, 2, none⟩ u2).setCell ⟨b, 3, none⟩ u3).setCell ⟨b, 4, none⟩ u4).setCell ⟨b, 5, none⟩ u5).heap[b]? = some (.cells #[u0, u1, u2, u3, u4, u5] T (0, 0)) := by
  simp [World.setCell, Array.getElem?_modify, h]
theorem boxt_store {w W : World} {B b : Nat} {q x : Rat} {s2a : Int} {neg2a : Bool} {A2a : Option Addr} {c2a : Nat} {l2a : List Nat} {s2b : Int} {neg2b : Bool} {A2b : Option Addr} {c2b : Nat} {l2b : List Nat} (hq : BoxT W b q) (hv : IQ W s2a neg2a A2a c2a l2a s2b neg2b A2b c2b l2b x) (hb : Below B w W) (hB : B ≤ b) (hBW : B ≤ W.heap.size) : BoxT ((((((W.setCell ⟨b, 0, none⟩ (.int .i64 s2a)).setCell ⟨b, 1, none⟩ (.bool neg2a)).setCell ⟨b, 2, none⟩ (.slice A2a l2a.length c2a)).setCell ⟨b, 3, none⟩ (.int .i64 s2b)).setCell ⟨b, 4, none⟩ (.bool neg2b)).setCell ⟨b, 5, none⟩ (.slice A2b l2b.length c2b)) b x ∧ Below B w ((((((W.setCell ⟨b, 0, none⟩ (.int .i64 s2a)).setCell ⟨b, 1, none⟩ (.bool neg2a)).setCell ⟨b, 2, none⟩ (.slice A2a l2a.length c2a)).setCell ⟨b, 3, none⟩ (.int .i64 s2b)).setCell ⟨b, 4, none⟩ (.bool neg2b)).setCell ⟨b, 5, none⟩ (.slice A2b l2b.length c2b)) := by
  obtain ⟨s1a, neg1a, A1a, c1a, l1a, s1b, neg1b, A1b, c1b, l1b, h1, h2⟩ := hq
  have hg := set6_grown W b (.int .i64 s2a) (.bool neg2a) (.slice A2a l2a.length c2a) (.int .i64 s2b) (.bool neg2b) (.slice A2b l2b.length c2b)
  exact ⟨⟨_, _, _, _, _, _, _, _, _, _, set6_block h1, ⟨hv.n.upto h1 (noWord6 _ _ _ _ _ _ _ _ _ _) hg, hv.d.upto h1 (noWord6 _ _ _ _ _ _ _ _ _ _) hg⟩⟩, hb.grown hg hBW (fun k hk => by injection hk with hk; omega)⟩
set_option maxRecDepth 100000 in
set_option maxHeartbeats 16000000 in
theorem rwhole_any (n : Int) (w : World) (b1 : -9223372036854775808 ≤ n) (b2 : n ≤ 9223372036854775807) :
    Calls Tryz.prog 70 #[.int .i64 n] w fun e w' => PairR w (Rat.divInt n 1).num ((Rat.divInt n 1).den : Int) e w' := by
  have hN := hide (fun W => newInt_any n b1 b2 W)
  have hO := hide (fun W => newInt_any 1 (by omega) (by omega) W)
  rw [(Wd.one_parts n).1, (Wd.one_parts n).2]
  clear b1 b2
  go_enter Tryz.func70, Tryz.ntmps70
  go_wp2_with fail
  obtain ⟨n0, hsz, hw0⟩ := one_new w (.cells #[.int .i64 0, .bool false, .slice none 0 0, .int .i64 0, .bool false, .slice none 0 0] 63)
  generalize w.alloc (.cells #[.int .i64 0, .bool false, .slice none 0 0, .int .i64 0, .bool false, .slice none 0 0] 63) = W0 at *
  have r0 : W0.cell? ⟨w.heap.size, 0, none⟩ = some (.int .i64 0) := cells_of n0 0
  have f0 := unfrozen_of n0 0
  have r1 : W0.cell? ⟨w.heap.size, 1, none⟩ = some (.bool false) := cells_of n0 1
  have f1 := unfrozen_of n0 1
  have r2 : W0.cell? ⟨w.heap.size, 2, none⟩ = some (.slice none 0 0) := cells_of n0 2
  have f2 := unfrozen_of n0 2
  have r3 : W0.cell? ⟨w.heap.size, 3, none⟩ = some (.int .i64 0) := cells_of n0 3
  have f3 := unfrozen_of n0 3
  have r4 : W0.cell? ⟨w.heap.size, 4, none⟩ = some (.bool false) := cells_of n0 4
  have f4 := unfrozen_of n0 4
  have r5 : W0.cell? ⟨w.heap.size, 5, none⟩ = some (.slice none 0 0) := cells_of n0 5
  have f5 := unfrozen_of n0 5
  have q0 := lt_of_block n0
  have NR := Lib.hid n0
  clear n0 hsz
  refine ((unhide hN) _).mono ?_
  rintro e W1 ⟨s1a, neg1a, A1a, c1a, l1a, rfl, g1, hb⟩
  have G1 := hide g1; have HB := hide hb
  clear g1 hb
  go_wp2_with fail
  refine ((unhide hO) _).mono ?_
  rintro e w' ⟨s1b, neg1b, A1b, c1b, l1b, rfl, g2, hb2⟩
  have G1' := hide ((unhide G1).below hb2)
  have hb := below_step' (unhide HB) hb2
  obtain ⟨hc, hfz⟩ := bcell hb
  have hblk := (hb.block _ q0).trans NR.out
  have HBLK := Lib.hid hblk
  have hb9 := below_step' hw0 hb
  have HB9 := hide hb9
  have G2 := hide g2
  clear g2 hb hb2 hb9 hblk
  go_wp2_with fail
  exact bodyPost_ret (v := (Value.agg #[.int .i64 s1a, .bool neg1a, .slice A1a l1a.length c1a, .int .i64 s1b, .bool neg1b, .slice A1b l1b.length c1b])) (by simp [results, Tryz.results70, go_sem, hc, r0, r1, r2, r3, r4, r5, q0]) rfl
    ⟨s1a, neg1a, A1a, c1a, l1a, s1b, neg1b, A1b, c1b, l1b, rfl, (unhide G1').upto HBLK.out (noWord6 _ _ _ _ _ _ _ _ _ _) (set6_grown _ _ _ _ _ _ _ _), (unhide G2).upto HBLK.out (noWord6 _ _ _ _ _ _ _ _ _ _) (set6_grown _ _ _ _ _ _ _ _), (unhide HB9).grown (set6_grown _ _ _ _ _ _ _ _) (unhide HB9).size (fun k hk => by injection hk with hk; omega)⟩

end Go.Proofs.YtmahhmdodfimbaaGreatDoor
/- Slices of ints that came in. -/
namespace Go.Proofs.YtmahhmdodfimbaaGreatDoor
open Go.RowKit

/-- The ints of a slice that came in. -/
def gi (l : List Int) (i : Nat) : Int := l.getD i 0
theorem gi_def (l : List Int) (i : Nat) : gi l i = l.getD i 0 := rfl
def Zs (w : World) (B : Nat) (A : Option Addr) (l : List Int) : Prop := 0 < l.length → ∃ b off, A = some ⟨b, off, none⟩ ∧ b < B ∧ ∀ j, j < l.length → w.cell? ⟨b, off + j, none⟩ = some (.int .i64 (gi l j))
theorem Zs.below {w w' : World} {A : Option Addr} {l : List Int} (h : Zs w w.heap.size A l) (hb : Below w.heap.size w w') : Zs w' w'.heap.size A l := fun hl => by
  obtain ⟨b, off, rfl, h1, h2⟩ := h hl
  exact ⟨b, off, rfl, Nat.lt_of_lt_of_le h1 hb.size, fun j hj => (hb.cell (p := ⟨b, off + j, none⟩) h1).trans (h2 j hj)⟩

end Go.Proofs.YtmahhmdodfimbaaGreatDoor
/- The program: whether a list is a continued fraction. -/
namespace Go.Proofs.YtmahhmdodfimbaaGreatDoor
open Go.RowKit

set_option maxRecDepth 100000 in
set_option maxHeartbeats 16000000 in
theorem isfrac_any (A : Option Addr) (cap : Nat) (l : List Int) (w : World) (h : Zs w w.heap.size A l) (hc : l.length ≤ cap) (hm : cap ≤ 9223372036854775807) :
    Calls Tryz.prog 81 #[.slice A l.length cap] w fun e w' => e = .returned (.bool (decide (Wd.JoinOk l))) ∧ Below w.heap.size w w' := by
  by_cases h0 : l.length = 0
  · have hd : decide (Wd.JoinOk l) = false := decide_eq_false (fun hj => by have := hj.1; omega)
    rw [hd]
    have b0 : ((l.length : Int) == 0) = true := by rw [h0]; rfl
    clear hd h
    go_enter Tryz.func81, Tryz.ntmps81
    go_wp2
    all_goals first | go_ret | skip
    all_goals exact ⟨rfl, Below.refl _ _⟩
  · have b0 : ((l.length : Int) == 0) = false := beq_eq_false_iff_ne.2 (by omega)
    obtain ⟨o, ho⟩ : ∃ o, o = decide (Wd.JoinOk l) := ⟨_, rfl⟩
    have hno : ∀ i, i < l.length → 1 ≤ i → gi l i < 1 → o = false := fun i h1 h2 h3 => by
      rw [ho]; exact decide_eq_false (fun hj => by have := hj.2.1 i h1 h2; rw [← gi_def] at this; omega)
    have hlast : (∀ i, i < l.length → 1 ≤ i → 1 ≤ gi l i) → (l.length = 1 → o = true) ∧ (l.length ≠ 1 → o = !(gi l (l.length - 1) == 1)) := fun h1 => by
      constructor
      · intro h2; rw [ho]; exact decide_eq_true ⟨by omega, h1, .inl h2⟩
      · intro h2
        by_cases h3 : gi l (l.length - 1) = 1
        · rw [h3, ho]; exact decide_eq_false (fun hj => by rcases hj.2.2 with h4 | h4; exact h2 h4; exact h4 h3)
        · rw [ho, beq_eq_false_iff_ne.2 h3]; exact decide_eq_true ⟨by omega, h1, .inr h3⟩
    rw [← ho]
    have HNO := hide hno; have HLAST := hide hlast
    clear ho hno hlast
    obtain ⟨b, off, rfl, hbb, hcell⟩ := h (by omega)
    by_cases h1 : l.length = 1
    · have b1 : ((l.length : Int) == 1) = true := by rw [h1]; rfl
      have e1 : IntKind.i64.wrap ((l.length : Int) - 1) = ((l.length - 1 : Nat) : Int) := by rw [h1]; rfl
      have hres := ((unhide HLAST) (fun i h2 h3 => by omega)).1 h1
      subst hres
      clear HNO HLAST hcell
      by_cases z1 : cap = 1
      · subst z1
        go_enter Tryz.func81, Tryz.ntmps81
        go_wp2_with fail
        go_loopw [11] (fun iv wr => ∃ i : Nat, i ≤ 0 ∧ iv = .int .i64 ((i : Nat) : Int) ∧ Hid (Below w.heap.size w wr)) (fun iv _ => 0 - (intOf iv).toNat)
        case atStart => exact ⟨0, Nat.le_refl _, rfl, by first | exact Below.refl _ _ | exact (Below.refl _ _).drew⟩
        case round =>
          obtain ⟨i, hi, rfl, hb⟩ := hrel
          obtain rfl : i = 0 := by omega
          go_wp2
          all_goals first | go_ret | skip
          all_goals exact ⟨rfl, hb.out⟩
      · have z2 : ((cap : Int) == 1) = false := beq_eq_false_iff_ne.2 (by omega)
        go_enter Tryz.func81, Tryz.ntmps81
        go_wp2_with fail
        go_loopw [11] (fun iv wr => ∃ i : Nat, i ≤ 0 ∧ iv = .int .i64 ((i : Nat) : Int) ∧ Hid (Below w.heap.size w wr)) (fun iv _ => 0 - (intOf iv).toNat)
        case atStart => exact ⟨0, Nat.le_refl _, rfl, by first | exact Below.refl _ _ | exact (Below.refl _ _).drew⟩
        case round =>
          obtain ⟨i, hi, rfl, hb⟩ := hrel
          obtain rfl : i = 0 := by omega
          go_wp2
          all_goals first | go_ret | skip
          all_goals exact ⟨rfl, hb.out⟩
    · have b1 : ((l.length : Int) == 1) = false := beq_eq_false_iff_ne.2 (by omega)
      have z1 : ¬ cap = 1 := by omega
      have z2 : ((cap : Int) == 1) = false := beq_eq_false_iff_ne.2 (by omega)
      obtain ⟨m, hm1⟩ : ∃ m, l.length = m + 1 := ⟨l.length - 1, by omega⟩
      rw [hm1] at h0 h1 hc b0 b1 hcell HNO HLAST ⊢
      have e2 : IntKind.i64.wrap (((m + 1 : Nat) : Int) - 1) = (m : Int) := by
        rw [show ((m + 1 : Nat) : Int) - 1 = (m : Int) by omega]; exact IntWalk.i64_in _ (by omega)
      have e3 : wrap64 (((m + 1 : Nat) : Int) - 1) = (m : Int) := by
        rw [show ((m + 1 : Nat) : Int) - 1 = (m : Int) by omega]; exact IntWalk.wrap64_in _ (by omega)
      have e4 : ((m + 1 : Nat) : Int) - 1 = (m : Int) := by omega
      have hlst := hcell m (by omega)
      go_enter Tryz.func81, Tryz.ntmps81
      go_wp2_with fail
      go_loopw [11] (fun iv wr => ∃ i : Nat, i ≤ m ∧ iv = .int .i64 ((i : Nat) : Int) ∧ Hid (∀ j, j < i + 1 → 1 ≤ j → 1 ≤ gi l j) ∧ Hid (Below w.heap.size w wr)) (fun iv _ => m - (intOf iv).toNat)
      case atStart => exact ⟨0, Nat.zero_le _, rfl, fun j h2 h3 => by omega, by first | exact Below.refl _ _ | exact (Below.refl _ _).drew⟩
      case round =>
        obtain ⟨i, hi, rfl, hall, hb⟩ := hrel
        have hl1 := (hb.out.cell (p := ⟨b, off + m, none⟩) hbb).trans hlst
        by_cases hlt : i < m
        · have hci := (hb.out.cell (p := ⟨b, off + (i + 1), none⟩) hbb).trans (hcell (i + 1) (by omega))
          have hci' : wr.cell? ⟨b, off + 1 + i, none⟩ = some (.int .i64 (gi l (i + 1))) := by rw [show off + 1 + i = off + (i + 1) by omega]; exact hci
          obtain ⟨v, hv⟩ : ∃ v, v = gi l (i + 1) := ⟨_, rfl⟩
          rw [← hv] at hci hci'
          by_cases hv1 : v < 1
          · have d1 : decide (v < 1) = true := decide_eq_true hv1
            have ho := (unhide HNO) (i + 1) (by omega) (by omega) (by omega)
            subst ho
            clear hv hv1 HNO HLAST hall
            go_wp2
            all_goals first | go_ret | skip
            all_goals exact ⟨rfl, hb.out⟩
          · have d1 : decide (v < 1) = false := decide_eq_false hv1
            have hn : Hid (∀ j, j < i + 1 + 1 → 1 ≤ j → 1 ≤ gi l j) := fun j h2 h3 => by
              by_cases h4 : j = i + 1
              · subst h4; omega
              · exact hall.out j (by omega) h3
            clear hv hv1 HNO HLAST hall
            go_wp2
            go_roundw
            case rel => exact ⟨i + 1, by omega, by go_num, hn, hb⟩
            case measure => simp [intOf] <;> omega
        · obtain rfl : i = m := by omega
          have hres := ((unhide HLAST) hall.out).2 (by omega)
          rw [show i + 1 - 1 = i by omega] at hres
          have b2 : ((i : Int) + 1 == 1) = false := beq_eq_false_iff_ne.2 (by omega)
          obtain ⟨v, hv⟩ : ∃ v, v = gi l i := ⟨_, rfl⟩
          rw [← hv] at hl1 hres
          subst hres
          clear hv HNO HLAST hall hcell hlst
          go_wp2
          all_goals first | go_ret | skip
          all_goals exact ⟨rfl, hb.out⟩

end Go.Proofs.YtmahhmdodfimbaaGreatDoor
