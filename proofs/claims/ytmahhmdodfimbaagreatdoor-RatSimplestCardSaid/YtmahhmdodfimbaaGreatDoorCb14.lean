/- Part 14 of the texts beneath a law of layer 1: RfSc, RfSd, RfSi, RfRatv, RfToldv, ArOk, RfStT, Frame. -/
import Derived.Test.YtmahhmdodfimbaaGreatDoorCb13
import Derived.Test.YtmahhmdodfimbaaGreatDoorRows
import Derived.ProofKit
import Derived.OpenShut
import Derived.LaidMore
import Derived.Lay
import Derived.Lib.SmallJoins
import Derived.Stop.Joined
/- The reference's walk to the simplest number between two: both are below nought. -/
namespace Go.Proofs.YtmahhmdodfimbaaGreatDoor
open Go.RowKit

set_option maxRecDepth 100000 in
set_option maxHeartbeats 16000000 in
theorem simp_neg (A1 : Option Addr) (c1 : Nat) (l1 : List Nat) (m1 : Bool) (A2 : Option Addr) (c2 : Nat) (l2 : List Nat) (m2 : Bool) (A3 : Option Addr) (c3 : Nat) (l3 : List Nat) (m3 : Bool) (A4 : Option Addr) (c4 : Nat) (l4 : List Nat) (m4 : Bool) (p1 p2 r res : Rat) (w : World)
    (hsx : ∀ W, Below w.heap.size w W → Calls Tryz.prog 116 #[(Value.agg #[.slice A1 l1.length c1, .bool m1, .slice A2 l2.length c2, .bool m2])] W fun e w' => e = .returned (.int .i64 (-1)) ∧ Below W.heap.size W w')
    (hsy : ∀ W, Below w.heap.size w W → Calls Tryz.prog 116 #[(Value.agg #[.slice A3 l3.length c3, .bool m3, .slice A4 l4.length c4, .bool m4])] W fun e w' => e = .returned (.int .i64 (-1)) ∧ Below W.heap.size W w')
    (hn1 : ∀ W, Below w.heap.size w W → Calls Tryz.prog 99 #[(Value.agg #[.slice A3 l3.length c3, .bool m3, .slice A4 l4.length c4, .bool m4])] W fun e w' => QR W p1 e w')
    (hn2 : ∀ W, Below w.heap.size w W → Calls Tryz.prog 99 #[(Value.agg #[.slice A1 l1.length c1, .bool m1, .slice A2 l2.length c2, .bool m2])] W fun e w' => QR W p2 e w')
    (hr : ∀ (A7 : Option Addr) (c7 : Nat) (l7 : List Nat) (m7 : Bool) (A8 : Option Addr) (c8 : Nat) (l8 : List Nat) (m8 : Bool) (A9 : Option Addr) (c9 : Nat) (l9 : List Nat) (m9 : Bool) (A10 : Option Addr) (c10 : Nat) (l10 : List Nat) (m10 : Bool) (W : World), Below w.heap.size w W → WholeF W A7 c7 l7 m7 p1.num → WholeF W A8 c8 l8 m8 (p1.den : Int) → WholeF W A9 c9 l9 m9 p2.num → WholeF W A10 c10 l10 m10 (p2.den : Int) → Calls Tryz.prog 79 #[(Value.agg #[.slice A7 l7.length c7, .bool m7, .slice A8 l8.length c8, .bool m8]), (Value.agg #[.slice A9 l9.length c9, .bool m9, .slice A10 l10.length c10, .bool m10])] W fun e w' => QR W r e w')
    (hn3 : ∀ (A7 : Option Addr) (c7 : Nat) (l7 : List Nat) (m7 : Bool) (A8 : Option Addr) (c8 : Nat) (l8 : List Nat) (m8 : Bool) (W : World), Below w.heap.size w W → WholeF W A7 c7 l7 m7 r.num → WholeF W A8 c8 l8 m8 (r.den : Int) → Calls Tryz.prog 99 #[(Value.agg #[.slice A7 l7.length c7, .bool m7, .slice A8 l8.length c8, .bool m8])] W fun e w' => QR W res e w') :
    Calls Tryz.prog 79 #[(Value.agg #[.slice A1 l1.length c1, .bool m1, .slice A2 l2.length c2, .bool m2]), (Value.agg #[.slice A3 l3.length c3, .bool m3, .slice A4 l4.length c4, .bool m4])] w fun e w' => QR w res e w' := by
  have HSX := hide hsx
  have HSY := hide hsy
  have HN1 := hide hn1
  have HN2 := hide hn2
  have HR := hide hr
  have HN3 := hide hn3
  clear hsx hsy hn1 hn2 hr hn3
  go_enter Tryz.func79, Tryz.ntmps79
  go_upto_region 1 with fail
  obtain ⟨n0, n1, n2, hsz, hw0⟩ := three_new w (.cells #[.slice A1 l1.length c1, .bool m1, .slice A2 l2.length c2, .bool m2] 52) (.cells #[.slice A3 l3.length c3, .bool m3, .slice A4 l4.length c4, .bool m4] 52) (.cells #[.slice none 0 0, .bool false, .slice none 0 0, .bool false] 52)
  generalize (((w.alloc (.cells #[.slice A1 l1.length c1, .bool m1, .slice A2 l2.length c2, .bool m2] 52)).alloc (.cells #[.slice A3 l3.length c3, .bool m3, .slice A4 l4.length c4, .bool m4] 52)).alloc (.cells #[.slice none 0 0, .bool false, .slice none 0 0, .bool false] 52)) = W0 at *
  have k0_0 : W0.cell? ⟨w.heap.size, 0, none⟩ = some (.slice A1 l1.length c1) := cells_of n0 0
  have k0_1 : W0.cell? ⟨w.heap.size, 1, none⟩ = some (.bool m1) := cells_of n0 1
  have k0_2 : W0.cell? ⟨w.heap.size, 2, none⟩ = some (.slice A2 l2.length c2) := cells_of n0 2
  have k0_3 : W0.cell? ⟨w.heap.size, 3, none⟩ = some (.bool m2) := cells_of n0 3
  have q0 : w.heap.size < W0.heap.size := by omega
  have k1_0 : W0.cell? ⟨w.heap.size + 1, 0, none⟩ = some (.slice A3 l3.length c3) := cells_of n1 0
  have k1_1 : W0.cell? ⟨w.heap.size + 1, 1, none⟩ = some (.bool m3) := cells_of n1 1
  have k1_2 : W0.cell? ⟨w.heap.size + 1, 2, none⟩ = some (.slice A4 l4.length c4) := cells_of n1 2
  have k1_3 : W0.cell? ⟨w.heap.size + 1, 3, none⟩ = some (.bool m4) := cells_of n1 3
  have q1 : w.heap.size + 1 < W0.heap.size := by omega
  have k2_0 : W0.cell? ⟨w.heap.size + 1 + 1, 0, none⟩ = some (.slice none 0 0) := cells_of n2 0
  have k2_1 : W0.cell? ⟨w.heap.size + 1 + 1, 1, none⟩ = some (.bool false) := cells_of n2 1
  have k2_2 : W0.cell? ⟨w.heap.size + 1 + 1, 2, none⟩ = some (.slice none 0 0) := cells_of n2 2
  have k2_3 : W0.cell? ⟨w.heap.size + 1 + 1, 3, none⟩ = some (.bool false) := cells_of n2 3
  have q2 : w.heap.size + 1 + 1 < W0.heap.size := by omega
  have f2_0 := unfrozen_of n2 0
  have f2_1 := unfrozen_of n2 1
  have f2_2 := unfrozen_of n2 2
  have f2_3 := unfrozen_of n2 3
  have NR := Lib.hid n2
  clear hsz n0 n1 n2
  go_wp2_with fail
  refine ((unhide HSX) _ hw0).mono ?_
  rintro e V1 ⟨rfl, hbx⟩
  obtain ⟨hc, hfz⟩ := bcell hbx
  replace k0_0 := (hc _ _ q0).trans k0_0
  replace k0_1 := (hc _ _ q0).trans k0_1
  replace k0_2 := (hc _ _ q0).trans k0_2
  replace k0_3 := (hc _ _ q0).trans k0_3
  replace q0 := Nat.lt_of_lt_of_le q0 hbx.size
  replace k1_0 := (hc _ _ q1).trans k1_0
  replace k1_1 := (hc _ _ q1).trans k1_1
  replace k1_2 := (hc _ _ q1).trans k1_2
  replace k1_3 := (hc _ _ q1).trans k1_3
  replace q1 := Nat.lt_of_lt_of_le q1 hbx.size
  replace k2_0 := (hc _ _ q2).trans k2_0
  replace f2_0 := (hfz _ _ q2).trans f2_0
  replace k2_1 := (hc _ _ q2).trans k2_1
  replace f2_1 := (hfz _ _ q2).trans f2_1
  replace k2_2 := (hc _ _ q2).trans k2_2
  replace f2_2 := (hfz _ _ q2).trans f2_2
  replace k2_3 := (hc _ _ q2).trans k2_3
  replace f2_3 := (hfz _ _ q2).trans f2_3
  replace NR := Lib.hid ((hbx.block _ q2).trans NR.out)
  replace q2 := Nat.lt_of_lt_of_le q2 hbx.size
  replace hw0 := below_step' hw0 hbx
  clear hbx hc hfz
  go_wp2_with fail
  refine ((unhide HSY) _ hw0).mono ?_
  rintro e V2 ⟨rfl, hbx⟩
  obtain ⟨hc, hfz⟩ := bcell hbx
  replace k0_0 := (hc _ _ q0).trans k0_0
  replace k0_1 := (hc _ _ q0).trans k0_1
  replace k0_2 := (hc _ _ q0).trans k0_2
  replace k0_3 := (hc _ _ q0).trans k0_3
  replace q0 := Nat.lt_of_lt_of_le q0 hbx.size
  replace k1_0 := (hc _ _ q1).trans k1_0
  replace k1_1 := (hc _ _ q1).trans k1_1
  replace k1_2 := (hc _ _ q1).trans k1_2
  replace k1_3 := (hc _ _ q1).trans k1_3
  replace q1 := Nat.lt_of_lt_of_le q1 hbx.size
  replace k2_0 := (hc _ _ q2).trans k2_0
  replace f2_0 := (hfz _ _ q2).trans f2_0
  replace k2_1 := (hc _ _ q2).trans k2_1
  replace f2_1 := (hfz _ _ q2).trans f2_1
  replace k2_2 := (hc _ _ q2).trans k2_2
  replace f2_2 := (hfz _ _ q2).trans f2_2
  replace k2_3 := (hc _ _ q2).trans k2_3
  replace f2_3 := (hfz _ _ q2).trans f2_3
  replace NR := Lib.hid ((hbx.block _ q2).trans NR.out)
  replace q2 := Nat.lt_of_lt_of_le q2 hbx.size
  replace hw0 := below_step' hw0 hbx
  clear hbx hc hfz
  go_wp2_with fail
  refine ((unhide HSY) _ hw0).mono ?_
  rintro e V3 ⟨rfl, hbx⟩
  obtain ⟨hc, hfz⟩ := bcell hbx
  replace k0_0 := (hc _ _ q0).trans k0_0
  replace k0_1 := (hc _ _ q0).trans k0_1
  replace k0_2 := (hc _ _ q0).trans k0_2
  replace k0_3 := (hc _ _ q0).trans k0_3
  replace q0 := Nat.lt_of_lt_of_le q0 hbx.size
  replace k1_0 := (hc _ _ q1).trans k1_0
  replace k1_1 := (hc _ _ q1).trans k1_1
  replace k1_2 := (hc _ _ q1).trans k1_2
  replace k1_3 := (hc _ _ q1).trans k1_3
  replace q1 := Nat.lt_of_lt_of_le q1 hbx.size
  replace k2_0 := (hc _ _ q2).trans k2_0
  replace f2_0 := (hfz _ _ q2).trans f2_0
  replace k2_1 := (hc _ _ q2).trans k2_1
  replace f2_1 := (hfz _ _ q2).trans f2_1
  replace k2_2 := (hc _ _ q2).trans k2_2
  replace f2_2 := (hfz _ _ q2).trans f2_2
  replace k2_3 := (hc _ _ q2).trans k2_3
  replace f2_3 := (hfz _ _ q2).trans f2_3
  replace NR := Lib.hid ((hbx.block _ q2).trans NR.out)
  replace q2 := Nat.lt_of_lt_of_le q2 hbx.size
  replace hw0 := below_step' hw0 hbx
  clear hbx hc hfz
  go_upto_region 4 with fail
  have KEEP := hide (show ∀ X, Below V3.heap.size V3 X → X.cell? ⟨w.heap.size, 0, none⟩ = some (.slice A1 l1.length c1) ∧ X.cell? ⟨w.heap.size, 1, none⟩ = some (.bool m1) ∧ X.cell? ⟨w.heap.size, 2, none⟩ = some (.slice A2 l2.length c2) ∧ X.cell? ⟨w.heap.size, 3, none⟩ = some (.bool m2) ∧ X.cell? ⟨w.heap.size + 1, 0, none⟩ = some (.slice A3 l3.length c3) ∧ X.cell? ⟨w.heap.size + 1, 1, none⟩ = some (.bool m3) ∧ X.cell? ⟨w.heap.size + 1, 2, none⟩ = some (.slice A4 l4.length c4) ∧ X.cell? ⟨w.heap.size + 1, 3, none⟩ = some (.bool m4) from fun X hB => ⟨keep_cell hB q0 k0_0, keep_cell hB q0 k0_1, keep_cell hB q0 k0_2, keep_cell hB q0 k0_3, keep_cell hB q1 k1_0, keep_cell hB q1 k1_1, keep_cell hB q1 k1_2, keep_cell hB q1 k1_3⟩)
  go_region_held3 (fun w' => w'.cell? ⟨w.heap.size, 0, none⟩ = some (.slice A1 l1.length c1) ∧ w'.cell? ⟨w.heap.size, 1, none⟩ = some (.bool m1) ∧ w'.cell? ⟨w.heap.size, 2, none⟩ = some (.slice A2 l2.length c2) ∧ w'.cell? ⟨w.heap.size, 3, none⟩ = some (.bool m2) ∧ w'.cell? ⟨w.heap.size + 1, 0, none⟩ = some (.slice A3 l3.length c3) ∧ w'.cell? ⟨w.heap.size + 1, 1, none⟩ = some (.bool m3) ∧ w'.cell? ⟨w.heap.size + 1, 2, none⟩ = some (.slice A4 l4.length c4) ∧ w'.cell? ⟨w.heap.size + 1, 3, none⟩ = some (.bool m4)) (first | with_reducible exact ⟨(cell_set4 _ _ _ _ _ _ (by omega)).trans (keep_cell hbw q0 k0_0), (cell_set4 _ _ _ _ _ _ (by omega)).trans (keep_cell hbw q0 k0_1), (cell_set4 _ _ _ _ _ _ (by omega)).trans (keep_cell hbw q0 k0_2), (cell_set4 _ _ _ _ _ _ (by omega)).trans (keep_cell hbw q0 k0_3), (cell_set4 _ _ _ _ _ _ (by omega)).trans (keep_cell hbw q1 k1_0), (cell_set4 _ _ _ _ _ _ (by omega)).trans (keep_cell hbw q1 k1_1), (cell_set4 _ _ _ _ _ _ (by omega)).trans (keep_cell hbw q1 k1_2), (cell_set4 _ _ _ _ _ _ (by omega)).trans (keep_cell hbw q1 k1_3)⟩ | with_reducible exact (unhide KEEP) _ (by (repeat (first | with_reducible exact Below.refl _ _ | with_reducible assumption | with_reducible refine Below.drew ?_ | with_reducible refine below_alloc ?_ _)))) (first | (go_at_call_of 99 (Value.agg #[.slice A3 l3.length c3, .bool m3, .slice A4 l4.length c4, .bool m4]); refine ((unhide HN1) _ (below_step' hw0 (by (repeat (first | with_reducible exact Below.refl _ _ | with_reducible assumption | with_reducible refine Below.drew ?_ | with_reducible refine below_alloc ?_ _))))).mono ?_; rintro e w' ⟨A5, c5, l5, m5, A6, c6, l6, m6, rfl, hf5, hf6, hb5⟩; have hbw := below_step (w := V3) (by (repeat (first | with_reducible exact Below.refl _ _ | with_reducible assumption | with_reducible refine Below.drew ?_ | with_reducible refine below_alloc ?_ _))) hb5; have hsw := hbw.size; obtain ⟨hc, hfz⟩ := bcell hbw) | (go_at_call_of 99 (Value.agg #[.slice A1 l1.length c1, .bool m1, .slice A2 l2.length c2, .bool m2]); refine ((unhide HN2) _ (below_step' hw0 (by (repeat (first | with_reducible exact Below.refl _ _ | with_reducible assumption | with_reducible refine Below.drew ?_ | with_reducible refine below_alloc ?_ _))))).mono ?_; rintro e w' ⟨A7, c7, l7, m7, A8, c8, l8, m8, rfl, hf7, hf8, hb7⟩; have hf5 := WholeF.below (WholeF.below hf5 (by (repeat (first | with_reducible exact Below.refl _ _ | with_reducible assumption | with_reducible refine Below.drew ?_ | with_reducible refine below_alloc ?_ _)))) hb7; have hf6 := WholeF.below (WholeF.below hf6 (by (repeat (first | with_reducible exact Below.refl _ _ | with_reducible assumption | with_reducible refine Below.drew ?_ | with_reducible refine below_alloc ?_ _)))) hb7; have hbw := below_step (w := V3) (by (repeat (first | with_reducible exact Below.refl _ _ | with_reducible assumption | with_reducible refine Below.drew ?_ | with_reducible refine below_alloc ?_ _))) hb7; have hsw := hbw.size; obtain ⟨hc, hfz⟩ := bcell hbw) | (go_at_call_of 79 (Value.agg #[.slice A5 l5.length c5, .bool m5, .slice A6 l6.length c6, .bool m6]); refine ((unhide HR) A5 c5 l5 m5 A6 c6 l6 m6 A7 c7 l7 m7 A8 c8 l8 m8 _ (below_step' hw0 (by (repeat (first | with_reducible exact Below.refl _ _ | with_reducible assumption | with_reducible refine Below.drew ?_ | with_reducible refine below_alloc ?_ _)))) (WholeF.below hf5 (by (repeat (first | with_reducible exact Below.refl _ _ | with_reducible assumption | with_reducible refine Below.drew ?_ | with_reducible refine below_alloc ?_ _)))) (WholeF.below hf6 (by (repeat (first | with_reducible exact Below.refl _ _ | with_reducible assumption | with_reducible refine Below.drew ?_ | with_reducible refine below_alloc ?_ _)))) (WholeF.below hf7 (by (repeat (first | with_reducible exact Below.refl _ _ | with_reducible assumption | with_reducible refine Below.drew ?_ | with_reducible refine below_alloc ?_ _)))) (WholeF.below hf8 (by (repeat (first | with_reducible exact Below.refl _ _ | with_reducible assumption | with_reducible refine Below.drew ?_ | with_reducible refine below_alloc ?_ _))))).mono ?_; rintro e w' ⟨A9, c9, l9, m9, A10, c10, l10, m10, rfl, hf9, hf10, hb9⟩; have hf5 := WholeF.below (WholeF.below hf5 (by (repeat (first | with_reducible exact Below.refl _ _ | with_reducible assumption | with_reducible refine Below.drew ?_ | with_reducible refine below_alloc ?_ _)))) hb9; have hf6 := WholeF.below (WholeF.below hf6 (by (repeat (first | with_reducible exact Below.refl _ _ | with_reducible assumption | with_reducible refine Below.drew ?_ | with_reducible refine below_alloc ?_ _)))) hb9; have hf7 := WholeF.below (WholeF.below hf7 (by (repeat (first | with_reducible exact Below.refl _ _ | with_reducible assumption | with_reducible refine Below.drew ?_ | with_reducible refine below_alloc ?_ _)))) hb9; have hf8 := WholeF.below (WholeF.below hf8 (by (repeat (first | with_reducible exact Below.refl _ _ | with_reducible assumption | with_reducible refine Below.drew ?_ | with_reducible refine below_alloc ?_ _)))) hb9; have hbw := below_step (w := V3) (by (repeat (first | with_reducible exact Below.refl _ _ | with_reducible assumption | with_reducible refine Below.drew ?_ | with_reducible refine below_alloc ?_ _))) hb9; have hsw := hbw.size; obtain ⟨hc, hfz⟩ := bcell hbw) | (go_at_call_of 99 (Value.agg #[.slice A9 l9.length c9, .bool m9, .slice A10 l10.length c10, .bool m10]); refine ((unhide HN3) A9 c9 l9 m9 A10 c10 l10 m10 _ (below_step' hw0 (by (repeat (first | with_reducible exact Below.refl _ _ | with_reducible assumption | with_reducible refine Below.drew ?_ | with_reducible refine below_alloc ?_ _)))) (WholeF.below hf9 (by (repeat (first | with_reducible exact Below.refl _ _ | with_reducible assumption | with_reducible refine Below.drew ?_ | with_reducible refine below_alloc ?_ _)))) (WholeF.below hf10 (by (repeat (first | with_reducible exact Below.refl _ _ | with_reducible assumption | with_reducible refine Below.drew ?_ | with_reducible refine below_alloc ?_ _))))).mono ?_; rintro e w' ⟨A11, c11, l11, m11, A12, c12, l12, m12, rfl, hf11, hf12, hb11⟩; have hf5 := WholeF.below (WholeF.below hf5 (by (repeat (first | with_reducible exact Below.refl _ _ | with_reducible assumption | with_reducible refine Below.drew ?_ | with_reducible refine below_alloc ?_ _)))) hb11; have hf6 := WholeF.below (WholeF.below hf6 (by (repeat (first | with_reducible exact Below.refl _ _ | with_reducible assumption | with_reducible refine Below.drew ?_ | with_reducible refine below_alloc ?_ _)))) hb11; have hf7 := WholeF.below (WholeF.below hf7 (by (repeat (first | with_reducible exact Below.refl _ _ | with_reducible assumption | with_reducible refine Below.drew ?_ | with_reducible refine below_alloc ?_ _)))) hb11; have hf8 := WholeF.below (WholeF.below hf8 (by (repeat (first | with_reducible exact Below.refl _ _ | with_reducible assumption | with_reducible refine Below.drew ?_ | with_reducible refine below_alloc ?_ _)))) hb11; have hf9 := WholeF.below (WholeF.below hf9 (by (repeat (first | with_reducible exact Below.refl _ _ | with_reducible assumption | with_reducible refine Below.drew ?_ | with_reducible refine below_alloc ?_ _)))) hb11; have hf10 := WholeF.below (WholeF.below hf10 (by (repeat (first | with_reducible exact Below.refl _ _ | with_reducible assumption | with_reducible refine Below.drew ?_ | with_reducible refine below_alloc ?_ _)))) hb11; have hbw := below_step (w := V3) (by (repeat (first | with_reducible exact Below.refl _ _ | with_reducible assumption | with_reducible refine Below.drew ?_ | with_reducible refine below_alloc ?_ _))) hb11; have hsw := hbw.size; obtain ⟨hc, hfz⟩ := bcell hbw))
  all_goals
    have hblk : w'.heap[w.heap.size + 1 + 1]? = some (.cells #[.slice none 0 0, .bool false, .slice none 0 0, .bool false] 52 (0, 0)) := (hbw.block _ q2).trans NR.out
    have HBLK := Lib.hid hblk
    have hb9 : Below w.heap.size w w' := below_step' hw0 hbw
    have hfi := (hf11)
    have hfj := (hf12)
    clear hblk
    go_wp2_with fail
    exact bodyPost_ret (v := (Value.agg #[.slice A11 l11.length c11, .bool m11, .slice A12 l12.length c12, .bool m12])) (by simp [results, Tryz.results79, go_sem, hc, k2_0, k2_1, k2_2, k2_3, q2]) rfl
      ⟨A11, c11, l11, m11, A12, c12, l12, m12, rfl, hfi.upto HBLK.out (noW2_4 _ _ _ _ _ _ _ _) (set4_grown _ _ _ _ _ _), hfj.upto HBLK.out (noW2_4 _ _ _ _ _ _ _ _) (set4_grown _ _ _ _ _ _), hb9.grown (set4_grown _ _ _ _ _ _) hb9.size (fun k hk => by injection hk with hk; omega)⟩

end Go.Proofs.YtmahhmdodfimbaaGreatDoor
/- The reference's walk to the simplest number between two: nought is between them. -/
namespace Go.Proofs.YtmahhmdodfimbaaGreatDoor
open Go.RowKit

set_option maxRecDepth 100000 in
set_option maxHeartbeats 16000000 in
theorem simp_nought (A1 : Option Addr) (c1 : Nat) (l1 : List Nat) (m1 : Bool) (A2 : Option Addr) (c2 : Nat) (l2 : List Nat) (m2 : Bool) (A3 : Option Addr) (c3 : Nat) (l3 : List Nat) (m3 : Bool) (A4 : Option Addr) (c4 : Nat) (l4 : List Nat) (m4 : Bool) (sx sy : Int) (w : World)
    (hsx : ∀ W, Below w.heap.size w W → Calls Tryz.prog 116 #[(Value.agg #[.slice A1 l1.length c1, .bool m1, .slice A2 l2.length c2, .bool m2])] W fun e w' => e = .returned (.int .i64 (sx)) ∧ Below W.heap.size W w')
    (hsy : ∀ W, Below w.heap.size w W → Calls Tryz.prog 116 #[(Value.agg #[.slice A3 l3.length c3, .bool m3, .slice A4 l4.length c4, .bool m4])] W fun e w' => e = .returned (.int .i64 (sy)) ∧ Below W.heap.size W w')
    (h1 : sx ≤ 0)
    (h2 : 0 ≤ sy) :
    Calls Tryz.prog 79 #[(Value.agg #[.slice A1 l1.length c1, .bool m1, .slice A2 l2.length c2, .bool m2]), (Value.agg #[.slice A3 l3.length c3, .bool m3, .slice A4 l4.length c4, .bool m4])] w fun e w' => e = .returned (.agg #[.slice none 0 0, .bool false, .slice none 0 0, .bool false]) ∧ Below w.heap.size w w' := by
  have d1 : decide (sx ≤ 0) = true := decide_eq_true h1
  have d2 : decide (0 ≤ sy) = true := decide_eq_true h2
  clear h1 h2
  have HSX := hide hsx
  have HSY := hide hsy
  clear hsx hsy
  go_enter Tryz.func79, Tryz.ntmps79
  go_upto_region 1 with fail
  obtain ⟨n0, n1, n2, hsz, hw0⟩ := three_new w (.cells #[.slice A1 l1.length c1, .bool m1, .slice A2 l2.length c2, .bool m2] 52) (.cells #[.slice A3 l3.length c3, .bool m3, .slice A4 l4.length c4, .bool m4] 52) (.cells #[.slice none 0 0, .bool false, .slice none 0 0, .bool false] 52)
  generalize (((w.alloc (.cells #[.slice A1 l1.length c1, .bool m1, .slice A2 l2.length c2, .bool m2] 52)).alloc (.cells #[.slice A3 l3.length c3, .bool m3, .slice A4 l4.length c4, .bool m4] 52)).alloc (.cells #[.slice none 0 0, .bool false, .slice none 0 0, .bool false] 52)) = W0 at *
  have k0_0 : W0.cell? ⟨w.heap.size, 0, none⟩ = some (.slice A1 l1.length c1) := cells_of n0 0
  have k0_1 : W0.cell? ⟨w.heap.size, 1, none⟩ = some (.bool m1) := cells_of n0 1
  have k0_2 : W0.cell? ⟨w.heap.size, 2, none⟩ = some (.slice A2 l2.length c2) := cells_of n0 2
  have k0_3 : W0.cell? ⟨w.heap.size, 3, none⟩ = some (.bool m2) := cells_of n0 3
  have q0 : w.heap.size < W0.heap.size := by omega
  have k1_0 : W0.cell? ⟨w.heap.size + 1, 0, none⟩ = some (.slice A3 l3.length c3) := cells_of n1 0
  have k1_1 : W0.cell? ⟨w.heap.size + 1, 1, none⟩ = some (.bool m3) := cells_of n1 1
  have k1_2 : W0.cell? ⟨w.heap.size + 1, 2, none⟩ = some (.slice A4 l4.length c4) := cells_of n1 2
  have k1_3 : W0.cell? ⟨w.heap.size + 1, 3, none⟩ = some (.bool m4) := cells_of n1 3
  have q1 : w.heap.size + 1 < W0.heap.size := by omega
  have k2_0 : W0.cell? ⟨w.heap.size + 1 + 1, 0, none⟩ = some (.slice none 0 0) := cells_of n2 0
  have k2_1 : W0.cell? ⟨w.heap.size + 1 + 1, 1, none⟩ = some (.bool false) := cells_of n2 1
  have k2_2 : W0.cell? ⟨w.heap.size + 1 + 1, 2, none⟩ = some (.slice none 0 0) := cells_of n2 2
  have k2_3 : W0.cell? ⟨w.heap.size + 1 + 1, 3, none⟩ = some (.bool false) := cells_of n2 3
  have q2 : w.heap.size + 1 + 1 < W0.heap.size := by omega
  have f2_0 := unfrozen_of n2 0
  have f2_1 := unfrozen_of n2 1
  have f2_2 := unfrozen_of n2 2
  have f2_3 := unfrozen_of n2 3
  have NR := Lib.hid n2
  clear hsz n0 n1 n2
  go_wp2_with fail
  refine ((unhide HSX) _ hw0).mono ?_
  rintro e V1 ⟨rfl, hbx⟩
  obtain ⟨hc, hfz⟩ := bcell hbx
  replace k0_0 := (hc _ _ q0).trans k0_0
  replace k0_1 := (hc _ _ q0).trans k0_1
  replace k0_2 := (hc _ _ q0).trans k0_2
  replace k0_3 := (hc _ _ q0).trans k0_3
  replace q0 := Nat.lt_of_lt_of_le q0 hbx.size
  replace k1_0 := (hc _ _ q1).trans k1_0
  replace k1_1 := (hc _ _ q1).trans k1_1
  replace k1_2 := (hc _ _ q1).trans k1_2
  replace k1_3 := (hc _ _ q1).trans k1_3
  replace q1 := Nat.lt_of_lt_of_le q1 hbx.size
  replace k2_0 := (hc _ _ q2).trans k2_0
  replace f2_0 := (hfz _ _ q2).trans f2_0
  replace k2_1 := (hc _ _ q2).trans k2_1
  replace f2_1 := (hfz _ _ q2).trans f2_1
  replace k2_2 := (hc _ _ q2).trans k2_2
  replace f2_2 := (hfz _ _ q2).trans f2_2
  replace k2_3 := (hc _ _ q2).trans k2_3
  replace f2_3 := (hfz _ _ q2).trans f2_3
  replace NR := Lib.hid ((hbx.block _ q2).trans NR.out)
  replace q2 := Nat.lt_of_lt_of_le q2 hbx.size
  replace hw0 := below_step' hw0 hbx
  clear hbx hc hfz
  go_wp2_with fail
  refine ((unhide HSY) _ hw0).mono ?_
  rintro e V2 ⟨rfl, hbx⟩
  obtain ⟨hc, hfz⟩ := bcell hbx
  replace k0_0 := (hc _ _ q0).trans k0_0
  replace k0_1 := (hc _ _ q0).trans k0_1
  replace k0_2 := (hc _ _ q0).trans k0_2
  replace k0_3 := (hc _ _ q0).trans k0_3
  replace q0 := Nat.lt_of_lt_of_le q0 hbx.size
  replace k1_0 := (hc _ _ q1).trans k1_0
  replace k1_1 := (hc _ _ q1).trans k1_1
  replace k1_2 := (hc _ _ q1).trans k1_2
  replace k1_3 := (hc _ _ q1).trans k1_3
  replace q1 := Nat.lt_of_lt_of_le q1 hbx.size
  replace k2_0 := (hc _ _ q2).trans k2_0
  replace f2_0 := (hfz _ _ q2).trans f2_0
  replace k2_1 := (hc _ _ q2).trans k2_1
  replace f2_1 := (hfz _ _ q2).trans f2_1
  replace k2_2 := (hc _ _ q2).trans k2_2
  replace f2_2 := (hfz _ _ q2).trans f2_2
  replace k2_3 := (hc _ _ q2).trans k2_3
  replace f2_3 := (hfz _ _ q2).trans f2_3
  replace NR := Lib.hid ((hbx.block _ q2).trans NR.out)
  replace q2 := Nat.lt_of_lt_of_le q2 hbx.size
  replace hw0 := below_step' hw0 hbx
  clear hbx hc hfz
  go_wp2_with fail
  have HBLK := NR
  exact bodyPost_ret (v := .agg #[.slice none 0 0, .bool false, .slice none 0 0, .bool false]) (by simp [results, Tryz.results79, go_sem, k2_0, k2_1, k2_2, k2_3, q2]) rfl
    ⟨rfl, hw0.grown (set4_grown _ _ _ _ _ _) hw0.size (fun k hk => by injection hk with hk; omega)⟩

end Go.Proofs.YtmahhmdodfimbaaGreatDoor
/- The reference: the simplest number between two numbers above nought. -/
namespace Go.Proofs.YtmahhmdodfimbaaGreatDoor
open Go.RowKit

theorem sgn_pos_ {z : Int} (h : 0 < z) : sgn z = 1 := by
  unfold sgn; rw [if_neg (by omega), if_pos h]
theorem sgn_neg_ {z : Int} (h : z < 0) : sgn z = -1 := by
  unfold sgn; rw [if_pos h]
theorem sgn_le_ (z : Int) : sgn z ≤ 0 ↔ z ≤ 0 := by
  unfold sgn; (repeat' split) <;> omega
theorem szfr {n d : Nat} (hd : 0 < d) (hc : n.Coprime d) (h1 : n ≤ 2000000000000) (h2 : d ≤ 2000000000000) : Wd.SzQ B32 2 (Wd.fr n d) := by
  have h := Wd.fr_parts hd hc
  unfold Wd.SzQ Wd.Sz
  rw [h.1, h.2, B32_eq]
  exact ⟨by omega, by omega⟩
theorem cop_one (n : Nat) : n.Coprime 1 := by simp [Nat.Coprime]
theorem ceil_fr {a b : Nat} (ha : 0 < a) (hb : 0 < b) (hc : a.Coprime b) : -Rat.divInt ((-Wd.fr a b).num / ((-Wd.fr a b).den : Int)) 1 = Wd.fr (if b = 1 then a else a / b + 1) 1 := by
  have h := Wd.fr_parts hb hc
  have e1 : (-Wd.fr a b).num = -(a : Int) := by rw [← h.1]; rfl
  have e2 : ((-Wd.fr a b).den : Int) = (b : Int) := h.2
  rw [e1, e2, Rat.neg_divInt]
  unfold Wd.fr
  congr 1
  by_cases h1 : b = 1
  · subst h1; simp
  · rw [if_neg h1]
    have h3 := (ediv_neg_ (a := -(a : Int)) (b := (b : Int)) (by omega) (by omega)).2
    have e3 : (-(a : Int)).natAbs = a := by omega
    have e4 : ((b : Nat) : Int).natAbs = b := by omega
    rw [e3, e4] at h3
    rw [h3 (fun e => h1 (Nat.Coprime.eq_one_of_dvd hc.symm (Nat.dvd_of_mod_eq_zero e))), Int.neg_neg]
theorem floor_fr {a b : Nat} (hb : 0 < b) (hc : a.Coprime b) : Rat.divInt ((Wd.fr a b).num / ((Wd.fr a b).den : Int)) 1 = Wd.fr (a / b) 1 := by
  have h := Wd.fr_parts hb hc
  rw [h.1, h.2]
  unfold Wd.fr
  congr 1

theorem tsimp_any : ∀ (f : Nat) (A1 : Option Addr) (c1 : Nat) (l1 : List Nat) (m1 : Bool) (A2 : Option Addr) (c2 : Nat) (l2 : List Nat) (m2 : Bool) (A3 : Option Addr) (c3 : Nat) (l3 : List Nat) (m3 : Bool) (A4 : Option Addr) (c4 : Nat) (l4 : List Nat) (m4 : Bool) (a b c d : Nat) (w : World), Wd.SimpOk a b c d → b + d ≤ f → a ≤ 1000000000000 → b ≤ 1000000000000 → c ≤ 1000000000000 → d ≤ 1000000000000 →
    WholeF w A1 c1 l1 m1 (a : Int) → WholeF w A2 c2 l2 m2 (b : Int) → WholeF w A3 c3 l3 m3 (c : Int) → WholeF w A4 c4 l4 m4 (d : Int) →
    Calls Tryz.prog 79 #[(Value.agg #[.slice A1 l1.length c1, .bool m1, .slice A2 l2.length c2, .bool m2]), (Value.agg #[.slice A3 l3.length c3, .bool m3, .slice A4 l4.length c4, .bool m4])] w fun e w' => QR w (Wd.fr (Wd.simp f a b c d).1 (Wd.simp f a b c d).2) e w'
  | 0, A1, c1, l1, m1, A2, c2, l2, m2, A3, c3, l3, m3, A4, c4, l4, m4, a, b, c, d, w, ok, hf, _, _, _, _, _, _, _, _ => by have := ok.pb; omega
  | f + 1, A1, c1, l1, m1, A2, c2, l2, m2, A3, c3, l3, m3, A4, c4, l4, m4, a, b, c, d, w, ok, hf, na, nb, nc, nd, h1, h2, h3, h4 => by
    have pa := ok.pa; have pb := ok.pb; have pc := ok.pc; have pd := ok.pd
    have hx := Wd.fr_parts pb ok.co
    have hy := Wd.fr_parts pd ok.co2
    have hqx : QV w A1 c1 l1 m1 A2 c2 l2 m2 (Wd.fr a b) := QV.of (by rw [hx.1]; exact h1) (by rw [hx.2]; exact h2)
    have hqy : QV w A3 c3 l3 m3 A4 c4 l4 m4 (Wd.fr c d) := QV.of (by rw [hy.1]; exact h3) (by rw [hy.2]; exact h4)
    have sx := szfr pb ok.co (by omega) (by omega)
    have sy := szfr pd ok.co2 (by omega) (by omega)
    have hsx : ∀ W, Below w.heap.size w W → Calls Tryz.prog 116 #[(Value.agg #[.slice A1 l1.length c1, .bool m1, .slice A2 l2.length c2, .bool m2])] W fun e w' => e = .returned (.int .i64 (1)) ∧ Below W.heap.size W w' := fun W hW => by
      have := tqsign_any A1 c1 l1 m1 A2 c2 l2 m2 _ W (hqx.below hW)
      rwa [hx.1, sgn_pos_ (by omega)] at this
    have hsy : ∀ W, Below w.heap.size w W → Calls Tryz.prog 116 #[(Value.agg #[.slice A3 l3.length c3, .bool m3, .slice A4 l4.length c4, .bool m4])] W fun e w' => e = .returned (.int .i64 (1)) ∧ Below W.heap.size W w' := fun W hW => by
      have := tqsign_any A3 c3 l3 m3 A4 c4 l4 m4 _ W (hqy.below hW)
      rwa [hy.1, sgn_pos_ (by omega)] at this
    have hce := fun W (hW : Below w.heap.size w W) => by
      have := tqceil_any 2 A1 c1 l1 m1 A2 c2 l2 m2 _ W (hqx.below hW) sx (by omega)
      rw [ceil_fr pa pb ok.co] at this
      exact this
    obtain ⟨m, hm⟩ : ∃ m, m = if b = 1 then a else a / b + 1 := ⟨_, rfl⟩
    rw [← hm] at hce
    have hdl := Nat.div_le_self a b
    have hmN : m ≤ 2000000000000 := by rw [hm]; split <;> omega
    have hmp := Wd.fr_parts (n := m) Nat.one_pos (cop_one m)
    have hcm : ∀ (A7 : Option Addr) (c7 : Nat) (l7 : List Nat) (m7 : Bool) (A8 : Option Addr) (c8 : Nat) (l8 : List Nat) (m8 : Bool) (W : World), Below w.heap.size w W → WholeF W A7 c7 l7 m7 (Wd.fr m 1).num → WholeF W A8 c8 l8 m8 ((Wd.fr m 1).den : Int) → Calls Tryz.prog 64 #[(Value.agg #[.slice A7 l7.length c7, .bool m7, .slice A8 l8.length c8, .bool m8]), (Value.agg #[.slice A3 l3.length c3, .bool m3, .slice A4 l4.length c4, .bool m4])] W fun e w' => e = .returned (.int .i64 (sgn ((m : Int) * (d : Int) - (c : Int)))) ∧ Below W.heap.size W w' := fun A7 c7 l7 m7 A8 c8 l8 m8 W hW f g => by
      have sm := szfr (n := m) Nat.one_pos (cop_one m) hmN (by omega)
      have := tqcmp_any A7 c7 l7 m7 A8 c8 l8 m8 A3 c3 l3 m3 A4 c4 l4 m4 _ _ W f g ((by rw [hy.1]; exact h3 : WholeF w A3 c3 l3 m3 (Wd.fr c d).num).below hW) ((by rw [hy.2]; exact h4 : WholeF w A4 c4 l4 m4 ((Wd.fr c d).den : Int)).below hW)
        (by have := f.len sm.1; have := (hqy.num.below hW).len sy.1; have e : l4.length ≤ 2 := (by rw [hy.2]; exact h4 : WholeF w A4 c4 l4 m4 ((Wd.fr c d).den : Int)).len sy.2; omega)
        (by have := g.len sm.2; have := hqy.num.len sy.1; omega)
      rwa [hmp.1, hmp.2, hy.1, hy.2, show ((1 : Nat) : Int) = 1 from rfl, Int.mul_one] at this
    have hle : (sgn ((m : Int) * (d : Int) - (c : Int)) ≤ 0) ↔ m * d ≤ c := by
      rw [sgn_le_, ← Int.natCast_mul]; omega
    by_cases b1 : b = 1
    · have e : Wd.simp (f + 1) a b c d = (a, 1) := by simp only [Wd.simp, if_pos b1]
      rw [if_pos b1] at hm
      rw [e]
      subst hm
      exact simp_ceil A1 c1 l1 m1 A2 c2 l2 m2 A3 c3 l3 m3 A4 c4 l4 m4 _ _ w hsx hsy hce hcm (hle.2 (by have := ok.le; rw [b1, Nat.mul_one] at this; exact this))
    · rw [if_neg b1] at hm
      by_cases hk : a / b < c / d
      · have e : Wd.simp (f + 1) a b c d = (a / b + 1, 1) := by simp only [Wd.simp, if_neg b1, if_pos hk]
        rw [e]
        subst hm
        exact simp_ceil A1 c1 l1 m1 A2 c2 l2 m2 A3 c3 l3 m3 A4 c4 l4 m4 _ _ w hsx hsy hce hcm (hle.2 ((Nat.le_div_iff_mul_le pd).1 hk))
      · have e : Wd.simp (f + 1) a b c d = (a / b * (Wd.simp f d (c - a / b * d) b (a - a / b * b)).1 + (Wd.simp f d (c - a / b * d) b (a - a / b * b)).2, (Wd.simp f d (c - a / b * d) b (a - a / b * b)).1) := by
          simp only [Wd.simp, if_neg b1, if_neg hk]
        rw [e]
        obtain ⟨hok, hq, e2, l1', l2'⟩ := ok.step b1 hk
        have hres := Wd.simp_res f _ _ _ _ hok (by omega)
        have hrec := fun A7 c7 l7 m7 A8 c8 l8 m8 A9 c9 l9 m9 A10 c10 l10 m10 W g1 g2 g3 g4 => tsimp_any f A7 c7 l7 m7 A8 c8 l8 m8 A9 c9 l9 m9 A10 c10 l10 m10 d (c - a / b * d) b (a - a / b * b) W hok (by omega) (by omega) (by omega) (by omega) (by omega) g1 g2 g3 g4
        have hno : ¬ m * d ≤ c := fun h => hk (by have := (Nat.le_div_iff_mul_le pd).2 h; omega)
        have hkd : a / b * d ≤ c := by rw [← hq]; exact Nat.div_mul_le_self c d
        have hkb : a / b * b ≤ a := Nat.div_mul_le_self a b
        obtain ⟨k, hkk⟩ : ∃ k, k = a / b := ⟨_, rfl⟩
        have hfl := fun W (hW : Below w.heap.size w W) => by
          have := tqfloor_any 2 A1 c1 l1 m1 A2 c2 l2 m2 _ W (hqx.below hW) sx (by omega)
          rw [floor_fr pb ok.co, ← hkk] at this
          exact this
        rw [← hkk] at hok hres hrec hkd hkb hdl l1' l2' e2 ⊢
        have sk := szfr (n := k) Nat.one_pos (cop_one k) (by omega) (by omega)
        obtain ⟨n, hn⟩ : ∃ n, n = (Wd.simp f d (c - k * d) b (a - k * b)).1 := ⟨_, rfl⟩
        obtain ⟨r, hr⟩ : ∃ r, r = (Wd.simp f d (c - k * d) b (a - k * b)).2 := ⟨_, rfl⟩
        rw [← hn, ← hr] at hres hrec ⊢
        have p1 := hok.pb; have p2 := hok.pd
        obtain ⟨u, hu⟩ : ∃ u, u = c - k * d := ⟨_, rfl⟩
        obtain ⟨v, hv⟩ : ∃ v, v = a - k * b := ⟨_, rfl⟩
        have f1 := Wd.fr_sub pd hkd
        have f2 := Wd.fr_sub pb hkb
        rw [← hu] at hok hres hrec p1 l1' f1
        rw [← hv] at hok hres hrec p2 l2' f2
        have co1 : u.Coprime d := hok.co.symm
        have co2 : v.Coprime b := hok.co2.symm
        have z1 := Wd.fr_parts pd co1; have z2 := Wd.fr_parts pb co2
        have y1 := Wd.fr_parts p1 hok.co; have y2 := Wd.fr_parts p2 hok.co2
        have w1 := Wd.fr_parts hres.pe hres.co; have w2 := Wd.fr_parts hres.pn hres.co.symm
        have t1 := szfr pd co1 (by omega) (by omega); have t2 := szfr pb co2 (by omega) (by omega)
        have qn := hres.na; have qr := hres.eb
        have t3 := szfr hres.pe hres.co (by omega) (by omega); have t4 := szfr hres.pn hres.co.symm (by omega) (by omega)
        refine simp_rec A1 c1 l1 m1 A2 c2 l2 m2 A3 c3 l3 m3 A4 c4 l4 m4 (sgn ((m : Int) * (d : Int) - (c : Int))) (Wd.fr m 1) (Wd.fr k 1) (Wd.fr u d) (Wd.fr d u) (Wd.fr v b) (Wd.fr b v) (Wd.fr n r) (Wd.fr r n) (Wd.fr (k * n + r) n) w hsx hsy hce hcm (fun h => hno (hle.1 h)) hfl ?_ ?_ ?_ ?_ ?_ ?_ ?_
        · intro A7 c7 l7 m7 A8 c8 l8 m8 W hW f g
          rw [← f1]
          exact tqsub_any 2 A3 c3 l3 m3 A4 c4 l4 m4 A7 c7 l7 m7 A8 c8 l8 m8 _ _ W (hqy.below hW) (QV.of f g) sy sk (by omega)
        · intro A7 c7 l7 m7 A8 c8 l8 m8 W hW f g
          rw [← Wd.fr_inv pd co1]
          exact tqinv_any 2 A7 c7 l7 m7 A8 c8 l8 m8 _ W (QV.of f g) t1 (by omega) (by omega) (by rw [z1.1]; omega)
        · intro A7 c7 l7 m7 A8 c8 l8 m8 W hW f g
          rw [← f2]
          exact tqsub_any 2 A1 c1 l1 m1 A2 c2 l2 m2 A7 c7 l7 m7 A8 c8 l8 m8 _ _ W (hqx.below hW) (QV.of f g) sx sk (by omega)
        · intro A7 c7 l7 m7 A8 c8 l8 m8 W hW f g
          rw [← Wd.fr_inv pb co2]
          exact tqinv_any 2 A7 c7 l7 m7 A8 c8 l8 m8 _ W (QV.of f g) t2 (by omega) (by omega) (by rw [z2.1]; omega)
        · intro A7 c7 l7 m7 A8 c8 l8 m8 A9 c9 l9 m9 A10 c10 l10 m10 W hW g1 g2 g3 g4
          rw [y1.1] at g1
          rw [y1.2] at g2
          rw [y2.1] at g3
          rw [y2.2] at g4
          exact hrec A7 c7 l7 m7 A8 c8 l8 m8 A9 c9 l9 m9 A10 c10 l10 m10 W g1 g2 g3 g4
        · intro A7 c7 l7 m7 A8 c8 l8 m8 W hW f g
          rw [← Wd.fr_inv hres.pe hres.co]
          exact tqinv_any 2 A7 c7 l7 m7 A8 c8 l8 m8 _ W (QV.of f g) t3 (by omega) (by omega) (by rw [w1.1]; have := hres.pn; omega)
        · intro A7 c7 l7 m7 A8 c8 l8 m8 A9 c9 l9 m9 A10 c10 l10 m10 W hW g1 g2 g3 g4
          rw [← Wd.fr_add hres.pn]
          exact tqadd_any 2 A7 c7 l7 m7 A8 c8 l8 m8 A9 c9 l9 m9 A10 c10 l10 m10 _ _ W (QV.of g1 g2) (QV.of g3 g4) sk t4 (by omega)

end Go.Proofs.YtmahhmdodfimbaaGreatDoor
/- The reference: numbers as they are told, nought without a denominator among them. -/
namespace Go.Proofs.YtmahhmdodfimbaaGreatDoor
open Go.RowKit

set_option maxRecDepth 100000 in
set_option maxHeartbeats 2000000 in
theorem tRatv_any (A1 : Option Addr) (c1 : Nat) (l1 : List Nat) (m1 : Bool) (A2 : Option Addr) (c2 : Nat) (l2 : List Nat) (m2 : Bool) (q : Rat) (w : World) (h : QV w A1 c1 l1 m1 A2 c2 l2 m2 q) :
    Calls Tryz.prog 94 #[.agg #[.slice A1 l1.length c1, .bool m1, .slice A2 l2.length c2, .bool m2]] w fun e w' => RatP w q e w' := by
  have HS1 := hide (fun W (hW : Below w.heap.size w W) => tsmall_any A1 c1 l1 m1 q.num W (h.num.below hW))
  have HS2 := hide (fun A c l m W (f : WholeF W A c l m (q.den : Int)) => tsmall_any A c l m (q.den : Int) W f)
  have HD := hide (fun W (hW : Below w.heap.size w W) => tdenv_any A1 c1 l1 m1 A2 c2 l2 m2 q W (h.below hW))
  have ht : (Wd.fits q → Wd.told q = ⟨q.num, q.den, 0⟩) ∧ (¬ Wd.fits q → Wd.told q = ⟨0, 0, 3⟩) := ⟨fun h => if_pos h, fun h => if_neg h⟩
  have hfi : Wd.fits q ↔ q.num.natAbs ≤ 1000000000000 ∧ q.den ≤ 1000000000000 := Iff.rfl
  have HT := hide (And.intro ht hfi)
  clear h ht hfi
  go_enter Tryz.func94, Tryz.ntmps94
  go_wp2_with fail
  obtain ⟨n0, n1, hsz, hw0⟩ := two_new w (.cells #[.slice A1 l1.length c1, .bool m1, .slice A2 l2.length c2, .bool m2] 52) (.cells #[.int .i64 0, .int .i64 0] 23)
  generalize ((w.alloc (.cells #[.slice A1 l1.length c1, .bool m1, .slice A2 l2.length c2, .bool m2] 52)).alloc (.cells #[.int .i64 0, .int .i64 0] 23)) = W0 at *
  have k0 : W0.cell? ⟨w.heap.size, 0, none⟩ = some (.slice A1 l1.length c1) := cells_of n0 0
  have k1 : W0.cell? ⟨w.heap.size, 1, none⟩ = some (.bool m1) := cells_of n0 1
  have k2 : W0.cell? ⟨w.heap.size, 2, none⟩ = some (.slice A2 l2.length c2) := cells_of n0 2
  have k3 : W0.cell? ⟨w.heap.size, 3, none⟩ = some (.bool m2) := cells_of n0 3
  have p0 : W0.cell? ⟨w.heap.size + 1, 0, none⟩ = some (.int .i64 0) := cells_of n1 0
  have p1 : W0.cell? ⟨w.heap.size + 1, 1, none⟩ = some (.int .i64 0) := cells_of n1 1
  have v0 := unfrozen_of n1 0; have v1 := unfrozen_of n1 1
  have q0 := lt_of_block n0; have q1 := lt_of_block n1
  clear n0 n1 hsz
  refine ((unhide HS1) _ hw0).mono ?_
  rintro e W1 ⟨x1, ok1, rfl, hok1, hx1, hb1⟩
  obtain ⟨hc1, hf1⟩ := bcell hb1
  have hw1 := below_step' hw0 hb1
  have OK1 := Lib.hid hok1; have X1 := hide hx1; have HB1 := hide hb1; have HW1 := hide hw1
  clear hok1 hx1 hb1 hw1
  go_wp2_with fail
  refine ((unhide HD) _ (unhide HW1)).mono ?_
  rintro e W2 ⟨A9, c9, l9, m9, rfl, f9, hb2⟩
  have F9 := hide f9
  clear f9
  have hb2' := below_step' (unhide HB1) hb2
  obtain ⟨hc2, hf2⟩ := bcell hb2'
  have hw2 := below_step' hw0 hb2'
  have HB2 := hide hb2'; have HW2 := hide hw2
  clear hb2 hb2' hw2 hc1 hf1
  go_wp2_with fail
  refine ((unhide HS2) A9 c9 l9 m9 _ (unhide F9)).mono ?_
  rintro e W3 ⟨x2, ok2, rfl, hok2, hx2, hb3⟩
  have hb3' := below_step' (unhide HB2) hb3
  obtain ⟨hc3, hf3⟩ := bcell hb3'
  have hw3 := below_step' hw0 hb3'
  have OK2 := Lib.hid hok2; have X2 := hide hx2; have HW3 := hide hw3
  have hg9 : ∀ u0 u1 : Value, Below w.heap.size w ((W3.setCell ⟨w.heap.size + 1, 0, none⟩ u0).setCell ⟨w.heap.size + 1, 1, none⟩ u1) := fun u0 u1 => hw3.grown (set2_grown _ _ _ _) hw3.size (fun k hk => by injection hk with hk; omega)
  have HG9 := hide hg9
  clear hok2 hx2 hb3 hb3' hw3 hc2 hf2 hg9 HS1 HS2 HD HB1 HB2 HW1 HW2
  cases ok1 <;> cases ok2
  · have hn : ¬ Wd.fits q := fun h => by have := (unhide HT).2.1 h; have h2 := of_decide_eq_false OK1.out.symm; omega
    have HN := Lib.hid ((unhide HT).1.2 hn)
    clear hn
    go_wp2_with fail
    exact bodyPost_ret (v := .tuple #[.agg #[.int .i64 0, .int .i64 0], .bool false]) (by simp [results, Tryz.results94, go_sem, hc3, p0, p1, q1]) rfl ⟨0, 0, false, rfl, (unhide HG9) _ _, .inr ⟨rfl, HN.out⟩⟩
  · have hn : ¬ Wd.fits q := fun h => by have := (unhide HT).2.1 h; have h2 := of_decide_eq_false OK1.out.symm; omega
    have HN := Lib.hid ((unhide HT).1.2 hn)
    clear hn
    go_wp2_with fail
    exact bodyPost_ret (v := .tuple #[.agg #[.int .i64 0, .int .i64 0], .bool false]) (by simp [results, Tryz.results94, go_sem, hc3, p0, p1, q1]) rfl ⟨0, 0, false, rfl, (unhide HG9) _ _, .inr ⟨rfl, HN.out⟩⟩
  · have hn : ¬ Wd.fits q := fun h => by have := (unhide HT).2.1 h; have h2 := of_decide_eq_false OK2.out.symm; omega
    have HN := Lib.hid ((unhide HT).1.2 hn)
    clear hn
    go_wp2_with fail
    exact bodyPost_ret (v := .tuple #[.agg #[.int .i64 0, .int .i64 0], .bool false]) (by simp [results, Tryz.results94, go_sem, hc3, p0, p1, q1]) rfl ⟨0, 0, false, rfl, (unhide HG9) _ _, .inr ⟨rfl, HN.out⟩⟩
  · have e1 := (unhide X1) rfl
    have e2 := (unhide X2) rfl
    subst e1 e2
    by_cases hfit : Wd.fits q
    · have HN := Lib.hid ((unhide HT).1.1 hfit)
      obtain ⟨a1, a2⟩ := (unhide HT).2.1 hfit
      have d1 : decide (q.num < -1000000000000) = false := decide_eq_false (by omega)
      have d2 : decide (1000000000000 < q.num) = false := decide_eq_false (by omega)
      have d3 : decide ((1000000000000 : Int) < (q.den : Int)) = false := decide_eq_false (by omega)
      clear hfit
      go_wp2_with fail
      all_goals first | omega | skip
      exact bodyPost_ret (v := .tuple #[.agg #[.int .i64 q.num, .int .i64 q.den], .bool true]) (by simp [results, Tryz.results94, go_sem, hc3, p0, p1, q1]) rfl ⟨q.num, q.den, true, rfl, (unhide HG9) _ _, .inl ⟨rfl, HN.out⟩⟩
    · have HN := Lib.hid ((unhide HT).1.2 hfit)
      have hor : q.num < -1000000000000 ∨ 1000000000000 < q.num ∨ (1000000000000 : Int) < (q.den : Int) := by
        have h1 := (unhide HT).2.2
        by_cases a : q.num < -1000000000000
        · exact .inl a
        by_cases b : 1000000000000 < q.num
        · exact .inr (.inl b)
        by_cases c : (1000000000000 : Int) < (q.den : Int)
        · exact .inr (.inr c)
        exact absurd (h1 ⟨by omega, by omega⟩) hfit
      clear hfit
      go_wp2_with fail
      all_goals first | omega | skip
      all_goals exact bodyPost_ret (v := .tuple #[.agg #[.int .i64 0, .int .i64 0], .bool false]) (by simp [results, Tryz.results94, go_sem, hc3, p0, p1, q1]) rfl ⟨0, 0, false, rfl, (unhide HG9) _ _, .inr ⟨rfl, HN.out⟩⟩
end Go.Proofs.YtmahhmdodfimbaaGreatDoor
/- The reference: what is told, of nought without a denominator, too. -/
namespace Go.Proofs.YtmahhmdodfimbaaGreatDoor
open Go.RowKit

set_option maxRecDepth 100000 in
set_option maxHeartbeats 2000000 in
theorem ttoldv_any (A1 : Option Addr) (c1 : Nat) (l1 : List Nat) (m1 : Bool) (A2 : Option Addr) (c2 : Nat) (l2 : List Nat) (m2 : Bool) (q : Rat) (w : World) (h : QV w A1 c1 l1 m1 A2 c2 l2 m2 q) :
    Calls Tryz.prog 42 #[.agg #[.slice A1 l1.length c1, .bool m1, .slice A2 l2.length c2, .bool m2]] w fun e w' => TolR w (Wd.told q) e w' := by
  have HR := hide (fun W (hW : Below w.heap.size w W) => tRatv_any A1 c1 l1 m1 A2 c2 l2 m2 q W (h.below hW))
  clear h
  go_enter Tryz.func42, Tryz.ntmps42
  go_wp2_with fail
  obtain ⟨n0, n1, hsz, hw0⟩ := two_new w (.cells #[.slice A1 l1.length c1, .bool m1, .slice A2 l2.length c2, .bool m2] 52) (.cells #[.int .i64 0, .int .i64 0] 23)
  generalize ((w.alloc (.cells #[.slice A1 l1.length c1, .bool m1, .slice A2 l2.length c2, .bool m2] 52)).alloc (.cells #[.int .i64 0, .int .i64 0] 23)) = W0 at *
  have p0 : W0.cell? ⟨w.heap.size + 1, 0, none⟩ = some (.int .i64 0) := cells_of n1 0
  have p1 : W0.cell? ⟨w.heap.size + 1, 1, none⟩ = some (.int .i64 0) := cells_of n1 1
  have v0 := unfrozen_of n1 0; have v1 := unfrozen_of n1 1
  have q1 := lt_of_block n1
  clear n0 n1 hsz
  refine ((unhide HR) _ hw0).mono ?_
  rintro e W1 ⟨n, d, ok, rfl, hb, hor⟩
  rcases hor with ⟨rfl, ht⟩ | ⟨rfl, ht⟩
  · have HT9 := Lib.hid ht
    clear ht
    have hbA := hb.alloc hb.size (.cells #[.int .i64 n, .int .i64 d] 23)
    obtain ⟨hc, hf⟩ := bcell hbA
    obtain ⟨hc', hf'⟩ := bcell hb
    have hwA := below_step' hw0 hbA
    have HWA := hide hwA
    clear hbA hb hwA
    go_wp2_with fail
    exact bodyPost_ret (v := .tuple #[.agg #[.int .i64 n, .int .i64 d], .int .i64 0]) (by simp [results, Tryz.results42, go_sem, hc, hc', p0, p1, q1]) rfl
      ⟨by rw [HT9.out], (unhide HWA).grown (set2_grown _ _ _ _) (unhide HWA).size (fun k hk => by injection hk with hk; omega)⟩
  · have HT9 := Lib.hid ht
    clear ht
    have hbA := hb.alloc hb.size (.cells #[.int .i64 n, .int .i64 d] 23)
    obtain ⟨hc, hf⟩ := bcell hbA
    obtain ⟨hc', hf'⟩ := bcell hb
    have hwA := below_step' hw0 hbA
    have HWA := hide hwA
    clear hbA hb hwA
    go_wp2_with fail
    exact bodyPost_ret (v := .tuple #[.agg #[.int .i64 0, .int .i64 0], .int .i64 3]) (by simp [results, Tryz.results42, go_sem, hc, hc', p0, p1, q1]) rfl
      ⟨by rw [HT9.out], (unhide HWA).grown (set2_grown _ _ _ _) (unhide HWA).size (fun k hk => by injection hk with hk; omega)⟩
end Go.Proofs.YtmahhmdodfimbaaGreatDoor
/- Numbers as arguments of the reference. -/
namespace Go.Proofs.YtmahhmdodfimbaaGreatDoor
open Go.RowKit


theorem okR_bounds {n d : Int} (h : Wd.okR n d) : -9223372036854775808 ≤ n ∧ n ≤ 9223372036854775807 ∧ -9223372036854775808 ≤ d ∧ d ≤ 9223372036854775807 ∧ d ≠ 0 := by
  obtain ⟨r1, r2, r3, r4, _⟩ := h
  exact ⟨by omega, by omega, by omega, by omega, by omega⟩
theorem okR_szq {n d : Int} (h : Wd.okR n d) : Wd.SzQ B32 2 (Wd.qR n d) := by
  obtain ⟨a1, a2⟩ := Wd.qR_ok h
  obtain ⟨r1, r2, r3, r4, _⟩ := h
  unfold Wd.SzQ Wd.Sz
  rw [a1, a2, B32_eq]
  exact ⟨by omega, by omega⟩
theorem of_ok {n d : Int} (h : Wd.okR n d) (W : World) : Calls Tryz.prog 41 #[(Value.agg #[.int .i64 n, .int .i64 d])] W fun e w' => QR W (Wd.qR n d) e w' := by
  obtain ⟨b1, b2, b3, b4, b5⟩ := okR_bounds h
  exact tOf_any n d W b1 b2 b3 b4 b5
end Go.Proofs.YtmahhmdodfimbaaGreatDoor
/- The reference: the simplest number between two, for all ints. -/
namespace Go.Proofs.YtmahhmdodfimbaaGreatDoor
open Go.RowKit

theorem sgn_iff_ (z : Int) : 0 < sgn z ↔ 0 < z := by
  unfold sgn; (repeat' split) <;> omega
theorem told_zero (W : World) : Calls Tryz.prog 42 #[(Value.agg #[.slice none 0 0, .bool false, .slice none 0 0, .bool false])] W fun e w' => TolR W ⟨0, 1, 0⟩ e w' := by
  have hn : NatT W none 0 [] 0 := NatT.nil_ W 0 (by omega)
  have h0 : WholeF W none 0 [] false 0 := ⟨hn, rfl⟩
  have hq : QV W none 0 [] false none 0 [] false (Wd.qR 0 1) := by
    have hp := Wd.qR_ok (n := 0) (d := 1) ⟨by omega, by omega, by omega, by omega, by simp [Nat.Coprime]⟩
    refine ⟨by rw [hp.1]; exact h0, 0, h0, .inr ⟨rfl, ?_⟩⟩
    have := hp.2
    omega
  have := ttoldv_any none 0 [] false none 0 [] false _ W hq
  rwa [Wd.told_of_ok ⟨by omega, by omega, by omega, by omega, by simp [Nat.Coprime]⟩] at this
theorem tSimplest_any (n1 d1 n2 d2 : Int) (w : World) :
    Calls Tryz.prog 29 #[(Value.agg #[.int .i64 n1, .int .i64 d1]), (Value.agg #[.int .i64 n2, .int .i64 d2])] w fun e w' => TolR w (Wd.simpT n1 d1 n2 d2) e w' := by
  have h1 := fun W => tIs_any n1 d1 W
  have h2 := fun W => tIs_any n2 d2 W
  by_cases ok1 : Wd.okR n1 d1
  · rw [decide_eq_true ok1] at h1
    by_cases ok2 : Wd.okR n2 d2
    · rw [decide_eq_true ok2] at h2
      have ok := And.intro ok1 ok2
      have h3 := of_ok ok1
      have h4 := of_ok ok2
      obtain ⟨p1, p2⟩ := Wd.qR_ok ok1
      obtain ⟨p3, p4⟩ := Wd.qR_ok ok2
      have sx := okR_szq ok1; have sy := okR_szq ok2
      obtain ⟨a1, a2, a3, a4⟩ := Wd.okR_nat ok1
      obtain ⟨b1, b2, b3, b4⟩ := Wd.okR_nat ok2
      have h5 : ∀ (A5 : Option Addr) (c5 : Nat) (l5 : List Nat) (m5 : Bool) (A6 : Option Addr) (c6 : Nat) (l6 : List Nat) (m6 : Bool) (A7 : Option Addr) (c7 : Nat) (l7 : List Nat) (m7 : Bool) (A8 : Option Addr) (c8 : Nat) (l8 : List Nat) (m8 : Bool) W, QR_ W A5 c5 l5 m5 A6 c6 l6 m6 (Wd.qR n1 d1) → QR_ W A7 c7 l7 m7 A8 c8 l8 m8 (Wd.qR n2 d2) → Calls Tryz.prog 64 #[(Value.agg #[.slice A5 l5.length c5, .bool m5, .slice A6 l6.length c6, .bool m6]), (Value.agg #[.slice A7 l7.length c7, .bool m7, .slice A8 l8.length c8, .bool m8])] W fun e w' => e = .returned (.int .i64 (sgn (n1 * d2 - n2 * d1))) ∧ Below W.heap.size W w' := fun A5 c5 l5 m5 A6 c6 l6 m6 A7 c7 l7 m7 A8 c8 l8 m8 W f g => by
        have := tqcmp_any A5 c5 l5 m5 A6 c6 l6 m6 A7 c7 l7 m7 A8 c8 l8 m8 _ _ W f.1 f.2 g.1 g.2 (by have := f.1.len sx.1; have := g.2.len sy.2; omega) (by have := g.1.len sy.1; have := f.2.len sx.2; omega)
        rwa [p1, p2, p3, p4] at this
      by_cases hle : 0 < n1 * d2 - n2 * d1
      · have e : Wd.simpT n1 d1 n2 d2 = ⟨0, 0, 1⟩ := (if_pos ok).trans (if_pos hle)
        rw [e]
        exact rs_gt n1 d1 n2 d2 _ _ _ w h1 h2 h3 h4 h5 ((sgn_iff_ _).2 hle)
      · have ho : ¬ 0 < sgn (n1 * d2 - n2 * d1) := fun h => hle ((sgn_iff_ _).1 h)
        by_cases hp : 0 < n1
        · have e := ((if_pos ok).trans (if_neg hle)).trans (if_pos hp) (a := Wd.simpT n1 d1 n2 d2)
          rw [e]
          obtain ⟨c1, c2⟩ := Wd.simpOk_pos ok1 ok2 hle hp
          have hr := Wd.simp_res (d1.natAbs + d2.natAbs) n1.natAbs d1.natAbs n2.natAbs d2.natAbs c2 (Nat.le_refl _)
          have h6 := fun A5 c5 l5 m5 A6 c6 l6 m6 A7 c7 l7 m7 A8 c8 l8 m8 W (f : QR_ W A5 c5 l5 m5 A6 c6 l6 m6 (Wd.qR n1 d1)) (g : QR_ W A7 c7 l7 m7 A8 c8 l8 m8 (Wd.qR n2 d2)) => tsimp_any (d1.natAbs + d2.natAbs) A5 c5 l5 m5 A6 c6 l6 m6 A7 c7 l7 m7 A8 c8 l8 m8 n1.natAbs d1.natAbs n2.natAbs d2.natAbs W c2 (Nat.le_refl _) a3 a2 b3 b2
            (by rw [Int.natAbs_of_nonneg (show 0 ≤ n1 by omega), ← p1]; exact f.1) (by rw [Int.natAbs_of_nonneg (show 0 ≤ d1 by omega), ← p2]; exact f.2) (by rw [Int.natAbs_of_nonneg (show 0 ≤ n2 by omega), ← p3]; exact g.1) (by rw [Int.natAbs_of_nonneg (show 0 ≤ d2 by omega), ← p4]; exact g.2)
          have q1 := hr.na; have q2 := hr.eb; have q3 := hr.pe; have q4 := hr.co
          clear hr c2
          generalize Wd.simp (d1.natAbs + d2.natAbs) n1.natAbs d1.natAbs n2.natAbs d2.natAbs = rs at *
          have h7 := fun A5 c5 l5 m5 A6 c6 l6 m6 W (f : QR_ W A5 c5 l5 m5 A6 c6 l6 m6 (Wd.fr rs.1 rs.2)) => ttold_any A5 c5 l5 m5 A6 c6 l6 m6 _ W f.1 f.2
          rw [(Wd.fits_fr q3 q4 (by omega) (by omega)).1] at h7
          exact rs_q n1 d1 n2 d2 _ _ _ _ _ _ _ w h1 h2 h3 h4 h5 ho h6 h7
        · by_cases hn : n2 < 0
          · have e := (((if_pos ok).trans (if_neg hle)).trans (if_neg hp)).trans (if_pos hn) (a := Wd.simpT n1 d1 n2 d2)
            rw [e]
            obtain ⟨c1, c2⟩ := Wd.simpOk_neg ok1 ok2 hle hn
            have hr := Wd.simp_res (d2.natAbs + d1.natAbs) n2.natAbs d2.natAbs n1.natAbs d1.natAbs c2 (Nat.le_refl _)
            have hrec := tsimp_any (d2.natAbs + d1.natAbs)
            have q1 := hr.na; have q2 := hr.eb; have q3 := hr.pe; have q4 := hr.co
            have h6 := fun A5 c5 l5 m5 A6 c6 l6 m6 A7 c7 l7 m7 A8 c8 l8 m8 W (f : QR_ W A5 c5 l5 m5 A6 c6 l6 m6 (Wd.qR n1 d1)) (g : QR_ W A7 c7 l7 m7 A8 c8 l8 m8 (Wd.qR n2 d2)) =>
              simp_neg A5 c5 l5 m5 A6 c6 l6 m6 A7 c7 l7 m7 A8 c8 l8 m8 (-Wd.qR n2 d2) (-Wd.qR n1 d1) (Wd.fr (Wd.simp (d2.natAbs + d1.natAbs) n2.natAbs d2.natAbs n1.natAbs d1.natAbs).1 (Wd.simp (d2.natAbs + d1.natAbs) n2.natAbs d2.natAbs n1.natAbs d1.natAbs).2) (-Wd.fr (Wd.simp (d2.natAbs + d1.natAbs) n2.natAbs d2.natAbs n1.natAbs d1.natAbs).1 (Wd.simp (d2.natAbs + d1.natAbs) n2.natAbs d2.natAbs n1.natAbs d1.natAbs).2) W
                (fun V hV => by have := tqsign_any A5 c5 l5 m5 A6 c6 l6 m6 _ V (f.qv.below hV); rwa [p1, sgn_neg_ c1] at this)
                (fun V hV => by have := tqsign_any A7 c7 l7 m7 A8 c8 l8 m8 _ V (g.qv.below hV); rwa [p3, sgn_neg_ hn] at this)
                (fun V hV => tqneg_any A7 c7 l7 m7 A8 c8 l8 m8 _ V (g.qv.below hV)) (fun V hV => tqneg_any A5 c5 l5 m5 A6 c6 l6 m6 _ V (f.qv.below hV))
                (fun B7 e7 k7 o7 B8 e8 k8 o8 B9 e9 k9 o9 B10 e10 k10 o10 V hV g1 g2 g3 g4 => hrec B7 e7 k7 o7 B8 e8 k8 o8 B9 e9 k9 o9 B10 e10 k10 o10 n2.natAbs d2.natAbs n1.natAbs d1.natAbs V c2 (Nat.le_refl _) b3 b2 a3 a2
                  (by rw [show ((n2.natAbs : Nat) : Int) = (-Wd.qR n2 d2).num by show _ = -(Wd.qR n2 d2).num; omega]; exact g1) (by rw [show ((d2.natAbs : Nat) : Int) = ((-Wd.qR n2 d2).den : Int) by show _ = ((Wd.qR n2 d2).den : Int); omega]; exact g2)
                  (by rw [show ((n1.natAbs : Nat) : Int) = (-Wd.qR n1 d1).num by show _ = -(Wd.qR n1 d1).num; omega]; exact g3) (by rw [show ((d1.natAbs : Nat) : Int) = ((-Wd.qR n1 d1).den : Int) by show _ = ((Wd.qR n1 d1).den : Int); omega]; exact g4))
                (fun B7 e7 k7 o7 B8 e8 k8 o8 V hV g1 g2 => tqneg_any B7 e7 k7 o7 B8 e8 k8 o8 _ V (QV.of g1 g2))
            clear hr c2 hrec
            generalize Wd.simp (d2.natAbs + d1.natAbs) n2.natAbs d2.natAbs n1.natAbs d1.natAbs = rs at *
            have h7 := fun A5 c5 l5 m5 A6 c6 l6 m6 W (f : QR_ W A5 c5 l5 m5 A6 c6 l6 m6 (-Wd.fr rs.1 rs.2)) => ttold_any A5 c5 l5 m5 A6 c6 l6 m6 _ W f.1 f.2
            rw [(Wd.fits_fr q3 q4 (by omega) (by omega)).2] at h7
            exact rs_q n1 d1 n2 d2 _ _ _ _ _ _ _ w h1 h2 h3 h4 h5 ho h6 h7
          · have e := (((if_pos ok).trans (if_neg hle)).trans (if_neg hp)).trans (if_neg hn) (a := Wd.simpT n1 d1 n2 d2)
            rw [e]
            have h6 := fun A5 c5 l5 m5 A6 c6 l6 m6 A7 c7 l7 m7 A8 c8 l8 m8 W (f : QR_ W A5 c5 l5 m5 A6 c6 l6 m6 (Wd.qR n1 d1)) (g : QR_ W A7 c7 l7 m7 A8 c8 l8 m8 (Wd.qR n2 d2)) =>
              simp_nought A5 c5 l5 m5 A6 c6 l6 m6 A7 c7 l7 m7 A8 c8 l8 m8 (sgn n1) (sgn n2) W
                (fun V hV => by have := tqsign_any A5 c5 l5 m5 A6 c6 l6 m6 _ V (f.qv.below hV); rwa [p1] at this)
                (fun V hV => by have := tqsign_any A7 c7 l7 m7 A8 c8 l8 m8 _ V (g.qv.below hV); rwa [p3] at this)
                ((sgn_le_ _).2 (by omega)) (by unfold sgn; (repeat' split) <;> omega)
            exact rs_z n1 d1 n2 d2 _ _ _ _ _ _ w h1 h2 h3 h4 h5 ho h6 told_zero
    · rw [decide_eq_false ok2] at h2
      have e : Wd.simpT n1 d1 n2 d2 = ⟨0, 0, 1⟩ := if_neg (fun h => ok2 h.2)
      rw [e]
      exact rs_bad2 n1 d1 n2 d2 w h1 h2
  · rw [decide_eq_false ok1] at h1
    have e : Wd.simpT n1 d1 n2 d2 = ⟨0, 0, 1⟩ := if_neg (fun h => ok1 h.1)
    rw [e]
    exact rs_bad1 n1 d1 n2 d2 w h1

end Go.Proofs.YtmahhmdodfimbaaGreatDoor
/- The frame of the laws' rows: numbers as arguments; the listed table; a call that only makes new memory. -/
namespace Go.Proofs.YtmahhmdodfimbaaGreatDoor
open Go.Joins Go.ChangeShapes Go.WideShapes Go.ChangeAt Go.RowKit

theorem own : ownKnob Tryz.prog.godebug = none := by kernel_rfl
/-- What the rows list: one table. -/
def laidL {H : Type} : List (String × DataW H) := [("math/bits.deBruijn64tab", Rows.laid_math_bits_deBruijn64tab)]
theorem tab_list : (Rows.laid_math_bits_deBruijn64tab : DataW Unit) = .agg (Lib.deBruijn64tab.map fun (n : Nat) => .lit (.int .u8 (n : Int))) := by kernel_rfl
theorem tab_of {W : World} (h : laidMetH Tryz.prog laidL W) : Tab W := by
  rw [MakeChecks.laidMetH_plain _ _ _ (by kernel_rfl)] at h
  obtain ⟨ps, ⟨g, t, cs, fuel, p, q, hg, ht, hv, hd, _, _⟩, _, _⟩ := h
  obtain rfl := Option.some.inj ((show Tryz.prog.globalNamed "math/bits.deBruijn64tab" = some 0 by kernel_rfl).symm.trans hg)
  obtain rfl := Option.some.inj ((show (Tryz.prog.globals[0]?).map (·.type) = some 163 by kernel_rfl).symm.trans ht)
  obtain ⟨xs, m, _, ex, hcl, hl, hel⟩ := DataW.trod_array Tryz.underlying163 hd
  have c5 : Tryz.prog.cellsOf 5 = 1 := by kernel_rfl
  have hlen : Lib.deBruijn64tab.length = 64 := by kernel_rfl
  rw [tab_list] at ex
  have e3 : (xs.map (·.1)) = Lib.deBruijn64tab.map fun (n : Nat) => .lit (.int .u8 (n : Int)) := (DataW.agg.inj (Prod.mk.inj ex).1).symm
  have cell : ∀ r : Nat, r < 64 → W.cell? ⟨0, r, none⟩ = some (.int .u8 (Lib.deBruijn64tab.getD r 0)) := fun r hr => by
    have hE := hel r hr
    rw [c5, Nat.mul_one, List.getElem?_eq_getElem (by omega)] at hE
    obtain ⟨z, e1, e2, _⟩ := DataW.trod_int Tryz.underlying5 hE
    have e4 : (xs.map (·.1))[r]? = (Lib.deBruijn64tab.map fun (n : Nat) => (DataW.lit (.int .u8 (n : Int)) : DataW Unit))[r]? := by rw [e3]
    rw [List.getElem?_map, List.getElem?_map, List.getElem?_eq_getElem (by omega : r < xs.length), List.getElem?_eq_getElem (by omega : r < Lib.deBruijn64tab.length), e2] at e4
    have hz : z = (Lib.deBruijn64tab.getD r 0 : Nat) := by
      simp only [Option.map_some, Option.some.injEq, DataW.lit.injEq, Lit.int.injEq, true_and] at e4
      rw [e4, List.getD, List.getElem?_eq_getElem (by omega : r < Lib.deBruijn64tab.length)]; rfl
    rw [World.var?_cell hg hv r, ← hz]
    have : cs.toList[r]? = some (.int .u8 z) := by
      have h0 : ((cs.toList.drop r).take 1)[0]? = some (.int .u8 z) := by rw [e1]; rfl
      simpa using h0
    simpa using this
  refine ⟨fun j hj => cell j (by omega), ?_⟩
  have h0 := cell 0 (by omega)
  rcases Nat.lt_or_ge 0 W.heap.size with hlt | hge
  · exact hlt
  · simp [World.cell?, Array.getElem?_eq_none hge] at h0

set_option maxRecDepth 100000 in
/-- A number as an argument: two ints. -/
theorem open_rat {H : Type} {enc : TypeId × Value → H} {w : World} {base : Nat} {spare : Nat → Bool} {held : Bool} {r : Reach} {b0 : Nat} {v : Value} {d : DataW H} {p : List MemPlace}
    (hv : Value.okWide Tryz.prog w r b0 23 v) (h : DataW.Trod enc Tryz.prog w base spare held 23 v d p) :
    ∃ n m : Int, v = .agg #[.int .i64 n, .int .i64 m] ∧ d = .agg [.lit (.int .i64 n), .lit (.int .i64 m)] ∧ p = [] ∧ (Lit.int .i64 n).wf = true ∧ (Lit.int .i64 m).wf = true := by
  obtain ⟨v0, v1, y0, y1, k, rfl, rfl, rfl, h0, h1⟩ := open_agg2 Tryz.underlying23 (by kernel_rfl) (by kernel_rfl) hv h
  obtain ⟨n, e0, rfl, w0⟩ := DataW.trod_int Tryz.underlying3 h0
  obtain ⟨m, e1, rfl, w1⟩ := DataW.trod_int Tryz.underlying3 h1
  simp only [List.cons.injEq, and_true] at e0 e1
  subst e0 e1
  exact ⟨n, m, rfl, rfl, rfl, w0, w1⟩
set_option maxRecDepth 100000 in
theorem shut_rat {H : Type} {enc : TypeId × Value → H} {w : World} {base : Nat} {spare : Nat → Bool} {held : Bool} {n m : Int} (w0 : (Lit.int .i64 n).wf = true) (w1 : (Lit.int .i64 m).wf = true) :
    DataW.Trod enc Tryz.prog w base spare held 23 (.agg #[.int .i64 n, .int .i64 m]) (.agg [.lit (.int .i64 n), .lit (.int .i64 m)]) [] := by
  have i0 : ∀ k : Int, (Lit.int .i64 k).wf = true → ∃ f, DataW.trod enc Tryz.prog w base spare held f 3 [.int .i64 k] = some (.lit (.int .i64 k), []) := fun k hk => shut_int Tryz.underlying3 hk
  exact shut_agg2 (y0 := (.lit (.int .i64 n), [])) (y1 := (.lit (.int .i64 m), [])) Tryz.underlying23 (by kernel_rfl) (by kernel_rfl) (i0 n w0) (i0 m w1)
/-- A call that only makes new memory, and hands back what the law asks. -/
theorem post_below {H : Type} {enc : TypeId × Value → H} {P : Program} {f : Func} {s : ChangeSpec} {apart : Bool} {W W' : World} {args : Array Value} {v : Value} {ds gs : List (DataW H)}
    (hW : DataW.Whole enc P f.params.toList s.vars apart W args.toList ds gs [])
    (hres : DataW.TrodAll enc P W' W.heap.size (fun _ => false) false f.resultTypes.toList (v.resultList f.resultTypes.size) (s.fn H (ds ++ gs)).results [])
    (hargs : DataW.TrodAll enc P W' 0 (fun b => decide (b < W.heap.size)) true f.params.toList args.toList (s.fn H (ds ++ gs)).args [])
    (hvars : DataW.TrodVars enc P W' (fun b => decide (b < W.heap.size)) s.vars (s.fn H (ds ++ gs)).vars []) (hb : Below W.heap.size W W') :
    s.post enc P f apart true false false W args v W' :=
  ⟨ds, gs, [], [], [], [], hW, hres, hargs, hvars, hb.frame _, fun h => by cases h⟩
end Go.Proofs.YtmahhmdodfimbaaGreatDoor
