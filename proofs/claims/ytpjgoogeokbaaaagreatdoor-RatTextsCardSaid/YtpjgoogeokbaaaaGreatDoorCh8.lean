/- Part 8 of the texts beneath a law of layer 1: RtNew, RatM, Known, RfA, RfMul, RfSh, Plain3, RfWord, RfWalk. -/
import Derived.Test.YtpjgoogeokbaaaaGreatDoorCh7
import Derived.BigQuiet
import Derived.Deep.QuietTactic
import Derived.Laws.Bits64b
import Derived.Deep.CutBlock
import Derived.Deep.DeepCutAuto
/- A quotient of two whole numbers, in lowest terms. -/
namespace Go.Proofs.YtpjgoogeokbaaaaGreatDoor
open Go.RowKit

set_option maxRecDepth 100000 in
set_option maxHeartbeats 16000000 in
theorem newr_pos (s1 : Int) (neg1 : Bool) (A1 : Option Addr) (c1 : Nat) (l1 : List Nat) (s2 : Int) (neg2 : Bool) (A2 : Option Addr) (c2 : Nat) (l2 : List Nat) (z1 z2 g r1 r2 : Int) (w : World) (f1 : IntF w s1 neg1 A1 c1 l1 z1) (f2 : IntF w s2 neg2 A2 c2 l2 z2) (hs : ¬ z2 < 0)
    (hg : Op2 w 124 z1 z2 g) (hq1 : Op2 w 125 z1 g r1) (hq2 : Op2 w 125 z2 g r2) :
    Calls Tryz.prog 101 #[(Value.agg #[.int .i64 s1, .bool neg1, .slice A1 l1.length c1]), (Value.agg #[.int .i64 s2, .bool neg2, .slice A2 l2.length c2])] w fun e w' => PairR w r1 r2 e w' := by

  have H1 := hide f1
  have H2 := hide f2
  have HG := hide hg
  have HQ1 := hide hq1
  have HQ2 := hide hq2
  have hs' : decide (sgn z2 < 0) = false := decide_eq_false (by rw [sgn_neg]; exact hs)
  obtain ⟨o, ho⟩ : ∃ o, o = sgn z2 := ⟨_, rfl⟩
  have HS := hide (fun W (f : IntF W s2 neg2 A2 c2 l2 z2) => (show Calls Tryz.prog 128 #[(Value.agg #[.int .i64 s2, .bool neg2, .slice A2 l2.length c2])] W fun e w' => e = .returned (.int .i64 o) ∧ Below W.heap.size W w' by rw [ho]; exact sign_any s2 neg2 A2 c2 l2 z2 W f))
  rw [← ho] at hs'
  clear f1 f2 hg hq1 hq2 hs ho
  go_enter Tryz.func101, Tryz.ntmps101
  go_upto_region 1 with fail
  obtain ⟨n0, n1, n2, hsz, hw0⟩ := three_new w (.cells #[.int .i64 s1, .bool neg1, .slice A1 l1.length c1] 61) (.cells #[.int .i64 s2, .bool neg2, .slice A2 l2.length c2] 61) (.cells #[.int .i64 0, .bool false, .slice none 0 0, .int .i64 0, .bool false, .slice none 0 0] 63)
  generalize (((w.alloc (.cells #[.int .i64 s1, .bool neg1, .slice A1 l1.length c1] 61)).alloc (.cells #[.int .i64 s2, .bool neg2, .slice A2 l2.length c2] 61)).alloc (.cells #[.int .i64 0, .bool false, .slice none 0 0, .int .i64 0, .bool false, .slice none 0 0] 63)) = W0 at *
  have k0_0 : W0.cell? ⟨w.heap.size, 0, none⟩ = some (.int .i64 s1) := cells_of n0 0
  have k0_1 : W0.cell? ⟨w.heap.size, 1, none⟩ = some (.bool neg1) := cells_of n0 1
  have k0_2 : W0.cell? ⟨w.heap.size, 2, none⟩ = some (.slice A1 l1.length c1) := cells_of n0 2
  have q0 : w.heap.size < W0.heap.size := by omega
  have k1_0 : W0.cell? ⟨w.heap.size + 1, 0, none⟩ = some (.int .i64 s2) := cells_of n1 0
  have k1_1 : W0.cell? ⟨w.heap.size + 1, 1, none⟩ = some (.bool neg2) := cells_of n1 1
  have k1_2 : W0.cell? ⟨w.heap.size + 1, 2, none⟩ = some (.slice A2 l2.length c2) := cells_of n1 2
  have q1 : w.heap.size + 1 < W0.heap.size := by omega
  have k2_0 : W0.cell? ⟨w.heap.size + 1 + 1, 0, none⟩ = some (.int .i64 0) := cells_of n2 0
  have k2_1 : W0.cell? ⟨w.heap.size + 1 + 1, 1, none⟩ = some (.bool false) := cells_of n2 1
  have k2_2 : W0.cell? ⟨w.heap.size + 1 + 1, 2, none⟩ = some (.slice none 0 0) := cells_of n2 2
  have k2_3 : W0.cell? ⟨w.heap.size + 1 + 1, 3, none⟩ = some (.int .i64 0) := cells_of n2 3
  have k2_4 : W0.cell? ⟨w.heap.size + 1 + 1, 4, none⟩ = some (.bool false) := cells_of n2 4
  have k2_5 : W0.cell? ⟨w.heap.size + 1 + 1, 5, none⟩ = some (.slice none 0 0) := cells_of n2 5
  have q2 : w.heap.size + 1 + 1 < W0.heap.size := by omega
  have f2_0 := unfrozen_of n2 0
  have f2_1 := unfrozen_of n2 1
  have f2_2 := unfrozen_of n2 2
  have f2_3 := unfrozen_of n2 3
  have f2_4 := unfrozen_of n2 4
  have f2_5 := unfrozen_of n2 5
  have NR := Lib.hid n2
  clear hsz n0 n1 n2
  replace H1 := hide ((unhide H1).below hw0)
  replace H2 := hide ((unhide H2).below hw0)
  go_cut [5] (fun s5_ wx => ∃ b5 : Nat, s5_ = .pointer (some ⟨b5, 0, none⟩) ∧ BoxI wx b5 g ∧ Below W0.heap.size W0 wx ∧ W0.heap.size ≤ b5)
  case first =>
    go_wp2_with fail
    refine ((unhide HG) s1 neg1 A1 c1 l1 s2 neg2 A2 c2 l2 _ hw0 (unhide H1) (unhide H2)).mono ?_
    rintro e w' ⟨s5, neg5, A5, c5, l5, rfl, hf5, hb5⟩
    go_wp2_with fail
    go_meet
    exact ⟨_, rfl, put_n hf5 hb5 rfl⟩
  case rest =>
    revert hcut
    generalize wc = W1
    intro hcut
    obtain ⟨b5, rfl, ⟨s5, neg5, A5, c5, l5, n5, f5⟩, hB1, ob5⟩ := hcut
    have k5_0 : W1.cell? ⟨b5, 0, none⟩ = some (.int .i64 s5) := cells_of n5 0
    have k5_1 : W1.cell? ⟨b5, 1, none⟩ = some (.bool neg5) := cells_of n5 1
    have k5_2 : W1.cell? ⟨b5, 2, none⟩ = some (.slice A5 l5.length c5) := cells_of n5 2
    have y0 : W1.cell? ⟨w.heap.size + 1, 0, none⟩ = some (.int .i64 s2) := keep_cell hB1 q1 k1_0
    have y1 : W1.cell? ⟨w.heap.size + 1, 1, none⟩ = some (.bool neg2) := keep_cell hB1 q1 k1_1
    have y2 : W1.cell? ⟨w.heap.size + 1, 2, none⟩ = some (.slice A2 l2.length c2) := keep_cell hB1 q1 k1_2
    go_wp2_with fail
    refine ((unhide HS) W1 ((unhide H2).below hB1)).mono ?_
    rintro e W2 ⟨rfl, hb⟩
    have q5 := lt_of_block n5
    have n5' := (hb.block _ q5).trans n5
    have f5' := f5.below hb
    have hB := below_step' hB1 hb
    clear k5_0 k5_1 k5_2 y0 y1 y2 f5 n5 hB1
    have ng := n5'
    have fg := f5'
    clear n5' f5' hb
    have FG := hide fg
    clear fg
    have k0_0' : W2.cell? ⟨w.heap.size, 0, none⟩ = some (.int .i64 s1) := keep_cell hB q0 k0_0
    have k0_1' : W2.cell? ⟨w.heap.size, 1, none⟩ = some (.bool neg1) := keep_cell hB q0 k0_1
    have k0_2' : W2.cell? ⟨w.heap.size, 2, none⟩ = some (.slice A1 l1.length c1) := keep_cell hB q0 k0_2
    have q0' : w.heap.size < W2.heap.size := Nat.lt_of_lt_of_le q0 hB.size
    have k1_0' : W2.cell? ⟨w.heap.size + 1, 0, none⟩ = some (.int .i64 s2) := keep_cell hB q1 k1_0
    have k1_1' : W2.cell? ⟨w.heap.size + 1, 1, none⟩ = some (.bool neg2) := keep_cell hB q1 k1_1
    have k1_2' : W2.cell? ⟨w.heap.size + 1, 2, none⟩ = some (.slice A2 l2.length c2) := keep_cell hB q1 k1_2
    have q1' : w.heap.size + 1 < W2.heap.size := Nat.lt_of_lt_of_le q1 hB.size
    have k5_0' := cells_of ng 0
    have k5_1' := cells_of ng 1
    have k5_2' := cells_of ng 2
    have q5' := lt_of_block ng
    simp only [Array.getElem?_eq_getElem, three0, three1, three2] at k5_0' k5_1' k5_2'
    have kr_0 : W2.cell? ⟨w.heap.size + 1 + 1, 0, none⟩ = some (.int .i64 0) := keep_cell hB q2 k2_0
    have fr_0 : W2.frozen? ⟨w.heap.size + 1 + 1, 0, none⟩ = false := (hB.frozen (p := ⟨w.heap.size + 1 + 1, 0, none⟩) q2).trans f2_0
    have kr_1 : W2.cell? ⟨w.heap.size + 1 + 1, 1, none⟩ = some (.bool false) := keep_cell hB q2 k2_1
    have fr_1 : W2.frozen? ⟨w.heap.size + 1 + 1, 1, none⟩ = false := (hB.frozen (p := ⟨w.heap.size + 1 + 1, 1, none⟩) q2).trans f2_1
    have kr_2 : W2.cell? ⟨w.heap.size + 1 + 1, 2, none⟩ = some (.slice none 0 0) := keep_cell hB q2 k2_2
    have fr_2 : W2.frozen? ⟨w.heap.size + 1 + 1, 2, none⟩ = false := (hB.frozen (p := ⟨w.heap.size + 1 + 1, 2, none⟩) q2).trans f2_2
    have kr_3 : W2.cell? ⟨w.heap.size + 1 + 1, 3, none⟩ = some (.int .i64 0) := keep_cell hB q2 k2_3
    have fr_3 : W2.frozen? ⟨w.heap.size + 1 + 1, 3, none⟩ = false := (hB.frozen (p := ⟨w.heap.size + 1 + 1, 3, none⟩) q2).trans f2_3
    have kr_4 : W2.cell? ⟨w.heap.size + 1 + 1, 4, none⟩ = some (.bool false) := keep_cell hB q2 k2_4
    have fr_4 : W2.frozen? ⟨w.heap.size + 1 + 1, 4, none⟩ = false := (hB.frozen (p := ⟨w.heap.size + 1 + 1, 4, none⟩) q2).trans f2_4
    have kr_5 : W2.cell? ⟨w.heap.size + 1 + 1, 5, none⟩ = some (.slice none 0 0) := keep_cell hB q2 k2_5
    have fr_5 : W2.frozen? ⟨w.heap.size + 1 + 1, 5, none⟩ = false := (hB.frozen (p := ⟨w.heap.size + 1 + 1, 5, none⟩) q2).trans f2_5
    have qr : w.heap.size + 1 + 1 < W2.heap.size := Nat.lt_of_lt_of_le q2 hB.size
    have or5 : w.heap.size + 1 + 1 < b5 := Nat.lt_of_lt_of_le q2 ob5
    clear k0_0 k0_1 k0_2 k1_0 k1_1 k1_2 k2_0 k2_1 k2_2 k2_3 k2_4 k2_5 f2_0 f2_1 f2_2 f2_3 f2_4 f2_5 ng
    have KEEP := hide (show ∀ X, Below W2.heap.size W2 X → X.cell? ⟨w.heap.size, 0, none⟩ = some (.int .i64 s1) ∧ X.cell? ⟨w.heap.size, 1, none⟩ = some (.bool neg1) ∧ X.cell? ⟨w.heap.size, 2, none⟩ = some (.slice A1 l1.length c1) ∧ X.cell? ⟨w.heap.size + 1, 0, none⟩ = some (.int .i64 s2) ∧ X.cell? ⟨w.heap.size + 1, 1, none⟩ = some (.bool neg2) ∧ X.cell? ⟨w.heap.size + 1, 2, none⟩ = some (.slice A2 l2.length c2) ∧ X.cell? ⟨b5, 0, none⟩ = some (.int .i64 s5) ∧ X.cell? ⟨b5, 1, none⟩ = some (.bool neg5) ∧ X.cell? ⟨b5, 2, none⟩ = some (.slice A5 l5.length c5) from fun X hX => ⟨keep_cell hX q0' k0_0', keep_cell hX q0' k0_1', keep_cell hX q0' k0_2', keep_cell hX q1' k1_0', keep_cell hX q1' k1_1', keep_cell hX q1' k1_2', keep_cell hX q5' k5_0', keep_cell hX q5' k5_1', keep_cell hX q5' k5_2'⟩)
    go_wp2_with fail
    go_region_held3 (fun w' => w'.cell? ⟨w.heap.size, 0, none⟩ = some (.int .i64 s1) ∧ w'.cell? ⟨w.heap.size, 1, none⟩ = some (.bool neg1) ∧ w'.cell? ⟨w.heap.size, 2, none⟩ = some (.slice A1 l1.length c1) ∧ w'.cell? ⟨w.heap.size + 1, 0, none⟩ = some (.int .i64 s2) ∧ w'.cell? ⟨w.heap.size + 1, 1, none⟩ = some (.bool neg2) ∧ w'.cell? ⟨w.heap.size + 1, 2, none⟩ = some (.slice A2 l2.length c2) ∧ w'.cell? ⟨b5, 0, none⟩ = some (.int .i64 s5) ∧ w'.cell? ⟨b5, 1, none⟩ = some (.bool neg5) ∧ w'.cell? ⟨b5, 2, none⟩ = some (.slice A5 l5.length c5)) (first | with_reducible exact ⟨(cell_set6 _ _ _ _ _ _ _ _ (by omega)).trans (keep_cell hbw q0' k0_0'), (cell_set6 _ _ _ _ _ _ _ _ (by omega)).trans (keep_cell hbw q0' k0_1'), (cell_set6 _ _ _ _ _ _ _ _ (by omega)).trans (keep_cell hbw q0' k0_2'), (cell_set6 _ _ _ _ _ _ _ _ (by omega)).trans (keep_cell hbw q1' k1_0'), (cell_set6 _ _ _ _ _ _ _ _ (by omega)).trans (keep_cell hbw q1' k1_1'), (cell_set6 _ _ _ _ _ _ _ _ (by omega)).trans (keep_cell hbw q1' k1_2'), (cell_set6 _ _ _ _ _ _ _ _ (by omega)).trans (keep_cell hbw q5' k5_0'), (cell_set6 _ _ _ _ _ _ _ _ (by omega)).trans (keep_cell hbw q5' k5_1'), (cell_set6 _ _ _ _ _ _ _ _ (by omega)).trans (keep_cell hbw q5' k5_2')⟩ | with_reducible exact (unhide KEEP) _ (by (repeat (first | with_reducible exact Below.refl _ _ | with_reducible assumption | with_reducible refine Below.drew ?_ | with_reducible refine below_alloc ?_ _)))) (first | (go_at_call_of 125 (Value.agg #[.int .i64 s1, .bool neg1, .slice A1 l1.length c1]); refine ((unhide HQ1) s1 neg1 A1 c1 l1 s5 neg5 A5 c5 l5 _ (below_step' hw0 (below_step' hB (by (repeat (first | with_reducible exact Below.refl _ _ | with_reducible assumption | with_reducible refine Below.drew ?_ | with_reducible refine below_alloc ?_ _))))) (IntF.below (unhide H1) (below_step' hB (by (repeat (first | with_reducible exact Below.refl _ _ | with_reducible assumption | with_reducible refine Below.drew ?_ | with_reducible refine below_alloc ?_ _))))) (IntF.below (unhide FG) (by (repeat (first | with_reducible exact Below.refl _ _ | with_reducible assumption | with_reducible refine Below.drew ?_ | with_reducible refine below_alloc ?_ _))))).mono ?_; rintro e w' ⟨s8, neg8, A8, c8, l8, rfl, hf8, hb8⟩; have hbw := below_step (w := W2) (by (repeat (first | with_reducible exact Below.refl _ _ | with_reducible assumption | with_reducible refine Below.drew ?_ | with_reducible refine below_alloc ?_ _))) hb8; have hsw := hbw.size; obtain ⟨hc, hfz⟩ := bcell hbw) | (go_at_call_of 125 (Value.agg #[.int .i64 s2, .bool neg2, .slice A2 l2.length c2]); refine ((unhide HQ2) s2 neg2 A2 c2 l2 s5 neg5 A5 c5 l5 _ (below_step' hw0 (below_step' hB (by (repeat (first | with_reducible exact Below.refl _ _ | with_reducible assumption | with_reducible refine Below.drew ?_ | with_reducible refine below_alloc ?_ _))))) (IntF.below (unhide H2) (below_step' hB (by (repeat (first | with_reducible exact Below.refl _ _ | with_reducible assumption | with_reducible refine Below.drew ?_ | with_reducible refine below_alloc ?_ _))))) (IntF.below (unhide FG) (by (repeat (first | with_reducible exact Below.refl _ _ | with_reducible assumption | with_reducible refine Below.drew ?_ | with_reducible refine below_alloc ?_ _))))).mono ?_; rintro e w' ⟨s9, neg9, A9, c9, l9, rfl, hf9, hb9⟩; have hf8 := IntF.below (IntF.below hf8 (by (repeat (first | with_reducible exact Below.refl _ _ | with_reducible assumption | with_reducible refine Below.drew ?_ | with_reducible refine below_alloc ?_ _)))) hb9; have hbw := below_step (w := W2) (by (repeat (first | with_reducible exact Below.refl _ _ | with_reducible assumption | with_reducible refine Below.drew ?_ | with_reducible refine below_alloc ?_ _))) hb9; have hsw := hbw.size; obtain ⟨hc, hfz⟩ := bcell hbw))
    have hBB : Below W0.heap.size W0 w' := below_step' hB hbw
    have hblk : w'.heap[w.heap.size + 1 + 1]? = some (.cells #[.int .i64 0, .bool false, .slice none 0 0, .int .i64 0, .bool false, .slice none 0 0] 63 (0, 0)) := (hBB.block _ q2).trans NR.out
    have HBLK := Lib.hid hblk
    have hb9 : Below w.heap.size w w' := below_step' hw0 hBB
    clear hblk
    go_wp2_with fail
    exact bodyPost_ret (v := (Value.agg #[.int .i64 s8, .bool neg8, .slice A8 l8.length c8, .int .i64 s9, .bool neg9, .slice A9 l9.length c9])) (by simp [results, Tryz.results101, go_sem, hc, kr_0, kr_1, kr_2, kr_3, kr_4, kr_5, qr]) rfl
      ⟨s8, neg8, A8, c8, l8, s9, neg9, A9, c9, l9, rfl, (hf8).upto HBLK.out (noWord6 _ _ _ _ _ _ _ _ _ _) (set6_grown _ _ _ _ _ _ _ _), (hf9).upto HBLK.out (noWord6 _ _ _ _ _ _ _ _ _ _) (set6_grown _ _ _ _ _ _ _ _), hb9.grown (set6_grown _ _ _ _ _ _ _ _) hb9.size (fun k hk => by injection hk with hk; omega)⟩
set_option maxRecDepth 100000 in
set_option maxHeartbeats 16000000 in
theorem newr_neg (s1 : Int) (neg1 : Bool) (A1 : Option Addr) (c1 : Nat) (l1 : List Nat) (s2 : Int) (neg2 : Bool) (A2 : Option Addr) (c2 : Nat) (l2 : List Nat) (z1 z2 g gn r1 r2 : Int) (w : World) (f1 : IntF w s1 neg1 A1 c1 l1 z1) (f2 : IntF w s2 neg2 A2 c2 l2 z2) (hs : z2 < 0) (hgn : gn = -g)
    (hg : Op2 w 124 z1 z2 g) (hq1 : Op2 w 125 z1 gn r1) (hq2 : Op2 w 125 z2 gn r2) :
    Calls Tryz.prog 101 #[(Value.agg #[.int .i64 s1, .bool neg1, .slice A1 l1.length c1]), (Value.agg #[.int .i64 s2, .bool neg2, .slice A2 l2.length c2])] w fun e w' => PairR w r1 r2 e w' := by
  subst hgn
  have H1 := hide f1
  have H2 := hide f2
  have HG := hide hg
  have HQ1 := hide hq1
  have HQ2 := hide hq2
  have hs' : decide (sgn z2 < 0) = true := decide_eq_true (by rw [sgn_neg]; exact hs)
  obtain ⟨o, ho⟩ : ∃ o, o = sgn z2 := ⟨_, rfl⟩
  have HS := hide (fun W (f : IntF W s2 neg2 A2 c2 l2 z2) => (show Calls Tryz.prog 128 #[(Value.agg #[.int .i64 s2, .bool neg2, .slice A2 l2.length c2])] W fun e w' => e = .returned (.int .i64 o) ∧ Below W.heap.size W w' by rw [ho]; exact sign_any s2 neg2 A2 c2 l2 z2 W f))
  rw [← ho] at hs'
  clear f1 f2 hg hq1 hq2 hs ho
  go_enter Tryz.func101, Tryz.ntmps101
  go_upto_region 1 with fail
  obtain ⟨n0, n1, n2, hsz, hw0⟩ := three_new w (.cells #[.int .i64 s1, .bool neg1, .slice A1 l1.length c1] 61) (.cells #[.int .i64 s2, .bool neg2, .slice A2 l2.length c2] 61) (.cells #[.int .i64 0, .bool false, .slice none 0 0, .int .i64 0, .bool false, .slice none 0 0] 63)
  generalize (((w.alloc (.cells #[.int .i64 s1, .bool neg1, .slice A1 l1.length c1] 61)).alloc (.cells #[.int .i64 s2, .bool neg2, .slice A2 l2.length c2] 61)).alloc (.cells #[.int .i64 0, .bool false, .slice none 0 0, .int .i64 0, .bool false, .slice none 0 0] 63)) = W0 at *
  have k0_0 : W0.cell? ⟨w.heap.size, 0, none⟩ = some (.int .i64 s1) := cells_of n0 0
  have k0_1 : W0.cell? ⟨w.heap.size, 1, none⟩ = some (.bool neg1) := cells_of n0 1
  have k0_2 : W0.cell? ⟨w.heap.size, 2, none⟩ = some (.slice A1 l1.length c1) := cells_of n0 2
  have q0 : w.heap.size < W0.heap.size := by omega
  have k1_0 : W0.cell? ⟨w.heap.size + 1, 0, none⟩ = some (.int .i64 s2) := cells_of n1 0
  have k1_1 : W0.cell? ⟨w.heap.size + 1, 1, none⟩ = some (.bool neg2) := cells_of n1 1
  have k1_2 : W0.cell? ⟨w.heap.size + 1, 2, none⟩ = some (.slice A2 l2.length c2) := cells_of n1 2
  have q1 : w.heap.size + 1 < W0.heap.size := by omega
  have k2_0 : W0.cell? ⟨w.heap.size + 1 + 1, 0, none⟩ = some (.int .i64 0) := cells_of n2 0
  have k2_1 : W0.cell? ⟨w.heap.size + 1 + 1, 1, none⟩ = some (.bool false) := cells_of n2 1
  have k2_2 : W0.cell? ⟨w.heap.size + 1 + 1, 2, none⟩ = some (.slice none 0 0) := cells_of n2 2
  have k2_3 : W0.cell? ⟨w.heap.size + 1 + 1, 3, none⟩ = some (.int .i64 0) := cells_of n2 3
  have k2_4 : W0.cell? ⟨w.heap.size + 1 + 1, 4, none⟩ = some (.bool false) := cells_of n2 4
  have k2_5 : W0.cell? ⟨w.heap.size + 1 + 1, 5, none⟩ = some (.slice none 0 0) := cells_of n2 5
  have q2 : w.heap.size + 1 + 1 < W0.heap.size := by omega
  have f2_0 := unfrozen_of n2 0
  have f2_1 := unfrozen_of n2 1
  have f2_2 := unfrozen_of n2 2
  have f2_3 := unfrozen_of n2 3
  have f2_4 := unfrozen_of n2 4
  have f2_5 := unfrozen_of n2 5
  have NR := Lib.hid n2
  clear hsz n0 n1 n2
  replace H1 := hide ((unhide H1).below hw0)
  replace H2 := hide ((unhide H2).below hw0)
  go_cut [5] (fun s5_ wx => ∃ b5 : Nat, s5_ = .pointer (some ⟨b5, 0, none⟩) ∧ BoxI wx b5 g ∧ Below W0.heap.size W0 wx ∧ W0.heap.size ≤ b5)
  case first =>
    go_wp2_with fail
    refine ((unhide HG) s1 neg1 A1 c1 l1 s2 neg2 A2 c2 l2 _ hw0 (unhide H1) (unhide H2)).mono ?_
    rintro e w' ⟨s5, neg5, A5, c5, l5, rfl, hf5, hb5⟩
    go_wp2_with fail
    go_meet
    exact ⟨_, rfl, put_n hf5 hb5 rfl⟩
  case rest =>
    revert hcut
    generalize wc = W1
    intro hcut
    obtain ⟨b5, rfl, ⟨s5, neg5, A5, c5, l5, n5, f5⟩, hB1, ob5⟩ := hcut
    have k5_0 : W1.cell? ⟨b5, 0, none⟩ = some (.int .i64 s5) := cells_of n5 0
    have k5_1 : W1.cell? ⟨b5, 1, none⟩ = some (.bool neg5) := cells_of n5 1
    have k5_2 : W1.cell? ⟨b5, 2, none⟩ = some (.slice A5 l5.length c5) := cells_of n5 2
    have y0 : W1.cell? ⟨w.heap.size + 1, 0, none⟩ = some (.int .i64 s2) := keep_cell hB1 q1 k1_0
    have y1 : W1.cell? ⟨w.heap.size + 1, 1, none⟩ = some (.bool neg2) := keep_cell hB1 q1 k1_1
    have y2 : W1.cell? ⟨w.heap.size + 1, 2, none⟩ = some (.slice A2 l2.length c2) := keep_cell hB1 q1 k1_2
    go_wp2_with fail
    refine ((unhide HS) W1 ((unhide H2).below hB1)).mono ?_
    rintro e W2 ⟨rfl, hb⟩
    have q5 := lt_of_block n5
    have n5' := (hb.block _ q5).trans n5
    have f5' := f5.below hb
    have hB := below_step' hB1 hb
    clear k5_0 k5_1 k5_2 y0 y1 y2 f5 n5 hB1
    have k5_0 : W2.cell? ⟨b5, 0, none⟩ = some (.int .i64 s5) := cells_of n5' 0
    have k5_1 : W2.cell? ⟨b5, 1, none⟩ = some (.bool neg5) := cells_of n5' 1
    have k5_2 : W2.cell? ⟨b5, 2, none⟩ = some (.slice A5 l5.length c5) := cells_of n5' 2
    have F5 := hide f5'
    clear f5' hb
    go_wp2_with fail
    refine (neg_any s5 neg5 A5 c5 l5 g _ (unhide F5)).mono ?_
    rintro e W3 ⟨s7, neg7, A7, c7, l7, rfl, hf7, hb⟩
    have n5 := (hb.block _ (lt_of_block n5')).trans n5'
    replace hB := below_step' hB hb
    clear k5_0 k5_1 k5_2 n5' hb
    have k5_0 : W3.cell? ⟨b5, 0, none⟩ = some (.int .i64 s5) := cells_of n5 0
    have k5_1 : W3.cell? ⟨b5, 1, none⟩ = some (.bool neg5) := cells_of n5 1
    have k5_2 : W3.cell? ⟨b5, 2, none⟩ = some (.slice A5 l5.length c5) := cells_of n5 2
    have u5_0 := unfrozen_of n5 0
    have u5_1 := unfrozen_of n5 1
    have u5_2 := unfrozen_of n5 2
    have HF7 := hide hf7
    have N5 := hide n5
    clear hf7 n5
    go_upto_region 4 with fail
    have pb := set3_block (u0 := .int .i64 s7) (u1 := .bool neg7) (u2 := .slice A7 l7.length c7) (unhide N5)
    have g3 := set3_grown W3 b5 (.int .i64 s7) (.bool neg7) (.slice A7 l7.length c7)
    have fg := (unhide HF7).upto (unhide N5) (noWord3 _ _ _ _ _) g3
    replace hB := hB.grown g3 hB.size (fun k hk => by injection hk with hk; omega)
    have ng := pb
    clear pb g3 k5_0 k5_1 k5_2 u5_0 u5_1 u5_2
    generalize (((W3.setCell ⟨b5, 0, none⟩ (.int .i64 s7)).setCell ⟨b5, 1, none⟩ (.bool neg7)).setCell ⟨b5, 2, none⟩ (.slice A7 l7.length c7)) = W4 at *
    have FG := hide fg
    clear fg
    have k0_0' : W4.cell? ⟨w.heap.size, 0, none⟩ = some (.int .i64 s1) := keep_cell hB q0 k0_0
    have k0_1' : W4.cell? ⟨w.heap.size, 1, none⟩ = some (.bool neg1) := keep_cell hB q0 k0_1
    have k0_2' : W4.cell? ⟨w.heap.size, 2, none⟩ = some (.slice A1 l1.length c1) := keep_cell hB q0 k0_2
    have q0' : w.heap.size < W4.heap.size := Nat.lt_of_lt_of_le q0 hB.size
    have k1_0' : W4.cell? ⟨w.heap.size + 1, 0, none⟩ = some (.int .i64 s2) := keep_cell hB q1 k1_0
    have k1_1' : W4.cell? ⟨w.heap.size + 1, 1, none⟩ = some (.bool neg2) := keep_cell hB q1 k1_1
    have k1_2' : W4.cell? ⟨w.heap.size + 1, 2, none⟩ = some (.slice A2 l2.length c2) := keep_cell hB q1 k1_2
    have q1' : w.heap.size + 1 < W4.heap.size := Nat.lt_of_lt_of_le q1 hB.size
    have k5_0' := cells_of ng 0
    have k5_1' := cells_of ng 1
    have k5_2' := cells_of ng 2
    have q5' := lt_of_block ng
    simp only [Array.getElem?_eq_getElem, three0, three1, three2] at k5_0' k5_1' k5_2'
    have kr_0 : W4.cell? ⟨w.heap.size + 1 + 1, 0, none⟩ = some (.int .i64 0) := keep_cell hB q2 k2_0
    have fr_0 : W4.frozen? ⟨w.heap.size + 1 + 1, 0, none⟩ = false := (hB.frozen (p := ⟨w.heap.size + 1 + 1, 0, none⟩) q2).trans f2_0
    have kr_1 : W4.cell? ⟨w.heap.size + 1 + 1, 1, none⟩ = some (.bool false) := keep_cell hB q2 k2_1
    have fr_1 : W4.frozen? ⟨w.heap.size + 1 + 1, 1, none⟩ = false := (hB.frozen (p := ⟨w.heap.size + 1 + 1, 1, none⟩) q2).trans f2_1
    have kr_2 : W4.cell? ⟨w.heap.size + 1 + 1, 2, none⟩ = some (.slice none 0 0) := keep_cell hB q2 k2_2
    have fr_2 : W4.frozen? ⟨w.heap.size + 1 + 1, 2, none⟩ = false := (hB.frozen (p := ⟨w.heap.size + 1 + 1, 2, none⟩) q2).trans f2_2
    have kr_3 : W4.cell? ⟨w.heap.size + 1 + 1, 3, none⟩ = some (.int .i64 0) := keep_cell hB q2 k2_3
    have fr_3 : W4.frozen? ⟨w.heap.size + 1 + 1, 3, none⟩ = false := (hB.frozen (p := ⟨w.heap.size + 1 + 1, 3, none⟩) q2).trans f2_3
    have kr_4 : W4.cell? ⟨w.heap.size + 1 + 1, 4, none⟩ = some (.bool false) := keep_cell hB q2 k2_4
    have fr_4 : W4.frozen? ⟨w.heap.size + 1 + 1, 4, none⟩ = false := (hB.frozen (p := ⟨w.heap.size + 1 + 1, 4, none⟩) q2).trans f2_4
    have kr_5 : W4.cell? ⟨w.heap.size + 1 + 1, 5, none⟩ = some (.slice none 0 0) := keep_cell hB q2 k2_5
    have fr_5 : W4.frozen? ⟨w.heap.size + 1 + 1, 5, none⟩ = false := (hB.frozen (p := ⟨w.heap.size + 1 + 1, 5, none⟩) q2).trans f2_5
    have qr : w.heap.size + 1 + 1 < W4.heap.size := Nat.lt_of_lt_of_le q2 hB.size
    have or5 : w.heap.size + 1 + 1 < b5 := Nat.lt_of_lt_of_le q2 ob5
    clear k0_0 k0_1 k0_2 k1_0 k1_1 k1_2 k2_0 k2_1 k2_2 k2_3 k2_4 k2_5 f2_0 f2_1 f2_2 f2_3 f2_4 f2_5 ng
    have KEEP := hide (show ∀ X, Below W4.heap.size W4 X → X.cell? ⟨w.heap.size, 0, none⟩ = some (.int .i64 s1) ∧ X.cell? ⟨w.heap.size, 1, none⟩ = some (.bool neg1) ∧ X.cell? ⟨w.heap.size, 2, none⟩ = some (.slice A1 l1.length c1) ∧ X.cell? ⟨w.heap.size + 1, 0, none⟩ = some (.int .i64 s2) ∧ X.cell? ⟨w.heap.size + 1, 1, none⟩ = some (.bool neg2) ∧ X.cell? ⟨w.heap.size + 1, 2, none⟩ = some (.slice A2 l2.length c2) ∧ X.cell? ⟨b5, 0, none⟩ = some (.int .i64 s7) ∧ X.cell? ⟨b5, 1, none⟩ = some (.bool neg7) ∧ X.cell? ⟨b5, 2, none⟩ = some (.slice A7 l7.length c7) from fun X hX => ⟨keep_cell hX q0' k0_0', keep_cell hX q0' k0_1', keep_cell hX q0' k0_2', keep_cell hX q1' k1_0', keep_cell hX q1' k1_1', keep_cell hX q1' k1_2', keep_cell hX q5' k5_0', keep_cell hX q5' k5_1', keep_cell hX q5' k5_2'⟩)
    go_wp2_with fail
    go_region_held3 (fun w' => w'.cell? ⟨w.heap.size, 0, none⟩ = some (.int .i64 s1) ∧ w'.cell? ⟨w.heap.size, 1, none⟩ = some (.bool neg1) ∧ w'.cell? ⟨w.heap.size, 2, none⟩ = some (.slice A1 l1.length c1) ∧ w'.cell? ⟨w.heap.size + 1, 0, none⟩ = some (.int .i64 s2) ∧ w'.cell? ⟨w.heap.size + 1, 1, none⟩ = some (.bool neg2) ∧ w'.cell? ⟨w.heap.size + 1, 2, none⟩ = some (.slice A2 l2.length c2) ∧ w'.cell? ⟨b5, 0, none⟩ = some (.int .i64 s7) ∧ w'.cell? ⟨b5, 1, none⟩ = some (.bool neg7) ∧ w'.cell? ⟨b5, 2, none⟩ = some (.slice A7 l7.length c7)) (first | with_reducible exact ⟨(cell_set6 _ _ _ _ _ _ _ _ (by omega)).trans (keep_cell hbw q0' k0_0'), (cell_set6 _ _ _ _ _ _ _ _ (by omega)).trans (keep_cell hbw q0' k0_1'), (cell_set6 _ _ _ _ _ _ _ _ (by omega)).trans (keep_cell hbw q0' k0_2'), (cell_set6 _ _ _ _ _ _ _ _ (by omega)).trans (keep_cell hbw q1' k1_0'), (cell_set6 _ _ _ _ _ _ _ _ (by omega)).trans (keep_cell hbw q1' k1_1'), (cell_set6 _ _ _ _ _ _ _ _ (by omega)).trans (keep_cell hbw q1' k1_2'), (cell_set6 _ _ _ _ _ _ _ _ (by omega)).trans (keep_cell hbw q5' k5_0'), (cell_set6 _ _ _ _ _ _ _ _ (by omega)).trans (keep_cell hbw q5' k5_1'), (cell_set6 _ _ _ _ _ _ _ _ (by omega)).trans (keep_cell hbw q5' k5_2')⟩ | with_reducible exact (unhide KEEP) _ (by (repeat (first | with_reducible exact Below.refl _ _ | with_reducible assumption | with_reducible refine Below.drew ?_ | with_reducible refine below_alloc ?_ _)))) (first | (go_at_call_of 125 (Value.agg #[.int .i64 s1, .bool neg1, .slice A1 l1.length c1]); refine ((unhide HQ1) s1 neg1 A1 c1 l1 s7 neg7 A7 c7 l7 _ (below_step' hw0 (below_step' hB (by (repeat (first | with_reducible exact Below.refl _ _ | with_reducible assumption | with_reducible refine Below.drew ?_ | with_reducible refine below_alloc ?_ _))))) (IntF.below (unhide H1) (below_step' hB (by (repeat (first | with_reducible exact Below.refl _ _ | with_reducible assumption | with_reducible refine Below.drew ?_ | with_reducible refine below_alloc ?_ _))))) (IntF.below (unhide FG) (by (repeat (first | with_reducible exact Below.refl _ _ | with_reducible assumption | with_reducible refine Below.drew ?_ | with_reducible refine below_alloc ?_ _))))).mono ?_; rintro e w' ⟨s8, neg8, A8, c8, l8, rfl, hf8, hb8⟩; have hbw := below_step (w := W4) (by (repeat (first | with_reducible exact Below.refl _ _ | with_reducible assumption | with_reducible refine Below.drew ?_ | with_reducible refine below_alloc ?_ _))) hb8; have hsw := hbw.size; obtain ⟨hc, hfz⟩ := bcell hbw) | (go_at_call_of 125 (Value.agg #[.int .i64 s2, .bool neg2, .slice A2 l2.length c2]); refine ((unhide HQ2) s2 neg2 A2 c2 l2 s7 neg7 A7 c7 l7 _ (below_step' hw0 (below_step' hB (by (repeat (first | with_reducible exact Below.refl _ _ | with_reducible assumption | with_reducible refine Below.drew ?_ | with_reducible refine below_alloc ?_ _))))) (IntF.below (unhide H2) (below_step' hB (by (repeat (first | with_reducible exact Below.refl _ _ | with_reducible assumption | with_reducible refine Below.drew ?_ | with_reducible refine below_alloc ?_ _))))) (IntF.below (unhide FG) (by (repeat (first | with_reducible exact Below.refl _ _ | with_reducible assumption | with_reducible refine Below.drew ?_ | with_reducible refine below_alloc ?_ _))))).mono ?_; rintro e w' ⟨s9, neg9, A9, c9, l9, rfl, hf9, hb9⟩; have hf8 := IntF.below (IntF.below hf8 (by (repeat (first | with_reducible exact Below.refl _ _ | with_reducible assumption | with_reducible refine Below.drew ?_ | with_reducible refine below_alloc ?_ _)))) hb9; have hbw := below_step (w := W4) (by (repeat (first | with_reducible exact Below.refl _ _ | with_reducible assumption | with_reducible refine Below.drew ?_ | with_reducible refine below_alloc ?_ _))) hb9; have hsw := hbw.size; obtain ⟨hc, hfz⟩ := bcell hbw))
    have hBB : Below W0.heap.size W0 w' := below_step' hB hbw
    have hblk : w'.heap[w.heap.size + 1 + 1]? = some (.cells #[.int .i64 0, .bool false, .slice none 0 0, .int .i64 0, .bool false, .slice none 0 0] 63 (0, 0)) := (hBB.block _ q2).trans NR.out
    have HBLK := Lib.hid hblk
    have hb9 : Below w.heap.size w w' := below_step' hw0 hBB
    clear hblk
    go_wp2_with fail
    exact bodyPost_ret (v := (Value.agg #[.int .i64 s8, .bool neg8, .slice A8 l8.length c8, .int .i64 s9, .bool neg9, .slice A9 l9.length c9])) (by simp [results, Tryz.results101, go_sem, hc, kr_0, kr_1, kr_2, kr_3, kr_4, kr_5, qr]) rfl
      ⟨s8, neg8, A8, c8, l8, s9, neg9, A9, c9, l9, rfl, (hf8).upto HBLK.out (noWord6 _ _ _ _ _ _ _ _ _ _) (set6_grown _ _ _ _ _ _ _ _), (hf9).upto HBLK.out (noWord6 _ _ _ _ _ _ _ _ _ _) (set6_grown _ _ _ _ _ _ _ _), hb9.grown (set6_grown _ _ _ _ _ _ _ _) hb9.size (fun k hk => by injection hk with hk; omega)⟩
theorem newr_any {K : Nat} (s1 : Int) (neg1 : Bool) (A1 : Option Addr) (c1 : Nat) (l1 : List Nat) (s2 : Int) (neg2 : Bool) (A2 : Option Addr) (c2 : Nat) (l2 : List Nat) (z1 z2 : Int) (w : World) (hT : Tab w) (f1 : IntF w s1 neg1 A1 c1 l1 z1) (f2 : IntF w s2 neg2 A2 c2 l2 z2) (h0 : z2 ≠ 0) (hx : Wd.Sz B64 K z1) (hy : Wd.Sz B64 K z2) (hK : K ≤ lim) :
    Calls Tryz.prog 101 #[(Value.agg #[.int .i64 s1, .bool neg1, .slice A1 l1.length c1]), (Value.agg #[.int .i64 s2, .bool neg2, .slice A2 l2.length c2])] w fun e w' => PairR w (Rat.divInt z1 z2).num ((Rat.divInt z1 z2).den : Int) e w' := by
  have hp := Wd.divInt_parts z1 z2 h0
  have g0 : 0 < z1.natAbs.gcd z2.natAbs := Nat.gcd_pos_of_pos_right _ (by omega)
  have sg : Wd.Sz B64 K ((z1.natAbs.gcd z2.natAbs : Nat) : Int) := hy.gcd_right h0
  rw [hp.1, hp.2]
  by_cases hs : z2 < 0
  · have e : z2.sign * ((z1.natAbs.gcd z2.natAbs : Nat) : Int) = -((z1.natAbs.gcd z2.natAbs : Nat) : Int) := by rw [Int.sign_eq_neg_one_of_neg hs]; omega
    rw [e]
    exact newr_neg s1 neg1 A1 c1 l1 s2 neg2 A2 c2 l2 z1 z2 _ _ _ _ w f1 f2 hs rfl (op_gcd hT hx hy hK rfl) (op_quo hx sg.neg hK (by omega) rfl) (op_quo hy sg.neg hK (by omega) rfl)
  · have e : z2.sign * ((z1.natAbs.gcd z2.natAbs : Nat) : Int) = ((z1.natAbs.gcd z2.natAbs : Nat) : Int) := by rw [Int.sign_eq_one_of_pos (by omega)]; omega
    rw [e]
    exact newr_pos s1 neg1 A1 c1 l1 s2 neg2 A2 c2 l2 z1 z2 _ _ _ w f1 f2 hs (op_gcd hT hx hy hK rfl) (op_quo hx sg hK (by omega) rfl) (op_quo hy sg hK (by omega) rfl)

end Go.Proofs.YtpjgoogeokbaaaaGreatDoor
/- The number of two ints. -/
namespace Go.Proofs.YtpjgoogeokbaaaaGreatDoor
open Go.RowKit

/-- What Make tells. -/
def mkE (n d : Int) : Wd.Told := if d = 0 then ⟨0, 0, 1⟩ else Wd.told (Rat.divInt n d)
set_option maxRecDepth 100000 in
set_option maxHeartbeats 16000000 in
theorem make_zero (n : Int) (w : World) : Calls Tryz.prog 48 #[.int .i64 n, .int .i64 0] w fun e w' => TolR w ⟨0, 0, 1⟩ e w' := by
  go_enter Tryz.func48, Tryz.ntmps48
  go_wp2
  exact bodyPost_ret (v := .tuple #[.agg #[.int .i64 0, .int .i64 0], .int .i64 1]) (by simp [results, Tryz.results48, go_sem]) rfl
    ⟨rfl, (Below.refl _ _).alloc (Nat.le_refl _) _⟩
set_option maxRecDepth 100000 in
set_option maxHeartbeats 16000000 in
theorem make_any (n d : Int) (w : World) (hT : Tab w) (b1 : -9223372036854775808 ≤ n) (b2 : n ≤ 9223372036854775807) (b3 : -9223372036854775808 ≤ d) (b4 : d ≤ 9223372036854775807) :
    Calls Tryz.prog 48 #[.int .i64 n, .int .i64 d] w fun e w' => TolR w (mkE n d) e w' := by
  unfold mkE
  by_cases h0 : d = 0
  · subst h0; rw [if_pos rfl]; exact make_zero n w
  rw [if_neg h0]
  obtain ⟨q, hq⟩ : ∃ q, q = Rat.divInt n d := ⟨_, rfl⟩
  have B : (9223372036854775808 : Nat) < B64 := by rw [B64_eq]; omega
  have HN := hide (fun (s5 : Int) (neg5 : Bool) (A5 : Option Addr) (c5 : Nat) (l5 : List Nat) (s6 : Int) (neg6 : Bool) (A6 : Option Addr) (c6 : Nat) (l6 : List Nat) (W : World) (hW : Tab W) (f5 : IntF W s5 neg5 A5 c5 l5 n) (f6 : IntF W s6 neg6 A6 c6 l6 d) => newr_any (K := 1) s5 neg5 A5 c5 l5 s6 neg6 A6 c6 l6 n d W hW f5 f6 h0 (Wd.Sz.of_le (by omega) B64_pos (Nat.le_refl _)) (Wd.Sz.of_le (by omega) B64_pos (Nat.le_refl _)) (by unfold lim; omega))
  rw [← hq] at HN ⊢
  have HO1 := hide (fun W => newInt_any n b1 b2 W)
  have HO2 := hide (fun W => newInt_any d b3 b4 W)
  have hz : (d == 0) = false := beq_eq_false_iff_ne.2 h0
  have HT := hide hT
  have HRT := hide (fun (s9 : Int) (neg9 : Bool) (A9 : Option Addr) (c9 : Nat) (l9 : List Nat) (s10 : Int) (neg10 : Bool) (A10 : Option Addr) (c10 : Nat) (l10 : List Nat) (W : World) (f9 : IntF W s9 neg9 A9 c9 l9 q.num) (f10 : IntF W s10 neg10 A10 c10 l10 (q.den : Int)) => rrat_any s9 neg9 A9 c9 l9 q.num s10 neg10 A10 c10 l10 (q.den : Int) W f9 f10 q rfl rfl)
  obtain ⟨tn, htn⟩ : ∃ x, x = (Wd.told q).n := ⟨_, rfl⟩
  obtain ⟨td, htd⟩ : ∃ x, x = (Wd.told q).d := ⟨_, rfl⟩
  obtain ⟨te, hte⟩ : ∃ x, x = (Wd.told q).e := ⟨_, rfl⟩
  rw [← htn, ← htd, ← hte] at HRT
  have HTL := Lib.hid (show Wd.told q = ⟨tn, td, te⟩ by rw [htn, htd, hte])
  clear htn htd hte
  clear hT h0 b1 b2 b3 b4 hq
  go_enter Tryz.func48, Tryz.ntmps48
  go_wp2_with fail
  have nr := heap_alloc_new w (.cells #[.int .i64 0, .int .i64 0] 23)
  have hw0 : Below w.heap.size w (w.alloc (.cells #[.int .i64 0, .int .i64 0] 23)) := below_alloc (Below.refl _ _) _
  generalize w.alloc (.cells #[.int .i64 0, .int .i64 0] 23) = W0 at *
  have NR := Lib.hid nr
  clear nr
  refine ((unhide HO1) _).mono ?_
  rintro e W1 ⟨s5, neg5, A5, c5, l5, rfl, hf5, hb5⟩
  go_wp2_with fail
  refine ((unhide HO2) _).mono ?_
  rintro e W2 ⟨s6, neg6, A6, c6, l6, rfl, hf6, hb6⟩
  have hB := below_step' hb5 hb6
  go_wp2_with fail
  refine ((unhide HN) s5 neg5 A5 c5 l5 s6 neg6 A6 c6 l6 _ ((unhide HT).below (below_step' hw0 hB)) (hf5.below hb6) hf6).mono ?_
  rintro e W3 ⟨s9, neg9, A9, c9, l9, s10, neg10, A10, c10, l10, rfl, hf9, hf10, hb9⟩
  replace hB := below_step' hB hb9
  go_wp2_with fail
  refine ((unhide HRT) s9 neg9 A9 c9 l9 s10 neg10 A10 c10 l10 _ hf9 hf10).mono ?_
  rintro e W4 ⟨rfl, hb10⟩
  replace hB := below_step' hB hb10
  have nr4 := (hB.block _ (lt_of_block NR.out)).trans NR.out
  have k0 : W4.cell? ⟨w.heap.size, 0, none⟩ = some (.int .i64 0) := cells_of nr4 0
  have k1 : W4.cell? ⟨w.heap.size, 1, none⟩ = some (.int .i64 0) := cells_of nr4 1
  have u0 := unfrozen_of nr4 0
  have u1 := unfrozen_of nr4 1
  have hbn : Below w.heap.size w W4 := below_step' hw0 hB
  clear nr4
  go_wp2_with fail
  exact bodyPost_ret (v := .tuple #[.agg #[.int .i64 tn, .int .i64 td], .int .i64 te]) (by simp [results, Tryz.results48, go_sem, k0, k1]) rfl
    ⟨HTL.out ▸ rfl, hbn.grown (set2_grown _ _ _ _) hbn.size (fun k hk => by injection hk with hk; omega)⟩

end Go.Proofs.YtpjgoogeokbaaaaGreatDoor
/- The document's examples. -/
namespace Go.Proofs.YtpjgoogeokbaaaaGreatDoor
open Go.RowKit

theorem told_ext {t : Wd.Told} {a b c : Int} (h : t.n = a ∧ t.d = b ∧ t.e = c) : t = ⟨a, b, c⟩ := by
  cases t
  obtain ⟨rfl, rfl, rfl⟩ := h
  rfl
set_option maxRecDepth 100000 in
set_option maxHeartbeats 16000000 in
theorem known_any (w : World) (hT : Tab w) : Calls Tryz.prog 11 #[] w fun e w' => e = .returned (.bool true) ∧ Below w.heap.size w w' := by
  have HM := hide (fun W (hW : Tab W) => make_any (-6) 4 W hW (by omega) (by omega) (by omega) (by omega))
  rw [told_ext (t := mkE (-6) 4) (a := -3) (b := 2) (c := 0) (by decide +kernel)] at HM
  have HF := hide (floor_any (-3) 2)
  rw [show floorV (-3) 2 = -2 by decide, show valE (-3) 2 = 0 by decide] at HF
  have HN := hide near_known
  have HT := hide hT
  clear hT
  go_enter Tryz.func11, Tryz.ntmps11
  go_wp2_with fail
  refine ((unhide HM) _ (unhide HT)).mono ?_
  rintro e W1 ⟨rfl, hb1⟩
  go_wp2_with fail
  have nx := heap_alloc_new W1 (.cells #[.int .i64 (-3), .int .i64 2] 23)
  have hb2 := below_step' hb1 (below_alloc (Below.refl _ _) (.cells #[.int .i64 (-3), .int .i64 2] 23))
  generalize W1.alloc (.cells #[.int .i64 (-3), .int .i64 2] 23) = W2 at *
  obtain ⟨bx, hbx⟩ : ∃ b, b = W1.heap.size := ⟨_, rfl⟩
  rw [← hbx] at nx ⊢
  clear hb1 hbx
  refine ((unhide HF) _ ((unhide HT).below hb2)).mono ?_
  rintro e W3 ⟨rfl, hb⟩
  have nx3 := (hb.block _ (lt_of_block nx)).trans nx
  have hb3 := below_step' hb2 hb
  clear nx hb hb2
  go_wp2_with fail
  refine ((unhide HN) _ ((unhide HT).below hb3)).mono ?_
  rintro e W4 ⟨rfl, hb⟩
  have nx4 := (hb.block _ (lt_of_block nx3)).trans nx3
  have hb4 := below_step' hb3 hb
  have hlt := lt_of_block nx4
  have k0 : W4.cell? ⟨bx, 0, none⟩ = some (.int .i64 (-3)) := cells_of nx4 0
  have k1 : W4.cell? ⟨bx, 1, none⟩ = some (.int .i64 2) := cells_of nx4 1
  have hne : ¬ (bx = W4.heap.size) := by omega
  clear nx3 nx4 hb hb3
  go_wp2
  go_ret
  exact ⟨rfl, below_alloc hb4 _⟩

end Go.Proofs.YtpjgoogeokbaaaaGreatDoor
/- The reference's amounts in words of 32 bits: their memory; trimming; order. -/
namespace Go.Proofs.YtpjgoogeokbaaaaGreatDoor
open Go.RowKit

structure NatT (w : World) (A : Option Addr) (cap : Nat) (l : List Nat) (n : Nat) : Prop where
  ws : Ws .u32 w w.heap.size A l
  cap1 : l.length ≤ cap
  cap2 : cap ≤ 9223372036854775807
  lt : ∀ x ∈ l, x < B32
  norm : Wd.Norm l
  val : Wd.val B32 l = n

theorem NatT.below {w w' : World} {A : Option Addr} {cap : Nat} {l : List Nat} {n : Nat} (h : NatT w A cap l n) (hb : Below w.heap.size w w') : NatT w' A cap l n :=
  ⟨(h.ws.below hb).more hb.size, h.cap1, h.cap2, h.lt, h.norm, h.val⟩
theorem NatT.len {w : World} {A : Option Addr} {cap : Nat} {l : List Nat} {n k : Nat} (h : NatT w A cap l n) (hn : n < B32 ^ k) : l.length ≤ k :=
  Wd.norm_len B32_pos l h.norm k (by rw [h.val]; exact hn)
theorem NatT.nil_ (w : World) (cap : Nat) (hc : cap ≤ 9223372036854775807) : NatT w none cap [] 0 := ⟨Ws.nil_, by simp, hc, by simp, .inl rfl, rfl⟩
theorem NatT.lt_pow {w : World} {A : Option Addr} {cap : Nat} {l : List Nat} {n : Nat} (h : NatT w A cap l n) : n < B32 ^ l.length := by
  rw [← h.val]; exact Wd.val_lt l h.lt

/-- What a call hands back: a number in memory of its own; what was there is as it was. -/
def NatU (w : World) (n : Nat) (e : Ending) (w' : World) : Prop := ∃ A cap l, e = .returned (.slice A l.length cap) ∧ NatT w' A cap l n ∧ Below w.heap.size w w'

theorem NatT.of_trim {w : World} {b cap : Nat} {T : TypeId} {zs : List Nat} {k : Nat} (hz : ZB .u32 w b T zs) (hlt : ∀ x ∈ zs, x < B32) (ht : Wd.IsTrim zs (zs.take k)) (hk : k ≤ zs.length) (hc : zs.length ≤ cap) (hc2 : cap ≤ 9223372036854775807) :
    NatT w (some ⟨b, 0, none⟩) cap (zs.take k) (Wd.val B32 zs) :=
  ⟨(hz.ws0 _ hz.lt).take_ k, by simp; omega, hc2, fun x hx => hlt x (List.mem_of_mem_take hx), ht.norm, ht.val _⟩

set_option maxHeartbeats 400000 in
theorem ttrim_any (A : Option Addr) (cap : Nat) (l : List Nat) (B : Nat) (w : World) (hr : Ws .u32 w B A l) (hcap : l.length ≤ cap) (hm : cap ≤ 9223372036854775807) :
    Calls Tryz.prog 142 #[.slice A l.length cap] w fun e w' => (∃ k, e = .returned (.slice A k cap) ∧ Wd.IsTrim l (l.take k) ∧ k ≤ l.length) ∧ w' = w := by
  go_enter Tryz.func142, Tryz.ntmps142
  go_wp2
  go_loop [0] (fun v => ∃ k : Nat, k ≤ l.length ∧ v = .slice A k cap ∧ ∀ i, k ≤ i → i < l.length → l.getD i 0 = 0) (fun v => slen v)
  case atStart => exact ⟨l.length, Nat.le_refl _, rfl, fun i h1 h2 => by omega⟩
  case round =>
    obtain ⟨k, hk, rfl, hz⟩ := hrel
    have HZ := Lib.hid hz
    clear hz
    by_cases h0 : k = 0
    · subst h0
      go_wp2
      go_ret
      exact ⟨⟨0, rfl, ⟨0, Nat.zero_le _, rfl, HZ.out, .inl rfl⟩, Nat.zero_le _⟩, rfl⟩
    · obtain ⟨b, off, rfl, hb, hc⟩ := hr (by omega)
      have hck := hc (k - 1) (by omega)
      clear hc
      go_wp2
      · have ht : (((Wd.g l (k - 1) : Nat) : Int) == 0) = true := by assumption
        go_round
        case rel =>
          refine ⟨k - 1, by omega, rfl, fun i h1 h2 => ?_⟩
          by_cases hi : i = k - 1
          · subst hi; have := beq_iff_eq.1 ht; rw [Wd.g_def] at this; omega
          · exact HZ.out i (by omega) h2
        case measure => simp [slen]; omega
      · have ht : (((Wd.g l (k - 1) : Nat) : Int) == 0) = false := by assumption
        go_ret
        refine ⟨⟨k, rfl, ⟨k, hk, rfl, HZ.out, .inr ?_⟩, hk⟩, rfl⟩
        have := beq_eq_false_iff_ne.1 ht; rw [Wd.g_def] at this; omega

theorem drewE {w w1 : World} (h : ∃ t, w1 = w.drewN t) (k : Nat) : ∃ t, w1.drewN k = w.drewN t := by
  obtain ⟨t, rfl⟩ := h
  exact ⟨t + k, by simp [World.drewN, Nat.add_assoc]⟩
theorem World.drewN_drewN (w : World) (a b : Nat) : (w.drewN a).drewN b = w.drewN (a + b) := by
  simp [World.drewN, Nat.add_assoc]
set_option maxRecDepth 100000 in
set_option maxHeartbeats 2000000 in
theorem torder_any (Ax Ay : Option Addr) (cx cy : Nat) (xl yl : List Nat) (n m : Nat) (w : World) (hx : NatT w Ax cx xl n) (hy : NatT w Ay cy yl m) :
    Calls Tryz.prog 144 #[.slice Ax xl.length cx, .slice Ay yl.length cy] w fun e w' => e = .returned (.int .i64 (ord3 n m)) ∧ ∃ k, w' = w.drewN k := by
  have hx1 := hx.cap1; have hx2 := hx.cap2; have hy1 := hy.cap1; have hy2 := hy.cap2
  by_cases hl : xl.length = yl.length
  · have hb : (((xl.length : Nat) : Int) != ((yl.length : Nat) : Int)) = false := by simp; omega
    go_enter Tryz.func144, Tryz.ntmps144
    go_wp2
    go_loopw [5] (fun iv wr => ∃ i : Int, -1 ≤ i ∧ i < xl.length ∧ iv = .int .i64 i ∧ Hid (∀ j : Nat, i < j → j < xl.length → xl.getD j 0 = yl.getD j 0) ∧ Hid (∃ t, wr = w.drewN t)) (fun iv _ => (intOf iv + 1).toNat)
    case atStart => exact ⟨(xl.length : Int) - 1, by omega, by omega, by go_num, fun j h1 h2 => by omega, ⟨0, rfl⟩⟩
    case round =>
      obtain ⟨i, hi1, hi2, rfl, hall, ht⟩ := hrel
      by_cases h0 : i < 0
      · have hv : ord3 n m = 0 := by
          have : xl = yl := Wd.list_ext_getD xl yl hl (fun j hj => hall.out j (by omega) hj)
          rw [← hx.val, ← hy.val, this]
          unfold ord3
          rw [if_neg (by omega), if_neg (by omega)]
        have HV := Lib.hid hv
        clear hv hl
        go_wp2
        go_ret
        exact ⟨ret_int HV.out.symm, ht.out⟩
      · obtain ⟨j, rfl⟩ := Int.eq_ofNat_of_zero_le (show 0 ≤ i by omega)
        have hjx : j < xl.length := by omega
        have hjy : j < yl.length := by omega
        obtain ⟨bx, ox, rfl, hbx, hcx⟩ := hx.ws (by omega)
        obtain ⟨by', oy, rfl, hby, hcy⟩ := hy.ws (by omega)
        have hsame : ∀ p, wr.cell? p = w.cell? p := fun p => by obtain ⟨t, rfl⟩ := ht.out; rfl
        have hxc := (hsame _).trans (hcx j hjx)
        have hyc := (hsame _).trans (hcy j hjy)
        clear hcx hcy hsame
        obtain ⟨xj, hxj⟩ : ∃ xj, xj = Wd.g xl j := ⟨_, rfl⟩
        obtain ⟨yj, hyj⟩ : ∃ yj, yj = Wd.g yl j := ⟨_, rfl⟩
        rw [← hxj] at hxc
        rw [← hyj] at hyc
        by_cases hlt : xj < yj
        · have d1 : decide ((xj : Int) < (yj : Int)) = true := decide_eq_true (by omega)
          have d1' : decide (xj < yj) = true := decide_eq_true hlt
          have hv : ord3 n m = -1 := by
            rw [← hx.val, ← hy.val]
            unfold ord3
            rw [if_pos (Wd.val_lt_of_word xl yl hx.lt hl j hjx (fun t h1 h2 => hall.out t (by omega) h2) (by show Wd.g xl j < Wd.g yl j; omega))]
          have HV := Lib.hid hv
          clear hv hxj hyj hl hlt
          go_wp2_with fail
          go_quiet (fail)
          go_wp2_with fail
          go_ret
          exact ⟨ret_int HV.out.symm, by first | exact drewE (drewE ht.out _) _ | exact drewE ht.out _⟩
        · have d1 : decide ((xj : Int) < (yj : Int)) = false := decide_eq_false (by omega)
          have d1' : decide (xj < yj) = false := decide_eq_false hlt
          by_cases hgt : yj < xj
          · have d2 : decide ((yj : Int) < (xj : Int)) = true := decide_eq_true (by omega)
            have d2' : decide (yj < xj) = true := decide_eq_true hgt
            have hv : ord3 n m = 1 := by
              rw [← hx.val, ← hy.val]
              unfold ord3
              have := Wd.val_lt_of_word yl xl hy.lt hl.symm j hjy (fun t h1 h2 => (hall.out t (by omega) (by omega)).symm) (by show Wd.g yl j < Wd.g xl j; omega)
              rw [if_neg (by omega), if_pos this]
            have HV := Lib.hid hv
            clear hv hxj hyj hl hlt hgt
            go_wp2_with fail
            go_quiet (fail)
            go_wp2_with fail
            go_quiet (fail)
            go_wp2_with fail
            go_ret
            exact ⟨ret_int HV.out.symm, by first | exact drewE (drewE ht.out _) _ | exact drewE ht.out _⟩
          · have d2 : decide ((yj : Int) < (xj : Int)) = false := decide_eq_false (by omega)
            have d2' : decide (yj < xj) = false := decide_eq_false hgt
            have hnext : ∀ t : Nat, ((j : Int) - 1 < t) → t < xl.length → xl.getD t 0 = yl.getD t 0 := fun t h1 h2 => by
              by_cases ht : t = j
              · subst ht; exact hxj.symm.trans ((show xj = yj by omega).trans hyj)
              · exact hall.out t (by omega) h2
            have HN := hide hnext
            clear hnext hxj hyj hl hlt hgt
            go_wp2_with fail
            go_quiet (fail)
            go_wp2_with fail
            go_quiet (fail)
            go_wp2_with fail
            go_roundw
            case rel => exact ⟨(j : Int) - 1, by omega, by omega, by go_num, HN, by first | exact drewE (drewE ht.out _) _ | exact drewE ht.out _⟩
            case measure => simp [intOf] <;> omega
  · have hb : (((xl.length : Nat) : Int) != ((yl.length : Nat) : Int)) = true := by simp; omega
    have ho : ord3 n m = if xl.length < yl.length then -1 else 1 := by
      unfold ord3
      rw [← hx.val, ← hy.val]
      by_cases h : xl.length < yl.length
      · rw [if_pos h, if_pos (Wd.val_lt_of_length B32_pos xl yl hx.lt hy.norm h)]
      · have := Wd.val_lt_of_length B32_pos yl xl hy.lt hx.norm (by omega)
        rw [if_neg h, if_neg (by omega), if_pos this]
    have HO := Lib.hid ho
    clear ho
    go_enter Tryz.func144, Tryz.ntmps144
    go_wp2
    all_goals
      go_ret
      refine ⟨ret_int ?_, ⟨0, rfl⟩⟩
      rw [HO.out]
    · rw [if_pos (by omega)]
    · rw [if_neg (by omega)]
end Go.Proofs.YtpjgoogeokbaaaaGreatDoor
/- The reference: products of amounts. -/
namespace Go.Proofs.YtpjgoogeokbaaaaGreatDoor
open Go.RowKit

theorem info32 : (Tryz.prog.info? 136).map (fun i => (i.zero, i.size, i.bytes)) = some (some (.int .u32 0), 1, 4) := by kernel_rfl
theorem make32 (n : Nat) (h : n ≤ 35184372088832) (w : World) : (Instr.makeSlice 48 (.int .i64 (n : Int)) (.int .i64 (n : Int))).run Tryz.prog w =
    .ok (.slice (some ⟨w.heap.size, 0, none⟩) n n) (w.alloc (.cells (wcells .u32 (List.replicate n 0)) 136)) := by
  obtain ⟨i0, hi, hz0, hz1, hz2⟩ := info_parts info32
  have hr := run_make (P := Tryz.prog) w 48 136 i0 (.int .u32 0) Tryz.underlying48 hi hz0 .i64 .i64 n n (by omega) (Int.le_refl _) (by rw [hz2]; omega) (by omega)
  simp only [Int.toNat_natCast] at hr
  rw [hr, hz1, madeCells_words]

theorem wrap64_nat {a : Int} {c : Nat} (h : a = (c : Int)) (hc : c < B64) : IntKind.u64.wrap a = ((c : Nat) : Int) := by
  rw [IntKind.wrap_u64, h]; rw [B64_eq] at hc; omega
theorem wrap32_nat (c : Nat) : IntKind.u32.wrap (c : Int) = ((c % B32 : Nat) : Int) := by
  rw [IntKind.wrap_u32, B32_eq]; omega

set_option maxRecDepth 100000 in
set_option maxHeartbeats 2000000 in
theorem ttimes_any (Ax Ay : Option Addr) (cx cy : Nat) (xl yl : List Nat) (n m : Nat) (w : World) (hx : NatT w Ax cx xl n) (hy : NatT w Ay cy yl m) (hk : xl.length + yl.length ≤ 35184372088832) :
    Calls Tryz.prog 146 #[.slice Ax xl.length cx, .slice Ay yl.length cy] w fun e w' => NatU w (n * m) e w' := by
  have hmk := make32 (xl.length + yl.length) hk
  simp only [Int.natCast_add] at hmk
  have hx1 := hx.cap1; have hx2 := hx.cap2; have hy1 := hy.cap1; have hy2 := hy.cap2
  go_enter Tryz.func146, Tryz.ntmps146
  go_wp2
  go_loopw [6] (fun iv wr => ∃ (i : Nat) (zr : List Nat), i ≤ xl.length ∧ iv = .int .i64 ((i : Nat) : Int) ∧ Wd.RowInv B32 xl yl zr i ∧ ZB .u32 wr w.heap.size 136 zr ∧ Below w.heap.size w wr) (fun iv _ => xl.length - (intOf iv).toNat)
  case atStart => exact ⟨0, List.replicate (xl.length + yl.length) 0, Nat.zero_le _, rfl, Wd.RowInv.start _ _ _ (by rw [B32_eq]; omega) (by simp) (zeros_getD _), heap_alloc_new w _, (Below.refl _ _).alloc (Nat.le_refl _) _⟩
  case round =>
    obtain ⟨i, zr, hi, rfl, hinv, hzr, hg⟩ := hrel
    obtain ⟨wo, rfl⟩ : ∃ wo : World, wo = wr := ⟨_, rfl⟩
    have hlen := hinv.len
    have HI := Lib.hid hinv
    clear hinv
    by_cases hlt : i < xl.length
    · obtain ⟨bx, ox, rfl, hbx, hcx⟩ := hx.ws (by omega)
      have hxc0 := hcx i hlt
      have HX := hide (And.intro hbx hxc0)
      clear hcx hxc0
      obtain ⟨xi, hxi⟩ : ∃ xi, xi = Wd.g xl i := ⟨_, rfl⟩
      rw [← hxi] at HX
      have hxB : xi < B32 := by rw [hxi]; exact Wd.getD_lt (by rw [B32_eq]; omega) _ hx.lt i
      have HXI := Lib.hid hxi
      have HXB := hide hxB
      clear hxi hxB
      go_wp2_with fail
      go_loopw [7, 8] (fun cv jv wr => ∃ (j c : Nat) (zc : List Nat), j ≤ yl.length ∧ cv = .int .u64 ((c : Nat) : Int) ∧ jv = .int .i64 ((j : Nat) : Int) ∧ Wd.MulInv B32 zr yl zc i (Wd.g xl i) j c ∧ ZB .u32 wr w.heap.size 136 zc ∧ Below w.heap.size w wr) (fun _ jv _ => yl.length - (intOf jv).toNat)
      case atStart => exact ⟨0, 0, zr, Nat.zero_le _, rfl, rfl, Wd.MulInv.start _ _ _ _ (by rw [B32_eq]; omega) HI.out.lt, hzr, hg⟩
      case round =>
        obtain ⟨j, c, zc, hj, rfl, rfl, hminv, hzc, hgc⟩ := hrel
        have hlen2 := hminv.len
        have HM := Lib.hid hminv
        clear hminv
        have hxc := (hgc.cell (p := ⟨bx, ox + i, none⟩) (unhide HX).1).trans (unhide HX).2
        by_cases hjl : j < yl.length
        · obtain ⟨by', oy, rfl, hby, hcy⟩ := hy.ws (by omega)
          have hyc := (hgc.cell (p := ⟨by', oy + j, none⟩) hby).trans (hcy j hjl)
          clear hcy
          have hzcell := hzc.cell (i + j) (by omega)
          have hzf := hzc.frozen (i + j)
          obtain ⟨yj, hyj⟩ : ∃ yj, yj = Wd.g yl j := ⟨_, rfl⟩
          obtain ⟨z, hz⟩ : ∃ z, z = Wd.g zc (i + j) := ⟨_, rfl⟩
          rw [← hyj] at hyc
          rw [← hz] at hzcell
          have hyB : yj < B32 := by rw [hyj]; exact Wd.getD_lt (by rw [B32_eq]; omega) _ hy.lt j
          have hzB : z < B32 := by rw [hz]; exact Wd.getD_lt (by rw [B32_eq]; omega) _ HM.out.lt _
          have hbd := Wd.mul_bound (unhide HXB) hyB HM.out.c1 hzB
          have hBB : B32 * B32 = B64 := by rw [B32_eq, B64_eq]
          rw [hBB] at hbd
          obtain ⟨p, hp⟩ : ∃ t, t = xi * yj := ⟨_, rfl⟩
          obtain ⟨s, hs⟩ : ∃ t, t = p + z := ⟨_, rfl⟩
          obtain ⟨r, hr⟩ : ∃ t, t = c + s := ⟨_, rfl⟩
          obtain ⟨d, hd⟩ : ∃ t, t = r % B32 := ⟨_, rfl⟩
          obtain ⟨q, hq⟩ : ∃ t, t = r / B32 := ⟨_, rfl⟩
          rw [← hp] at hbd
          have e1 : IntKind.u64.wrap ((xi : Int) * (yj : Int)) = (p : Int) := wrap64_nat (by rw [hp]; simp) (by omega)
          have e2 : IntKind.u64.wrap ((p : Int) + (z : Int)) = (s : Int) := wrap64_nat (by rw [hs]; simp) (by omega)
          have e3 : IntKind.u64.wrap ((c : Int) + (s : Int)) = (r : Int) := wrap64_nat (by rw [hr]; simp) (by omega)
          have e4 : IntKind.u32.wrap (r : Int) = (d : Int) := by rw [wrap32_nat, hd]
          have e4' : (r : Int) % 4294967296 = (d : Int) := by rw [hd, B32_eq]; omega
          have b64 : ∀ t : Nat, t < B32 → t < B64 := fun t ht => by rw [B32_eq] at ht; rw [B64_eq]; omega
          have e6 : IntKind.u64.wrap (xi : Int) = (xi : Int) := wrap64_nat rfl (b64 _ (unhide HXB))
          have e7 : IntKind.u64.wrap (yj : Int) = (yj : Int) := wrap64_nat rfl (b64 _ hyB)
          have e8 : IntKind.u64.wrap (z : Int) = (z : Int) := wrap64_nat rfl (b64 _ hzB)
          have e5 : (r : Int) / 4294967296 = (q : Int) := by rw [hq, B32_eq]; omega
          have hfin : ∀ t W, W = (wr.drewN t).setCell ⟨w.heap.size, i + j, none⟩ (.int .u32 (d : Int)) → Wd.MulInv B32 zr yl (zc.set (i + j) d) i (Wd.g xl i) (j + 1) q ∧ ZB .u32 W w.heap.size 136 (zc.set (i + j) d) ∧ Below w.heap.size w W := by
            rintro t W rfl
            refine ⟨?_, (hzc.drewN t).set_ _ _, (belowN hgc t).setCell (by simp) _⟩
            have := HM.out.step B32_pos (by rw [← HXI.out]; exact unhide HXB) hy.lt (by omega)
            have e : r = Wd.g xl i * yl.getD j 0 + c + zc.getD (i + j) 0 := by
              rw [hr, hs, hp, HXI.out, hyj, hz]; show c + (Wd.g xl i * yl.getD j 0 + zc.getD (i + j) 0) = _; omega
            rw [hd, hq, e]
            exact this
          have HF := hide hfin
          clear hfin b64 hbd hBB hp hs hr hd hq hyj hz hyB hzB hzc hgc hzr hg hlen hlen2
          go_wp2_with fail
          go_quiet (fail)
          go_wp2_with fail
          go_roundw
          case rel =>
            obtain ⟨r1, r2, r3⟩ := (unhide HF) _ _ rfl
            exact ⟨j + 1, q, zc.set (i + j) d, by omega, rfl, by go_num, r1, r2, r3⟩
          case measure => simp [intOf]; omega
        · have e : j = yl.length := by omega
          subst e
          have hzcell := hzc.cell (i + yl.length) (by omega)
          have hzf := hzc.frozen (i + yl.length)
          have hrow := HI.out.step hlt HM.out
          have HR := Lib.hid hrow
          have hc32 : (c : Int) % 4294967296 = (c : Int) := by have := HM.out.c1; rw [B32_eq] at this; omega
          have hc33 : IntKind.u32.wrap (c : Int) = (c : Int) := by rw [IntKind.wrap_u32]; exact hc32
          clear hrow
          have hfin : ∀ W, W = wr.setCell ⟨w.heap.size, i + yl.length, none⟩ (.int .u32 (c : Int)) → ZB .u32 W w.heap.size 136 (zc.set (i + yl.length) c) ∧ Below w.heap.size w W := by
            rintro W rfl
            exact ⟨hzc.set_ _ _, hgc.setCell (by simp) _⟩
          have HF := hide hfin
          clear hfin hzc hgc hzr hg hlen hlen2 hxc
          go_wp2_with fail
          go_roundw
          case rel =>
            obtain ⟨r2, r3⟩ := (unhide HF) _ rfl
            exact ⟨i + 1, zc.set (i + yl.length) c, by omega, by go_num, HR.out, r2, r3⟩
          case measure => simp [intOf]; omega
    · have e : i = xl.length := by omega
      subst e
      have hlt2 := HI.out.lt
      have hv := HI.out.done
      rw [hx.val, hy.val] at hv
      have HV := Lib.hid hv
      have HLT := hide hlt2
      clear hv hlt2
      go_wp2_with fail
      have htr := ttrim_any (some ⟨w.heap.size, 0, none⟩) zr.length zr (wo.heap.size) wo (hzr.ws0 _ hzr.lt) (Nat.le_refl _) (by omega)
      rw [hlen] at htr
      refine htr.mono ?_
      rintro e w' ⟨⟨k, rfl, ht, hk2⟩, rfl⟩
      go_wp2_with fail
      go_ret
      have hk3 : k = (zr.take k).length := by simp; omega
      refine ⟨some ⟨w.heap.size, 0, none⟩, xl.length + yl.length, zr.take k, ret_slice hk3, ?_, hg⟩
      have := NatT.of_trim (cap := xl.length + yl.length) hzr (unhide HLT) ht (by omega) (by omega) (by omega)
      rwa [HV.out] at this
end Go.Proofs.YtpjgoogeokbaaaaGreatDoor
/- The reference: an amount by some bits to the left. -/
namespace Go.Proofs.YtpjgoogeokbaaaaGreatDoor
open Go.RowKit

theorem bits_or_u32_nat (a b : Nat) (ha : a < B32) (hb : b < B32) : Go.bits .or .u32 (a : Int) (b : Int) = ((a ||| b : Nat) : Int) := by
  rw [B32_eq] at ha hb
  have hx : a ||| b < 2 ^ 32 := Nat.or_lt_two_pow (by omega) (by omega)
  have h1 : (BitVec.ofInt 32 (a : Int)).toNat = a := by
    rw [BitVec.ofInt_natCast, BitVec.toNat_ofNat]; exact Nat.mod_eq_of_lt (by omega)
  have h2 : (BitVec.ofInt 32 (b : Int)).toNat = b := by
    rw [BitVec.ofInt_natCast, BitVec.toNat_ofNat]; exact Nat.mod_eq_of_lt (by omega)
  show IntKind.u32.wrap ((BitVec.ofInt 32 (a : Int) ||| BitVec.ofInt 32 (b : Int)).toNat : Int) = _
  rw [BitVec.toNat_or, h1, h2, IntKind.wrap_u32]
  omega
theorem pow_split32 (s : Nat) (hs : s ≤ 32) : 2 ^ s * 2 ^ (32 - s) = B32 := by
  rw [← Nat.pow_add, show s + (32 - s) = 32 by omega]; rfl
theorem shl_lt {m s : Nat} (hm : m < B32) (hs : s < 32) : m * 2 ^ s < B64 := by
  have h1 : 2 ^ s < 2 ^ 32 := Nat.pow_lt_pow_right (by omega) hs
  have h2 : m * 2 ^ s ≤ m * 2 ^ 32 := Nat.mul_le_mul_left _ (by omega)
  rw [B32_eq] at hm; rw [B64_eq]; omega
theorem shl_parts {m s : Nat} (hs : s < 32) : m * 2 ^ s % B32 = m % 2 ^ (32 - s) * 2 ^ s ∧ m * 2 ^ s / B32 = m / 2 ^ (32 - s) := by
  rw [← pow_split32 s (by omega), Nat.mul_comm (2 ^ s), Nat.mul_mod_mul_right]
  exact ⟨rfl, Nat.mul_div_mul_right _ _ (Nat.pow_pos (by omega))⟩

/-- What a shift to the left hands back: a block of its own, with a word more. -/
def ShlU (w : World) (xl : List Nat) (v : Nat) (e : Ending) (w' : World) : Prop :=
  ∃ zr, e = .returned (.slice (some ⟨w.heap.size, 0, none⟩) (xl.length + 1) (xl.length + 1)) ∧ zr.length = xl.length + 1 ∧ (∀ x ∈ zr, x < B32) ∧ Wd.val B32 zr = v ∧ ZB .u32 w' w.heap.size 136 zr ∧ Below w.heap.size w w'

set_option maxRecDepth 100000 in
set_option maxHeartbeats 1000000 in
theorem shifted_any (Ax : Option Addr) (cx : Nat) (xl : List Nat) (n s : Nat) (w : World) (hx : NatT w Ax cx xl n) (hs : s < 32) (hk : xl.length + 1 ≤ 35184372088832) :
    Calls Tryz.prog 169 #[.slice Ax xl.length cx, .int .u64 ((s : Nat) : Int)] w fun e w' => ShlU w xl (n * 2 ^ s) e w' := by
  have hmk := make32 (xl.length + 1) hk
  simp only [Int.natCast_add, Int.cast_ofNat_Int] at hmk
  have hx1 := hx.cap1; have hx2 := hx.cap2
  go_enter Tryz.func169, Tryz.ntmps169
  go_wp2
  go_loopw [6] (fun iv wr => ∃ (i : Nat) (zr : List Nat), i ≤ xl.length ∧ iv = .int .i64 ((i : Nat) : Int) ∧ Hid (Wd.ShlInv B32 (2 ^ s) xl zr i) ∧ ZB .u32 wr w.heap.size 136 zr ∧ Below w.heap.size w wr) (fun iv _ => xl.length - (intOf iv).toNat)
  case atStart => exact ⟨0, List.replicate (xl.length + 1) 0, Nat.zero_le _, rfl, Wd.ShlInv.start _ _ (Nat.pow_pos (by omega)) (by rw [B32_eq]; omega) (by simp) (zeros_getD _), heap_alloc_new w _, (Below.refl _ _).alloc (Nat.le_refl _) _⟩
  case round =>
    obtain ⟨i, zr, hi, rfl, HI, hzr, hg⟩ := hrel
    have hlen := HI.out.len
    by_cases hlt : i < xl.length
    · obtain ⟨bx, ox, rfl, hbx, hcx⟩ := hx.ws (by omega)
      have hxc := (hg.cell (p := ⟨bx, ox + i, none⟩) hbx).trans (hcx i hlt)
      clear hcx
      have hzc := hzr.cell i (by omega)
      have hzf := hzr.frozen i
      have hzc1 := hzr.cell (i + 1) (by omega)
      have hzf1 := hzr.frozen (i + 1)
      obtain ⟨m, hm⟩ : ∃ m, m = Wd.g xl i := ⟨_, rfl⟩
      obtain ⟨z, hz⟩ : ∃ z, z = Wd.g zr i := ⟨_, rfl⟩
      rw [← hm] at hxc
      rw [← hz] at hzc
      have hmB : m < B32 := by rw [hm]; exact Wd.getD_lt (by rw [B32_eq]; omega) _ hx.lt i
      have hzB : z < B32 := by rw [hz]; exact Wd.getD_lt (by rw [B32_eq]; omega) _ HI.out.lt i
      have hzS : z < 2 ^ s := by rw [hz]; exact HI.out.low
      obtain ⟨x, hxx⟩ : ∃ x, x = m * 2 ^ s := ⟨_, rfl⟩
      obtain ⟨p, hp⟩ : ∃ p, p = x % B32 := ⟨_, rfl⟩
      obtain ⟨r, hr⟩ : ∃ r, r = z + p := ⟨_, rfl⟩
      obtain ⟨q, hq⟩ : ∃ q, q = x / B32 := ⟨_, rfl⟩
      have hpp := shl_parts (m := m) hs
      rw [← hxx, ← hp, ← hq] at hpp
      have hpB : p < B32 := by rw [hp]; exact Nat.mod_lt _ (by rw [B32_eq]; omega)
      have hqB : q < B32 := by rw [hq, Nat.div_lt_iff_lt_mul (by rw [B32_eq]; omega)]; have := shl_lt hmB hs; rw [hxx, B32_eq]; rw [B64_eq] at this; omega
      have e0 : IntKind.u64.wrap (m : Int) = (m : Int) := wrap64_nat rfl (by rw [B32_eq] at hmB; rw [B64_eq]; omega)
      have e1 : IntKind.u64.wrap ((m : Int) * 2 ^ s) = (x : Int) := wrap64_nat (by rw [hxx]; simp) (by rw [hxx]; exact shl_lt hmB hs)
      have e2 : Go.bits .or .u32 (z : Int) (p : Int) = (r : Int) := by
        rw [bits_or_u32_nat z p hzB hpB, hr, hpp.1, or_word hzS]
      have e3 : (x : Int) / 4294967296 = (q : Int) := by rw [hq, B32_eq]; omega
      have e4 : (x : Int) % 4294967296 = (p : Int) := by rw [hp, B32_eq]; omega
      have e5 : (q : Int) % 4294967296 = (q : Int) := by rw [B32_eq] at hqB; omega
      have e6 : IntKind.u32.wrap (x : Int) = (p : Int) := by rw [wrap32_nat, hp]
      have e7 : IntKind.u32.wrap (q : Int) = (q : Int) := by rw [IntKind.wrap_u32]; exact e5
      have hfin : ∀ W, W = (wr.setCell ⟨w.heap.size, i, none⟩ (.int .u32 (r : Int))).setCell ⟨w.heap.size, i + 1, none⟩ (.int .u32 (q : Int)) → Hid (Wd.ShlInv B32 (2 ^ s) xl ((zr.set i r).set (i + 1) q) (i + 1)) ∧ ZB .u32 W w.heap.size 136 ((zr.set i r).set (i + 1) q) ∧ Below w.heap.size w W := by
        rintro W rfl
        refine ⟨?_, (hzr.set_ _ _).set_ _ _, (hg.setCell (by simp) _).setCell (by simp) _⟩
        have := HI.out.step (pow_split32 s (by omega)) (Nat.pow_pos (by omega)) hlt (by rw [← Wd.g_def, ← hm]; exact hmB)
        rw [hr, hpp.1, hpp.2, hm, hz]
        exact this
      have HF := hide hfin
      clear hfin hpp hp hr hq hm hz hzS hzr hg hxx hpB hqB hmB hzB
      go_wp2_with fail
      go_roundw
      case rel =>
        obtain ⟨r1, r2, r3⟩ := (unhide HF) _ rfl
        exact ⟨i + 1, _, by omega, by go_num, r1, r2, r3⟩
      case measure => simp [intOf] <;> omega
    · have e : i = xl.length := by omega
      subst e
      have hv := HI.out.done
      rw [hx.val] at hv
      have HV := Lib.hid hv
      clear hv
      go_wp2_with fail
      go_ret
      exact ⟨zr, rfl, hlen, HI.out.lt, HV.out, hzr, hg⟩
end Go.Proofs.YtpjgoogeokbaaaaGreatDoor
/- Plain mathematics of one word of a long quotient, guessed from three words and two. -/
namespace Go.Proofs.YtpjgoogeokbaaaaGreatDoor
namespace Wd

/-- The guess: q * top + r is the head; the word that is sought is at most q. -/
structure WInv (B top head Q q r : Nat) : Prop where
  eq : q * top + r = head
  ge : Q ≤ q
  lt : q < B
theorem WInv.step {B top next head d Q q r : Nat} (hQ : Q * (top * B + next) ≤ head * B + d) (h : WInv B top head Q q r) (hlt : r * B + d < q * next) : 1 ≤ q ∧ WInv B top head Q (q - 1) (r + top) := by
  have h1 : Q < q := by
    rcases Nat.lt_or_ge Q q with h1 | h1
    · exact h1
    · have h2 : q * (top * B + next) ≤ Q * (top * B + next) := Nat.mul_le_mul_right _ h1
      have h3 : q * (top * B + next) = q * top * B + q * next := by rw [Nat.mul_add, Nat.mul_assoc]
      have h4 : head * B = q * top * B + r * B := by rw [← h.eq, Nat.add_mul]
      omega
  have he := h.eq
  obtain ⟨p, rfl⟩ : ∃ p, q = p + 1 := ⟨q - 1, by omega⟩
  refine ⟨by omega, ⟨?_, by omega, by have := h.lt; omega⟩⟩
  rw [Nat.add_sub_cancel]
  rw [Nat.add_mul, Nat.one_mul] at he
  omega
theorem WInv.fits {B top next head d Q q r : Nat} (hn : next < B) (h : WInv B top head Q q r) (hs : B ≤ r ∨ q * next ≤ r * B + d) : q * (top * B + next) ≤ head * B + d := by
  have h3 : q * (top * B + next) = q * top * B + q * next := by rw [Nat.mul_add, Nat.mul_assoc]
  have h4 : head * B = q * top * B + r * B := by rw [← h.eq, Nat.add_mul]
  have h5 : q * next ≤ r * B + d := by
    rcases hs with h1 | h1
    · have h6 : q * next ≤ B * B := Nat.mul_le_mul (Nat.le_of_lt h.lt) (Nat.le_of_lt hn)
      have h7 : B * B ≤ r * B := Nat.mul_le_mul_right _ h1
      omega
    · exact h1
  omega
/-- Such a guess is at most one too great. -/
theorem guess_one {B P X Y U3 Yt Q q : Nat} (hP : 0 < P) (hX : U3 * P ≤ X) (hY : Y < (Yt + 1) * P) (hY0 : 0 < Y) (hQ : Q = X / Y) (hq : q * Yt ≤ U3) (hB : q ≤ Yt) : q ≤ Q + 1 := by
  rcases Nat.eq_zero_or_pos q with h | h
  · omega
  obtain ⟨p, rfl⟩ : ∃ p, q = p + 1 := ⟨q - 1, by omega⟩
  suffices p ≤ Q by omega
  rw [hQ, Nat.le_div_iff_mul_le hY0]
  have h1 : p * Y ≤ p * ((Yt + 1) * P) := Nat.mul_le_mul_left _ (Nat.le_of_lt hY)
  have h2 : p * ((Yt + 1) * P) = (p * Yt + p) * P := by rw [← Nat.mul_assoc, Nat.mul_add, Nat.mul_one]
  have h3 : (p * Yt + p) * P ≤ ((p + 1) * Yt) * P := Nat.mul_le_mul_right _ (by rw [Nat.add_mul]; omega)
  have h4 : (p + 1) * Yt * P ≤ U3 * P := Nat.mul_le_mul_right _ hq
  omega

/-- Before place i of the product's taking away: c is carried, b is borrowed. -/
structure WSub (B : Nat) (ul vl zc : List Nat) (q i c b : Nat) : Prop where
  len : zc.length = ul.length
  same : ∀ j, i ≤ j → zc.getD j 0 = ul.getD j 0
  lt : ∀ x ∈ zc, x < B
  eq : val B (zc.take i) + q * val B (vl.take i) = val B (ul.take i) + B ^ i * (c + b)
  c1 : c < B
  b1 : b ≤ 1
theorem WSub.start {B : Nat} (ul vl : List Nat) (q : Nat) (hB : 0 < B) (h : ∀ x ∈ ul, x < B) : WSub B ul vl ul q 0 0 0 := ⟨rfl, fun _ _ => rfl, h, by simp [val], hB, by omega⟩
theorem WSub.step {B : Nat} {ul vl zc : List Nat} {q i c b d b' t : Nat} (h : WSub B ul vl zc q i c b) (hi : i < ul.length) (ht : t = c + q * vl.getD i 0) (htB : t < B * B) (hd : d < B) (hb : b' ≤ 1)
    (e : d + t % B + b = ul.getD i 0 + B * b') : WSub B ul vl (zc.set i d) q (i + 1) (t / B) b' := by
  have hlen := h.len
  have hB : 0 < B := by omega
  refine ⟨by simp [hlen], fun j hj => ?_, mem_set_lt _ _ _ h.lt hd, ?_, ?_, hb⟩
  · rw [set_getD_ne _ _ _ _ (by omega), h.same j (by omega)]
  · rw [set_take_succ _ _ _ (by omega), val_snoc, val_take_succ', val_take_succ', List.length_take, Nat.min_eq_left (by omega), Nat.pow_succ]
    have he := h.eq
    have hdm := Nat.div_add_mod t B
    generalize B ^ i = P at *
    generalize val B (zc.take i) = Z at *
    generalize val B (vl.take i) = V at *
    generalize val B (ul.take i) = U at *
    generalize vl.getD i 0 = y at *
    generalize ul.getD i 0 = x at *
    generalize t / B = hi at *
    generalize t % B = lo at *
    have k1 : P * d + P * lo + P * b = P * x + P * (B * b') := by rw [← Nat.mul_add, ← Nat.mul_add, e, Nat.mul_add]
    have k2 : P * (B * hi) + P * lo = P * c + P * (q * y) := by rw [← Nat.mul_add, hdm, ht, Nat.mul_add]
    rw [Nat.mul_add] at he
    rw [Nat.mul_add, Nat.mul_add, show q * (P * y) = P * (q * y) by simp only [Nat.mul_left_comm], Nat.mul_assoc, Nat.mul_assoc]
    omega
  · rw [Nat.div_lt_iff_lt_mul hB]; exact htB
theorem WSub.done {B : Nat} {ul vl zc : List Nat} {q b : Nat} (h : WSub B ul vl zc q ul.length 0 b) (hv : vl.length ≤ ul.length) : val B zc + q * val B vl = val B ul + B ^ ul.length * b := by
  have e := h.eq
  have hl := h.len
  rwa [val_take_all _ zc _ (by omega), val_take_all _ vl _ hv, val_take_all _ _ _ (Nat.le_refl _), Nat.zero_add] at e
end Wd
end Go.Proofs.YtpjgoogeokbaaaaGreatDoor
/- The reference: one word of a long quotient. -/
namespace Go.Proofs.YtpjgoogeokbaaaaGreatDoor
open Go.RowKit

/-- What a step of a long quotient leaves. -/
structure StepT (ul vl zr : List Nat) (q : Nat) : Prop where
  len : zr.length = ul.length
  lt : ∀ x ∈ zr, x < B32
  quo : q = Wd.val B32 ul / Wd.val B32 vl
  rem : Wd.val B32 zr = Wd.val B32 ul % Wd.val B32 vl

theorem sub_word {x lo b s1 s2 : Nat} (hx : x < B32) (hlo : lo < B32) (hb : b ≤ 1) (h1 : (s1 : Int) = ((x : Int) - (lo : Int)) % 18446744073709551616) (h2 : (s2 : Int) = ((s1 : Int) - (b : Int)) % 18446744073709551616) :
    s2 % B32 < B32 ∧ s2 / 9223372036854775808 ≤ 1 ∧ s2 % B32 + lo + b = x + B32 * (s2 / 9223372036854775808) := by
  rw [B32_eq] at *
  omega
theorem top3 {B : Nat} (hB : 0 < B) (l : List Nat) (n : Nat) (hn : 2 ≤ n) (hl : l.length = n + 1) (hlt : ∀ x ∈ l, x < B) :
    ((l.getD n 0 * B + l.getD (n - 1) 0) * B + l.getD (n - 2) 0) * B ^ (n - 2) ≤ Wd.val B l ∧ Wd.val B l < ((l.getD n 0 * B + l.getD (n - 1) 0) * B + l.getD (n - 2) 0 + 1) * B ^ (n - 2) := by
  have h1 := Wd.val_take_succ B l n (by omega)
  rw [Wd.val_take_all _ _ _ (by omega)] at h1
  have h2 := Wd.val_take_succ B l (n - 1) (by omega)
  rw [show n - 1 + 1 = n by omega] at h2
  have h2' := Wd.val_take_succ B l (n - 2) (by omega)
  rw [show n - 2 + 1 = n - 1 by omega] at h2'
  have h3 := Wd.val_lt (B := B) (l.take (n - 2)) (fun x hx => hlt x (List.mem_of_mem_take hx))
  rw [List.length_take, Nat.min_eq_left (by omega)] at h3
  have e : B ^ n = B ^ (n - 2) * B * B := by rw [← Nat.pow_succ, ← Nat.pow_succ, show (n - 2).succ.succ = n by omega]
  have e' : B ^ (n - 1) = B ^ (n - 2) * B := by rw [← Nat.pow_succ, show (n - 2).succ = n - 1 by omega]
  rw [h1, h2, h2', e, e']
  generalize B ^ (n - 2) = P at *
  generalize l.getD n 0 = a at *
  generalize l.getD (n - 1) 0 = b at *
  generalize l.getD (n - 2) 0 = c at *
  have k1 : ((a * B + b) * B + c) * P = P * B * B * a + P * B * b + P * c := by
    simp only [Nat.add_mul, Nat.mul_add, Nat.mul_comm, Nat.mul_left_comm, Nat.mul_assoc]
  rw [Nat.add_mul _ 1 P, Nat.one_mul, k1]
  omega
theorem top2' {B : Nat} (l : List Nat) (n : Nat) (hn : 2 ≤ n) (hl : l.length = n) (hlt : ∀ x ∈ l, x < B) :
    (l.getD (n - 1) 0 * B + l.getD (n - 2) 0) * B ^ (n - 2) ≤ Wd.val B l ∧ Wd.val B l < (l.getD (n - 1) 0 * B + l.getD (n - 2) 0 + 1) * B ^ (n - 2) := by
  have h2 := Wd.val_take_succ B l (n - 1) (by omega)
  rw [show n - 1 + 1 = n by omega, Wd.val_take_all _ _ _ (by omega)] at h2
  have h2' := Wd.val_take_succ B l (n - 2) (by omega)
  rw [show n - 2 + 1 = n - 1 by omega] at h2'
  have h3 := Wd.val_lt (B := B) (l.take (n - 2)) (fun x hx => hlt x (List.mem_of_mem_take hx))
  rw [List.length_take, Nat.min_eq_left (by omega)] at h3
  have e' : B ^ (n - 1) = B ^ (n - 2) * B := by rw [← Nat.pow_succ, show (n - 2).succ = n - 1 by omega]
  rw [h2, h2', e']
  generalize B ^ (n - 2) = P at *
  generalize l.getD (n - 1) 0 = b at *
  generalize l.getD (n - 2) 0 = c at *
  have k1 : (b * B + c) * P = P * B * b + P * c := by
    simp only [Nat.add_mul, Nat.mul_add, Nat.mul_comm, Nat.mul_left_comm, Nat.mul_assoc]
  rw [Nat.add_mul _ 1 P, Nat.one_mul, k1]
  omega
theorem or_shl {a z : Nat} (ha : a < B32) (hz : z < B32) : Go.bits .or .u64 ((a * B32 : Nat) : Int) (z : Int) = ((a * B32 + z : Nat) : Int) := by
  have h := or_word (z := z) (a := a) (s := 32) (by rw [B32_eq] at hz; omega)
  rw [bits_or_u64_nat _ _ (by rw [B32_eq] at *; omega) (by rw [B32_eq] at *; omega), Nat.or_comm, B32_eq]
  rw [show (2 : Nat) ^ 32 = 4294967296 from rfl] at h
  rw [h, Nat.add_comm]

/-- The guess and what follows from it, before the walk. -/
structure WordPre (ul vl : List Nat) (n : Nat) : Prop where
  n2 : 2 ≤ n
  lenv : vl.length = n
  lenu : ul.length = n + 1
  ltu : ∀ x ∈ ul, x < B32
  ltv : ∀ x ∈ vl, x < B32
  top : vl.getD (n - 1) 0 ≠ 0
  pre : Wd.val B32 ul < B32 * Wd.val B32 vl
theorem WordPre.start {ul vl : List Nat} {n head top : Nat} (h : WordPre ul vl n) (hh : head = ul.getD n 0 * B32 + ul.getD (n - 1) 0) (ht : top = vl.getD (n - 1) 0) :
    Wd.WInv B32 top head (Wd.val B32 ul / Wd.val B32 vl) (min (head / top) 4294967295) (head - min (head / top) 4294967295 * top) ∧ min (head / top) 4294967295 * top ≤ head := by
  have hB : 0 < B32 := by rw [B32_eq]; omega
  have hV := (top2' vl n h.n2 h.lenv h.ltv).1
  have hU := top2 hB ul n (by have := h.n2; omega) h.lenu h.ltu
  have h1 := top1 (B := B32) vl n (by have := h.n2; omega) h.lenv
  rw [← ht] at h1
  rw [← hh] at hU
  have ht0 : 0 < top := by rw [ht]; exact Nat.pos_of_ne_zero h.top
  have hV0 : 0 < Wd.val B32 vl := by
    have h2 : 0 < B32 ^ (n - 1) := Nat.pow_pos hB
    have := Nat.mul_pos ht0 h2; omega
  have hQ : Wd.val B32 ul / Wd.val B32 vl * top ≤ head := Wd.guess_ge h1 hU (Nat.div_mul_le_self _ _)
  have hQB : Wd.val B32 ul / Wd.val B32 vl < B32 := by rw [Nat.div_lt_iff_lt_mul hV0]; exact h.pre
  have hle : min (head / top) 4294967295 * top ≤ head := Nat.le_trans (Nat.mul_le_mul_right _ (Nat.min_le_left _ _)) (Nat.div_mul_le_self _ _)
  refine ⟨⟨Nat.add_sub_of_le hle, ?_, ?_⟩, hle⟩
  · rw [Nat.le_min]
    exact ⟨(Nat.le_div_iff_mul_le ht0).2 hQ, Nat.le_of_lt_succ (by rw [B32_eq] at hQB; exact hQB)⟩
  · exact Nat.lt_of_le_of_lt (Nat.min_le_right (head / top) 4294967295) (by rw [B32_eq]; omega)
theorem WordPre.low {ul vl : List Nat} {n : Nat} (h : WordPre ul vl n) : Wd.val B32 ul / Wd.val B32 vl * (vl.getD (n - 1) 0 * B32 + vl.getD (n - 2) 0) ≤ (ul.getD n 0 * B32 + ul.getD (n - 1) 0) * B32 + ul.getD (n - 2) 0 := by
  have hB : 0 < B32 := by rw [B32_eq]; omega
  exact Wd.guess_ge (top2' vl n h.n2 h.lenv h.ltv).1 (top3 hB ul n h.n2 h.lenu h.ltu).2 (Nat.div_mul_le_self _ _)
theorem WordPre.one {ul vl : List Nat} {n q : Nat} (h : WordPre ul vl n) (hq : q * (vl.getD (n - 1) 0 * B32 + vl.getD (n - 2) 0) ≤ (ul.getD n 0 * B32 + ul.getD (n - 1) 0) * B32 + ul.getD (n - 2) 0) (hlt : q < B32) : q ≤ Wd.val B32 ul / Wd.val B32 vl + 1 := by
  have hB : 0 < B32 := by rw [B32_eq]; omega
  have ht0 : 1 ≤ vl.getD (n - 1) 0 := Nat.pos_of_ne_zero h.top
  have h1 : 1 * B32 ≤ vl.getD (n - 1) 0 * B32 := Nat.mul_le_mul_right _ ht0
  have hV := (top2' vl n h.n2 h.lenv h.ltv)
  have hP : 0 < B32 ^ (n - 2) := Nat.pow_pos hB
  have hV0 : 0 < Wd.val B32 vl := by
    have := Nat.mul_pos (show 0 < vl.getD (n - 1) 0 * B32 + vl.getD (n - 2) 0 by omega) hP; omega
  exact Wd.guess_one (B := B32) hP (top3 hB ul n h.n2 h.lenu h.ltu).1 hV.2 hV0 rfl hq (by omega)
end Go.Proofs.YtpjgoogeokbaaaaGreatDoor
/- The reference: the walk through one word of a long quotient. -/
namespace Go.Proofs.YtpjgoogeokbaaaaGreatDoor
open Go.RowKit

set_option maxRecDepth 100000 in
set_option maxHeartbeats 2000000 in
theorem word32_any (b off cap T n : Nat) (us ul vl : List Nat) (Av : Option Addr) (cv : Nat) (B top next : Nat) (w : World)
    (hz : ZB .u32 w b T us) (hoff : off + ul.length ≤ us.length) (hul : ul = (us.drop off).take ul.length) (hcz : ul.length ≤ cap) (hcz' : cap ≤ 9223372036854775807)
    (hv : Ws .u32 w B Av vl) (hB : ∀ bv ov, Av = some ⟨bv, ov, none⟩ → bv ≠ b) (hBw : B ≤ w.heap.size) (hcv : vl.length ≤ cv) (hcv' : cv ≤ 9223372036854775807) (hp : WordPre ul vl n) (htop : top = Wd.g vl (n - 1)) (hnext : next = Wd.g vl (n - 2)) :
    Calls Tryz.prog 170 #[.slice (some ⟨b, off, none⟩) (n + 1) cap, .slice Av n cv, .int .u64 ((top : Nat) : Int), .int .u64 ((next : Nat) : Int)] w fun e w' =>
      ∃ zr q, e = .returned (.int .u32 ((q : Nat) : Int)) ∧ StepT ul vl zr q ∧ q < B32 ∧ ZB .u32 w' b T (win us off zr) ∧ w.grownBy w' (some b) := by
  have hB0 : 0 < B32 := by rw [B32_eq]; omega
  have hn2 := hp.n2; have hvn := hp.lenv; have huv := hp.lenu
  obtain ⟨bv, ov, hA, hbv, hcvv⟩ := hv (by omega)
  subst hA
  have hgw : ∀ i, i < ul.length → Wd.g us (off + i) = Wd.g ul i := fun i hi => by
    have h := win_g us off ul hoff i hi
    rwa [show win us off ul = us by rw [hul]; exact win_self us off _ hoff] at h
  have hu0 := hz.cell (off + n) (by omega)
  have hu1 := hz.cell (off + (n - 1)) (by omega)
  have hu2 := hz.cell (off + (n - 2)) (by omega)
  rw [hgw n (by omega)] at hu0
  rw [hgw (n - 1) (by omega)] at hu1
  rw [hgw (n - 2) (by omega)] at hu2
  obtain ⟨x0, hx0⟩ : ∃ t, t = Wd.g ul n := ⟨_, rfl⟩
  obtain ⟨x1, hx1⟩ : ∃ t, t = Wd.g ul (n - 1) := ⟨_, rfl⟩
  obtain ⟨x2, hx2⟩ : ∃ t, t = Wd.g ul (n - 2) := ⟨_, rfl⟩
  rw [← hx0] at hu0
  rw [← hx1] at hu1
  rw [← hx2] at hu2
  have b0 : x0 < B32 := by rw [hx0]; exact Wd.getD_lt hB0 _ hp.ltu _
  have b1 : x1 < B32 := by rw [hx1]; exact Wd.getD_lt hB0 _ hp.ltu _
  have b2 : x2 < B32 := by rw [hx2]; exact Wd.getD_lt hB0 _ hp.ltu _
  have bt : top < B32 := by rw [htop]; exact Wd.getD_lt hB0 _ hp.ltv _
  have bn : next < B32 := by rw [hnext]; exact Wd.getD_lt hB0 _ hp.ltv _
  obtain ⟨hh, hhh⟩ : ∃ t, t = x0 * B32 := ⟨_, rfl⟩
  obtain ⟨head, hhead⟩ : ∃ t, t = x0 * B32 + x1 := ⟨_, rfl⟩
  obtain ⟨gq, hgq⟩ : ∃ t, t = head / top := ⟨_, rfl⟩
  obtain ⟨q0, hq0⟩ : ∃ t, t = min gq 4294967295 := ⟨_, rfl⟩
  obtain ⟨qt, hqt⟩ : ∃ t, t = q0 * top := ⟨_, rfl⟩
  obtain ⟨r0, hr0⟩ : ∃ t, t = head - qt := ⟨_, rfl⟩
  obtain ⟨Q, hQ⟩ : ∃ t, t = Wd.val B32 ul / Wd.val B32 vl := ⟨_, rfl⟩
  have hst := hp.start (head := head) (top := top) (by rw [hhead, hx0, hx1]; rfl) (by rw [htop]; rfl)
  rw [← hgq, ← hq0, ← hQ, ← hqt, ← hr0] at hst
  have hlow := hp.low
  rw [← hQ, ← Wd.g_def, ← Wd.g_def, ← Wd.g_def, ← Wd.g_def, ← Wd.g_def, ← htop, ← hnext, ← hx0, ← hx1, ← hx2, ← hhead] at hlow
  have hone : ∀ q, q * (top * B32 + next) ≤ head * B32 + x2 → q < B32 → q ≤ Q + 1 := fun q h1 h2 => by
    have := hp.one (q := q) (by rw [← Wd.g_def, ← Wd.g_def, ← Wd.g_def, ← Wd.g_def, ← Wd.g_def, ← htop, ← hnext, ← hx0, ← hx1, ← hx2, ← hhead]; exact h1) h2
    rwa [← hQ] at this
  have ht0 : 0 < top := by rw [htop]; exact Nat.pos_of_ne_zero hp.top
  have b64 : ∀ t : Nat, t < B32 → t < B64 := fun t ht => by rw [B32_eq] at ht; rw [B64_eq]; omega
  have hheadB : head < B64 := by rw [hhead]; rw [B32_eq] at *; rw [B64_eq]; omega
  have e0 : IntKind.u64.wrap (x0 : Int) = (x0 : Int) := wrap64_nat rfl (b64 _ b0)
  have e1 : IntKind.u64.wrap (x1 : Int) = (x1 : Int) := wrap64_nat rfl (b64 _ b1)
  have e2 : IntKind.u64.wrap (x2 : Int) = (x2 : Int) := wrap64_nat rfl (b64 _ b2)
  have e3 : IntKind.u64.wrap ((x0 : Int) * 4294967296) = (hh : Int) := wrap64_nat (by rw [hhh, B32_eq]; simp) (by rw [hhh]; rw [B32_eq] at *; rw [B64_eq]; omega)
  have e4 : Go.bits .or .u64 (hh : Int) (x1 : Int) = (head : Int) := by rw [hhh, or_shl b0 b1, hhead]
  have e5 : (head : Int).tdiv (top : Int) = (gq : Int) := by rw [hgq]; exact (Int.ofNat_tdiv _ _).symm
  have e5w : IntKind.u64.wrap (gq : Int) = (gq : Int) := wrap64_nat rfl (by have := Nat.div_le_self head top; omega)
  have e6 : min (gq : Int) 4294967295 = (q0 : Int) := by rw [hq0]; omega
  have e7 : IntKind.u64.wrap ((q0 : Int) * (top : Int)) = (qt : Int) := wrap64_nat (by rw [hqt]; simp) (by have := hst.2; omega)
  have e8 : IntKind.u64.wrap ((head : Int) - (qt : Int)) = (r0 : Int) := wrap64_nat (by have := hst.2; rw [hr0]; omega) (by rw [hr0]; omega)
  have e9 : ((top : Int) == 0) = false := beq_eq_false_iff_ne.2 (by omega)
  have e9' : ¬ ((top : Int) = 0) := by omega
  have e9'' : ¬ (top = 0) := by omega
  have f1 : IntKind.i64.wrap ((n : Int) - 1) = (n : Int) - 1 := IntWalk.i64_in _ (by omega)
  have f2 : (0 : Int) ≤ (n : Int) - 1 := by omega
  have f3 : ((n : Int) - 1).toNat = n - 1 := by omega
  have f4 : IntKind.i64.wrap ((n : Int) - 2) = (n : Int) - 2 := IntWalk.i64_in _ (by omega)
  have f5 : (0 : Int) ≤ (n : Int) - 2 := by omega
  have f6 : ((n : Int) - 2).toNat = n - 2 := by omega
  have HB2 := hide (And.intro b2 bn)
  have HST := hide hst; have HLOW := hide hlow; have HONE := hide hone; have HQ := Lib.hid hQ; have HP := hide hp
  have HGW := hide hgw; have HZ := hide hz; have HV := hide hv; have HT := hide (And.intro bt hheadB); have HB64 := hide b64
  have HWU := Lib.hid (show win us off ul = us by rw [hul]; exact win_self us off _ hoff)
  have HOFF := hide hoff; have HCV := hide hcvv; have HBB := hide (And.intro (hB bv ov rfl) (Nat.lt_of_lt_of_le hbv hBw))
  have hlen1 : n + 1 ≤ cap := by omega
  have hlen2 : n ≤ cv := by omega
  clear hst hlow hone hQ hp hgw hul hx0 hx1 hx2 b0 b1 b2 bt bn hhh hhead hgq hq0 hqt hr0 ht0 b64 hheadB htop hnext hoff hcz hcv hvn huv hcvv hz hv hB0 hB hbv hBw
  go_enter Tryz.func170, Tryz.ntmps170
  go_wp2_with fail
  go_quiet (fail)
  go_upto_block 0 with (fail)
  go_cut [11] (fun qv wx => ∃ q : Nat, qv = .int .u64 ((q : Nat) : Int) ∧ Hid (Q ≤ q ∧ q ≤ Q + 1 ∧ q < B32) ∧ ∃ t, wx = w.drewN t)
  case first =>
    have HL := HLOW
    go_wp2_with fail
    go_loop [11, 12] (fun qv rv => ∃ q r : Nat, qv = .int .u64 ((q : Nat) : Int) ∧ rv = .int .u64 ((r : Nat) : Int) ∧ Hid (r < B64) ∧ Hid (Wd.WInv B32 top head Q q r)) (fun qv _ => (intOf qv).toNat)
    case atStart => exact ⟨q0, r0, rfl, rfl, show r0 < B64 by have h1 := (unhide HST).1.eq; have h2 := (unhide HT).2; omega, (unhide HST).1⟩
    case round =>
      obtain ⟨q, r, rfl, rfl, hr, HI⟩ := hrel
      by_cases hb : B32 ≤ r
      · have d1 : decide ((r : Int) < 4294967296) = false := decide_eq_false (by rw [B32_eq] at hb; omega)
        have hfits := (unhide HI).fits (unhide HB2).2 (d := x2) (.inl hb)
        have hres : Q ≤ q ∧ q ≤ Q + 1 ∧ q < B32 := ⟨(unhide HI).ge, (unhide HONE) q hfits (unhide HI).lt, (unhide HI).lt⟩
        have HR := hide hres
        clear hfits hres hb
        go_wp2_with fail
        go_meet
        exact ⟨q, rfl, HR, _, rfl⟩
      · have d1 : decide ((r : Int) < 4294967296) = true := decide_eq_true (by rw [B32_eq] at hb; omega)
        have hrB : r < B32 := by omega
        obtain ⟨p, hpp⟩ : ∃ t, t = q * next := ⟨_, rfl⟩
        obtain ⟨rs, hrs⟩ : ∃ t, t = r * B32 := ⟨_, rfl⟩
        obtain ⟨ro, hro⟩ : ∃ t, t = r * B32 + x2 := ⟨_, rfl⟩
        have hpB : p < B64 := by
          have h1 := (unhide HI).lt
          have h2 := (unhide HB2).2
          have h3 : q * next ≤ 4294967295 * 4294967295 := Nat.mul_le_mul (by rw [B32_eq] at h1; omega) (by rw [B32_eq] at h2; omega)
          rw [hpp, B64_eq]; omega
        have g1 : IntKind.u64.wrap ((q : Int) * (next : Int)) = (p : Int) := wrap64_nat (by rw [hpp]; simp) hpB
        have g2 : IntKind.u64.wrap ((r : Int) * 4294967296) = (rs : Int) := wrap64_nat (by rw [hrs, B32_eq]; simp) (by rw [hrs]; rw [B32_eq] at *; rw [B64_eq]; omega)
        have g3 : Go.bits .or .u64 (rs : Int) (x2 : Int) = (ro : Int) := by rw [hrs, or_shl hrB (unhide HB2).1, hro]
        by_cases hlt : ro < p
        · have d2 : decide ((ro : Int) < (p : Int)) = true := decide_eq_true (by omega)
          have d2' : decide (ro < p) = true := decide_eq_true hlt
          obtain ⟨h1, hstep⟩ := (unhide HI).step (unhide HLOW) (by rw [← hro, ← hpp]; exact hlt)
          obtain ⟨q2, hq2⟩ : ∃ t, t = q - 1 := ⟨_, rfl⟩
          obtain ⟨r2, hr2⟩ : ∃ t, t = r + top := ⟨_, rfl⟩
          rw [← hq2, ← hr2] at hstep
          have hr2B : r2 < B64 := by have := (unhide HT).1; rw [hr2]; rw [B32_eq] at *; rw [B64_eq]; omega
          have g4 : IntKind.u64.wrap ((q : Int) - 1) = (q2 : Int) := wrap64_nat (by rw [hq2]; omega) (by have := (unhide HI).lt; rw [hq2]; rw [B32_eq] at this; rw [B64_eq]; omega)
          have g5 : IntKind.u64.wrap ((r : Int) + (top : Int)) = (r2 : Int) := wrap64_nat (by rw [hr2]; simp) hr2B
          have HS := hide hstep; have HR2 := hide hr2B; have HM := hide (show q2 < q by omega)
          clear hstep hr2B hq2 hr2 h1 hlt hpp hrs hro hpB hrB hb
          go_wp2_with fail
          go_round
          case rel => exact ⟨q2, r2, rfl, rfl, HR2, HS⟩
          case measure => have := unhide HM; simp [intOf]; omega
        · have d2 : decide ((ro : Int) < (p : Int)) = false := decide_eq_false (by omega)
          have d2' : decide (ro < p) = false := decide_eq_false hlt
          have hfits := (unhide HI).fits (unhide HB2).2 (d := x2) (.inr (by rw [← hro, ← hpp]; omega))
          have hres : Q ≤ q ∧ q ≤ Q + 1 ∧ q < B32 := ⟨(unhide HI).ge, (unhide HONE) q hfits (unhide HI).lt, (unhide HI).lt⟩
          have HR := hide hres
          clear hfits hres hlt hpp hrs hro hpB hrB hb
          go_wp2_with fail
          go_meet
          exact ⟨q, rfl, HR, _, rfl⟩
  case rest =>
    obtain ⟨q, rfl, HQR, t0, rfl⟩ := hcut
    go_wp2_with fail
    go_loopw [13, 14, 15] (fun bv cv iv wr => ∃ (i c b' : Nat) (zc : List Nat), i ≤ n + 1 ∧ bv = .int .u64 ((b' : Nat) : Int) ∧ cv = .int .u64 ((c : Nat) : Int) ∧ iv = .int .i64 ((i : Nat) : Int) ∧ Hid (Wd.WSub B32 ul vl zc q i c b') ∧ Hid (i = n + 1 → c = 0) ∧ ZB .u32 wr b T (win us off zc) ∧ w.grownBy wr (some b)) (fun _ _ iv _ => n + 1 - (intOf iv).toNat)
    case atStart => exact ⟨0, 0, 0, ul, by omega, rfl, rfl, rfl, Wd.WSub.start _ _ _ (by rw [B32_eq]; omega) (unhide HP).ltu, fun _ => rfl, by rw [HWU.out]; exact (unhide HZ).drewN _, grown_drewN (grown_refl _ _) _⟩
    case round =>
      obtain ⟨i, c, b', zc, hi, rfl, rfl, rfl, HI, HC0, hzr, hgr⟩ := hrel
      have hBB2 : B32 * B32 = B64 := by rw [B32_eq, B64_eq]
      have hzl := (unhide HI).len
      by_cases hle : i ≤ n
      · have d1 : decide ((i : Int) ≤ (n : Int)) = true := decide_eq_true (by omega)
        have d1' : decide (i ≤ n) = true := decide_eq_true hle
        obtain ⟨x, hx⟩ : ∃ t, t = Wd.g ul i := ⟨_, rfl⟩
        have hxc := hzr.cell (off + i) (by rw [win_length _ _ _ (by rw [hzl]; exact unhide HOFF)]; have h1 := (unhide HOFF); have h2 := (unhide HP).lenu; omega)
        rw [win_g us off zc (by rw [hzl]; exact unhide HOFF) i (by rw [hzl, (unhide HP).lenu]; omega), show Wd.g zc i = Wd.g ul i from (unhide HI).same i (Nat.le_refl _), ← hx] at hxc
        have hzf := hzr.frozen (off + i)
        have hxB : x < B32 := by rw [hx]; exact Wd.getD_lt (by rw [B32_eq]; omega) _ (unhide HP).ltu _
        by_cases hin : i < n
        · have d2 : decide ((i : Int) < (n : Int)) = true := decide_eq_true (by omega)
          have d2' : decide (i < n) = true := decide_eq_true hin
          obtain ⟨y, hy⟩ : ∃ t, t = Wd.g vl i := ⟨_, rfl⟩
          have hyc := (World.cell?_of_block (hgr.block bv (unhide HBB).2 (fun e => by injection e with e; exact (unhide HBB).1 e))).trans ((unhide HCV) i (by rw [(unhide HP).lenv]; exact hin))
          rw [← hy] at hyc
          have hyB : y < B32 := by rw [hy]; exact Wd.getD_lt (by rw [B32_eq]; omega) _ (unhide HP).ltv _
          obtain ⟨p, hpp⟩ : ∃ t, t = q * y := ⟨_, rfl⟩
          obtain ⟨t, ht⟩ : ∃ t, t = c + p := ⟨_, rfl⟩
          have htB : t < B32 * B32 := by
            have h1 := Wd.mul_bound (z := 0) (unhide HQR).2.2 hyB (unhide HI).c1 (by rw [B32_eq]; omega)
            rw [ht, hpp]; omega
          have k1 : IntKind.u64.wrap (y : Int) = (y : Int) := wrap64_nat rfl ((unhide HB64) _ hyB)
          have k2 : IntKind.u64.wrap ((q : Int) * (y : Int)) = (p : Int) := wrap64_nat (by rw [hpp]; simp) (by rw [← hBB2]; omega)
          have k3 : IntKind.u64.wrap ((c : Int) + (p : Int)) = (t : Int) := wrap64_nat (by rw [ht]; simp) (by rw [← hBB2]; exact htB)
          obtain ⟨lo, hlo⟩ : ∃ u, u = t % B32 := ⟨_, rfl⟩
          obtain ⟨c2, hc2⟩ : ∃ u, u = t / B32 := ⟨_, rfl⟩
          obtain ⟨s1, hs1⟩ : ∃ u : Nat, (u : Int) = ((x : Int) - (lo : Int)) % 18446744073709551616 := ⟨(((x : Int) - (lo : Int)) % 18446744073709551616).toNat, by omega⟩
          obtain ⟨s2, hs2⟩ : ∃ u : Nat, (u : Int) = ((s1 : Int) - (b' : Int)) % 18446744073709551616 := ⟨(((s1 : Int) - (b' : Int)) % 18446744073709551616).toNat, by omega⟩
          obtain ⟨d, hd⟩ : ∃ u, u = s2 % B32 := ⟨_, rfl⟩
          obtain ⟨b2, hb2⟩ : ∃ u, u = s2 / 9223372036854775808 := ⟨_, rfl⟩
          have hloB : lo < B32 := by rw [hlo]; exact Nat.mod_lt _ (by rw [B32_eq]; omega)
          have hsw := sub_word hxB hloB (unhide HI).b1 hs1 hs2
          rw [← hd, ← hb2] at hsw
          have hnew : Wd.WSub B32 ul vl (zc.set i d) q (i + 1) c2 b2 := by
            rw [hc2]
            refine (unhide HI).step (by rw [(unhide HP).lenu]; omega) (by rw [ht, hpp, hy]; rfl) htB hsw.1 hsw.2.1 ?_
            rw [← hlo, ← Wd.g_def, ← hx]
            exact hsw.2.2
          have m1 : IntKind.u64.wrap (x : Int) = (x : Int) := wrap64_nat rfl ((unhide HB64) _ hxB)
          have m2 : IntKind.u32.wrap (t : Int) = (lo : Int) := by rw [wrap32_nat, hlo]
          have m2' : (t : Int) % 4294967296 = (lo : Int) := by rw [hlo, B32_eq]; omega
          have m3 : IntKind.u64.wrap (lo : Int) = (lo : Int) := wrap64_nat rfl ((unhide HB64) _ hloB)
          have m4 : IntKind.u64.wrap ((x : Int) - (lo : Int)) = (s1 : Int) := by rw [IntKind.wrap_u64, hs1]
          have m5 : IntKind.u64.wrap ((s1 : Int) - (b' : Int)) = (s2 : Int) := by rw [IntKind.wrap_u64, hs2]
          have m6 : IntKind.u32.wrap (s2 : Int) = (d : Int) := by rw [wrap32_nat, hd]
          have m6' : (s2 : Int) % 4294967296 = (d : Int) := by rw [hd, B32_eq]; omega
          have m7 : (s2 : Int) / 9223372036854775808 = (b2 : Int) := by rw [hb2]; omega
          have m8 : (t : Int) / 4294967296 = (c2 : Int) := by rw [hc2, B32_eq]; omega
          have hfin : ∀ W, W = wr.setCell ⟨b, off + i, none⟩ (.int .u32 (d : Int)) → ZB .u32 W b T (win us off (zc.set i d)) ∧ w.grownBy W (some b) := by
            rintro W rfl
            refine ⟨?_, grown_setCell hgr _ _⟩
            rw [← win_set us off zc (by rw [hzl, (unhide HP).lenu]; have := (unhide HOFF); rw [(unhide HP).lenu] at this; exact this) i d (by rw [hzl, (unhide HP).lenu]; omega)]
            exact hzr.set_ _ _
          have HN := hide hnew; have HF := hide hfin
          clear hnew hfin hsw hd hb2 hs1 hs2 hlo hc2 ht htB hloB hxB hx hzl hgr hzr hBB2 hpp hy hyB
          go_wp2_with fail
          go_roundw
          case rel =>
            obtain ⟨r1, r2⟩ := (unhide HF) _ rfl
            exact ⟨i + 1, c2, b2, zc.set i d, by omega, rfl, rfl, by go_num, HN, fun h => by omega, r1, r2⟩
          case measure => simp [intOf]; omega
        · have d2 : decide ((i : Int) < (n : Int)) = false := decide_eq_false (by omega)
          have d2' : decide (i < n) = false := decide_eq_false hin
          replace hin : i = n := by omega
          have hy0 : vl.getD i 0 = 0 := by
            have h := (unhide HP).lenv
            rw [List.getD, List.getElem?_eq_none (by omega)]; rfl
          obtain ⟨t, ht⟩ : ∃ t, t = c := ⟨_, rfl⟩
          have htc : (t : Int) = (c : Int) := by rw [ht]
          have htB : t < B32 * B32 := by
            have h1 := (unhide HI).c1
            have h2 : B32 * 1 ≤ B32 * B32 := Nat.mul_le_mul_left _ (by rw [B32_eq]; omega)
            omega
          obtain ⟨lo, hlo⟩ : ∃ u, u = t % B32 := ⟨_, rfl⟩
          obtain ⟨c2, hc2⟩ : ∃ u, u = t / B32 := ⟨_, rfl⟩
          obtain ⟨s1, hs1⟩ : ∃ u : Nat, (u : Int) = ((x : Int) - (lo : Int)) % 18446744073709551616 := ⟨(((x : Int) - (lo : Int)) % 18446744073709551616).toNat, by omega⟩
          obtain ⟨s2, hs2⟩ : ∃ u : Nat, (u : Int) = ((s1 : Int) - (b' : Int)) % 18446744073709551616 := ⟨(((s1 : Int) - (b' : Int)) % 18446744073709551616).toNat, by omega⟩
          obtain ⟨d, hd⟩ : ∃ u, u = s2 % B32 := ⟨_, rfl⟩
          obtain ⟨b2, hb2⟩ : ∃ u, u = s2 / 9223372036854775808 := ⟨_, rfl⟩
          have hloB : lo < B32 := by rw [hlo]; exact Nat.mod_lt _ (by rw [B32_eq]; omega)
          have hsw := sub_word hxB hloB (unhide HI).b1 hs1 hs2
          rw [← hd, ← hb2] at hsw
          have hnew : Wd.WSub B32 ul vl (zc.set i d) q (i + 1) c2 b2 := by
            rw [hc2]
            refine (unhide HI).step (by rw [(unhide HP).lenu]; omega) (by rw [ht, hy0, Nat.mul_zero, Nat.add_zero]) htB hsw.1 hsw.2.1 ?_
            rw [← hlo, ← Wd.g_def, ← hx]
            exact hsw.2.2
          have m1 : IntKind.u64.wrap (x : Int) = (x : Int) := wrap64_nat rfl ((unhide HB64) _ hxB)
          have m2 : IntKind.u32.wrap (t : Int) = (lo : Int) := by rw [wrap32_nat, hlo]
          have m2' : (t : Int) % 4294967296 = (lo : Int) := by rw [hlo, B32_eq]; omega
          have m3 : IntKind.u64.wrap (lo : Int) = (lo : Int) := wrap64_nat rfl ((unhide HB64) _ hloB)
          have m4 : IntKind.u64.wrap ((x : Int) - (lo : Int)) = (s1 : Int) := by rw [IntKind.wrap_u64, hs1]
          have m5 : IntKind.u64.wrap ((s1 : Int) - (b' : Int)) = (s2 : Int) := by rw [IntKind.wrap_u64, hs2]
          have m6 : IntKind.u32.wrap (s2 : Int) = (d : Int) := by rw [wrap32_nat, hd]
          have m6' : (s2 : Int) % 4294967296 = (d : Int) := by rw [hd, B32_eq]; omega
          have m7 : (s2 : Int) / 9223372036854775808 = (b2 : Int) := by rw [hb2]; omega
          have m8 : (t : Int) / 4294967296 = (c2 : Int) := by rw [hc2, B32_eq]; omega
          have hfin : ∀ W, W = wr.setCell ⟨b, off + i, none⟩ (.int .u32 (d : Int)) → ZB .u32 W b T (win us off (zc.set i d)) ∧ w.grownBy W (some b) := by
            rintro W rfl
            refine ⟨?_, grown_setCell hgr _ _⟩
            rw [← win_set us off zc (by rw [hzl, (unhide HP).lenu]; have := (unhide HOFF); rw [(unhide HP).lenu] at this; exact this) i d (by rw [hzl, (unhide HP).lenu]; omega)]
            exact hzr.set_ _ _
          have HC2 := Lib.hid (show c2 = 0 by rw [hc2, ht]; exact Nat.div_eq_of_lt (unhide HI).c1)
          have HN := hide hnew; have HF := hide hfin
          clear hnew hfin hsw hd hb2 hs1 hs2 hlo hc2 htB hloB hxB hx hzl hgr hzr hBB2
          have HIN := Lib.hid hin
          subst ht
          clear hin hy0 htc
          go_wp2_with fail
          go_roundw
          case rel =>
            obtain ⟨r1, r2⟩ := (unhide HF) _ rfl
            exact ⟨i + 1, c2, b2, zc.set i d, by have := HIN.out; omega, rfl, rfl, by go_num, HN, fun _ => HC2.out, r1, r2⟩
          case measure => have := HIN.out; simp [intOf]; omega
      · have d1 : decide ((i : Int) ≤ (n : Int)) = false := decide_eq_false (by omega)
        have d1' : decide (i ≤ n) = false := decide_eq_false hle
        have e : i = n + 1 := by omega
        subst e
        clear hle
        have hc0 := (unhide HC0) rfl
        subst hc0
        have hqB := (unhide HQR).2.2
        have j1 : (q : Int) % 4294967296 = (q : Int) := by rw [B32_eq] at hqB; omega
        have j2 : IntKind.u32.wrap (q : Int) = (q : Int) := by rw [IntKind.wrap_u32]; exact j1
        have hdone : Wd.val B32 zc + q * Wd.val B32 vl = Wd.val B32 ul + B32 ^ (n + 1) * b' := by
          have h1 := (unhide HP).lenu
          have h2 := unhide HI
          rw [← h1] at h2 ⊢
          exact h2.done (by rw [h1, (unhide HP).lenv]; omega)
        have hV0 : 0 < Wd.val B32 vl := by
          rcases Nat.eq_zero_or_pos (Wd.val B32 vl) with h | h
          · have := (unhide HP).pre; rw [h] at this; omega
          · exact h
        have hdm := Nat.div_add_mod (Wd.val B32 ul) (Wd.val B32 vl)
        rw [← HQ.out, Nat.mul_comm] at hdm
        have hml := Nat.mod_lt (Wd.val B32 ul) hV0
        have hzlt := Wd.val_lt zc (unhide HI).lt
        rw [hzl, (unhide HP).lenu] at hzlt
        rcases (show b' = 0 ∨ b' = 1 by have := (unhide HI).b1; omega) with rfl | rfl
        · have hqQ : q = Q := by
            have h1 := (unhide HQR).1
            have h2 := (unhide HQR).2.1
            rcases (show q = Q ∨ q = Q + 1 by omega) with h | h
            · exact h
            · rw [h, Nat.add_mul, Nat.one_mul] at hdone; omega
          have hok : StepT ul vl zc q := ⟨hzl, (unhide HI).lt, hqQ.trans HQ.out, by rw [hqQ] at hdone; omega⟩
          have HOK := hide hok
          clear hok hqQ hdone hV0 hdm hml hzlt hBB2 hqB
          go_wp2_with fail
          go_ret
          exact ⟨zc, q, rfl, unhide HOK, (unhide HQR).2.2, hzr, hgr⟩
        · have hqQ : q = Q + 1 := by
            have h1 := (unhide HQR).1
            have h2 := (unhide HQR).2.1
            rcases (show q = Q ∨ q = Q + 1 by omega) with h | h
            · rw [h] at hdone; omega
            · exact h
          have hOF2 : off + (n + 1) ≤ us.length := by have := unhide HOFF; rwa [(unhide HP).lenu] at this
          have HOF2 := hide hOF2
          have HZL := Lib.hid (hzl.trans (unhide HP).lenu)
          have HQQ := Lib.hid hqQ
          have HDN := Lib.hid hdone
          have HDM := hide (And.intro hdm (And.intro hml hzlt))
          have j3 : IntKind.u64.wrap ((q : Int) - 1) = (Q : Int) := wrap64_nat (by rw [hqQ]; omega) (by rw [B32_eq] at hqB; rw [B64_eq]; omega)
          have j4 : (Q : Int) % 4294967296 = (Q : Int) := by rw [B32_eq] at hqB; omega
          have j5 : IntKind.u32.wrap (Q : Int) = (Q : Int) := by rw [IntKind.wrap_u32]; exact j4
          have HQB := hide (show Q < B32 by omega)
          have HZC := hide (unhide HI).lt
          clear hdone hV0 hdm hml hzlt hBB2 hqB hOF2 hqQ
          go_wp2_with fail
          go_loopw [14, 17] (fun cv iv wr => ∃ (i c : Nat) (zd : List Nat), i ≤ n + 1 ∧ cv = .int .u64 ((c : Nat) : Int) ∧ iv = .int .i64 ((i : Nat) : Int) ∧ Hid (Wd.AddInv B32 zc vl zd i c) ∧ ZB .u32 wr b T (win us off zd) ∧ w.grownBy wr (some b)) (fun _ iv _ => n + 1 - (intOf iv).toNat)
          case atStart => exact ⟨0, 0, zc, by omega, rfl, rfl, Wd.AddInv.start _ _ (unhide HZC), hzr, hgr⟩
          case round =>
            clear hzr hgr
            obtain ⟨i, c, zd, hi, rfl, rfl, HA, hzr, hgr⟩ := hrel
            have hzdl := (unhide HA).len.trans HZL.out
            by_cases hle : i ≤ n
            · have d1 : decide ((i : Int) ≤ (n : Int)) = true := decide_eq_true (by omega)
              have d1' : decide (i ≤ n) = true := decide_eq_true hle
              obtain ⟨x, hx⟩ : ∃ t, t = Wd.g zc i := ⟨_, rfl⟩
              have hxc := hzr.cell (off + i) (by rw [win_length _ _ _ (by rw [hzdl]; exact unhide HOF2)]; have h1 := (unhide HOF2); omega)
              rw [win_g us off zd (by rw [hzdl]; exact unhide HOF2) i (by rw [hzdl]; omega), show Wd.g zd i = Wd.g zc i from (unhide HA).same i (Nat.le_refl _), ← hx] at hxc
              have hzf := hzr.frozen (off + i)
              have hxB : x < B32 := by rw [hx]; exact Wd.getD_lt (by rw [B32_eq]; omega) _ (unhide HZC) _
              by_cases hin : i < n
              · have d2 : decide ((i : Int) < (n : Int)) = true := decide_eq_true (by omega)
                have d2' : decide (i < n) = true := decide_eq_true hin
                obtain ⟨y, hy⟩ : ∃ t, t = Wd.g vl i := ⟨_, rfl⟩
                have hyc := (World.cell?_of_block (hgr.block bv (unhide HBB).2 (fun e => by injection e with e; exact (unhide HBB).1 e))).trans ((unhide HCV) i (by rw [(unhide HP).lenv]; exact hin))
                rw [← hy] at hyc
                have hyB : y < B32 := by rw [hy]; exact Wd.getD_lt (by rw [B32_eq]; omega) _ (unhide HP).ltv _
                obtain ⟨s, hs⟩ : ∃ u, u = c + x := ⟨_, rfl⟩
                obtain ⟨t, ht⟩ : ∃ u, u = s + y := ⟨_, rfl⟩
                have hcB := (unhide HA).c1
                have k1 : IntKind.u64.wrap (y : Int) = (y : Int) := wrap64_nat rfl ((unhide HB64) _ hyB)
                have k2 : IntKind.u64.wrap ((c : Int) + (x : Int)) = (s : Int) := wrap64_nat (by rw [hs]; simp) (by rw [hs]; rw [B32_eq] at *; rw [B64_eq]; omega)
                have k3 : IntKind.u64.wrap ((s : Int) + (y : Int)) = (t : Int) := wrap64_nat (by rw [ht]; simp) (by rw [ht, hs]; rw [B32_eq] at *; rw [B64_eq]; omega)
                have het : zd.getD i 0 + vl.getD i 0 + c = t := by rw [ht, hs, hx, hy, (unhide HA).same i (Nat.le_refl _)]; show _ + Wd.g vl i + c = c + Wd.g zc i + Wd.g vl i; rw [show zc.getD i 0 = Wd.g zc i from rfl]; omega
                obtain ⟨d, hd⟩ : ∃ u, u = t % B32 := ⟨_, rfl⟩
                obtain ⟨c2, hc2⟩ : ∃ u, u = t / B32 := ⟨_, rfl⟩
                have hnew : Wd.AddInv B32 zc vl (zd.set i d) (i + 1) c2 := by
                  have := (unhide HA).step B32_pos (unhide HP).ltv (by rw [HZL.out]; omega)
                  rw [het] at this
                  rw [hd, hc2]; exact this
                have m1 : IntKind.u64.wrap (x : Int) = (x : Int) := wrap64_nat rfl ((unhide HB64) _ hxB)
                have m2 : IntKind.u32.wrap (t : Int) = (d : Int) := by rw [wrap32_nat, hd]
                have m2' : (t : Int) % 4294967296 = (d : Int) := by rw [hd, B32_eq]; omega
                have m8 : (t : Int) / 4294967296 = (c2 : Int) := by rw [hc2, B32_eq]; omega
                have hfin : ∀ W, W = wr.setCell ⟨b, off + i, none⟩ (.int .u32 (d : Int)) → ZB .u32 W b T (win us off (zd.set i d)) ∧ w.grownBy W (some b) := by
                  rintro W rfl
                  refine ⟨?_, grown_setCell hgr _ _⟩
                  rw [← win_set us off zd (by rw [hzdl]; exact unhide HOF2) i d (by rw [hzdl]; omega)]
                  exact hzr.set_ _ _
                have HN := hide hnew; have HF := hide hfin
                have HIN := Lib.hid hin
                clear hnew hfin het hd hc2 ht hxB hx hzdl hgr hzr hcB hin hs hy hyB
                go_wp2_with fail
                go_roundw
                case rel =>
                  obtain ⟨r1, r2⟩ := (unhide HF) _ rfl
                  exact ⟨i + 1, c2, zd.set i d, by have := HIN.out; omega, rfl, by go_num, HN, r1, r2⟩
                case measure => have := HIN.out; simp [intOf]; omega
              · have d2 : decide ((i : Int) < (n : Int)) = false := decide_eq_false (by omega)
                have d2' : decide (i < n) = false := decide_eq_false hin
                replace hin : i = n := by omega
                have hy0 : vl.getD i 0 = 0 := by
                  have h := (unhide HP).lenv
                  rw [List.getD, List.getElem?_eq_none (by omega)]; rfl
                obtain ⟨t, ht⟩ : ∃ u, u = c + x := ⟨_, rfl⟩
                have hcB := (unhide HA).c1
                have k2 : IntKind.u64.wrap ((c : Int) + (x : Int)) = (t : Int) := wrap64_nat (by rw [ht]; simp) (by rw [ht]; rw [B32_eq] at *; rw [B64_eq]; omega)
                have het : zd.getD i 0 + vl.getD i 0 + c = t := by rw [ht, hx, hy0, (unhide HA).same i (Nat.le_refl _)]; show _ + 0 + c = c + Wd.g zc i; rw [show zc.getD i 0 = Wd.g zc i from rfl]; omega
                obtain ⟨d, hd⟩ : ∃ u, u = t % B32 := ⟨_, rfl⟩
                obtain ⟨c2, hc2⟩ : ∃ u, u = t / B32 := ⟨_, rfl⟩
                have hnew : Wd.AddInv B32 zc vl (zd.set i d) (i + 1) c2 := by
                  have := (unhide HA).step B32_pos (unhide HP).ltv (by rw [HZL.out]; omega)
                  rw [het] at this
                  rw [hd, hc2]; exact this
                have m1 : IntKind.u64.wrap (x : Int) = (x : Int) := wrap64_nat rfl ((unhide HB64) _ hxB)
                have m2 : IntKind.u32.wrap (t : Int) = (d : Int) := by rw [wrap32_nat, hd]
                have m2' : (t : Int) % 4294967296 = (d : Int) := by rw [hd, B32_eq]; omega
                have m8 : (t : Int) / 4294967296 = (c2 : Int) := by rw [hc2, B32_eq]; omega
                have hfin : ∀ W, W = wr.setCell ⟨b, off + i, none⟩ (.int .u32 (d : Int)) → ZB .u32 W b T (win us off (zd.set i d)) ∧ w.grownBy W (some b) := by
                  rintro W rfl
                  refine ⟨?_, grown_setCell hgr _ _⟩
                  rw [← win_set us off zd (by rw [hzdl]; exact unhide HOF2) i d (by rw [hzdl]; omega)]
                  exact hzr.set_ _ _
                have HN := hide hnew; have HF := hide hfin
                have HIN := Lib.hid hin
                clear hnew hfin het hd hc2 ht hxB hx hzdl hgr hzr hcB hin hy0
                go_wp2_with fail
                go_roundw
                case rel =>
                  obtain ⟨r1, r2⟩ := (unhide HF) _ rfl
                  exact ⟨i + 1, c2, zd.set i d, by have := HIN.out; omega, rfl, by go_num, HN, r1, r2⟩
                case measure => have := HIN.out; simp [intOf]; omega
            · have d1 : decide ((i : Int) ≤ (n : Int)) = false := decide_eq_false (by omega)
              have d1' : decide (i ≤ n) = false := decide_eq_false hle
              have e : i = n + 1 := by omega
              subst e
              have hok : StepT ul vl zd Q := by
                have h1 : Wd.val B32 zd + B32 ^ (n + 1) * c = Wd.val B32 zc + Wd.val B32 vl := by
                  have h2 := unhide HA
                  rw [← HZL.out] at h2 ⊢
                  exact h2.done (by rw [HZL.out, (unhide HP).lenv]; omega)
                have h3 := Wd.val_lt zd (unhide HA).lt
                rw [hzdl] at h3
                have h4 := HDN.out
                rw [HQQ.out, Nat.add_mul, Nat.one_mul, Nat.mul_one] at h4
                have h5 := (unhide HDM).1
                have h6 := (unhide HDM).2.2
                have hc := (unhide HA).c1
                refine ⟨(unhide HA).len.trans (HZL.out.trans (unhide HP).lenu.symm), (unhide HA).lt, HQ.out, ?_⟩
                rcases (show c = 0 ∨ c = 1 by omega) with rfl | rfl
                · rw [Nat.mul_zero] at h1; omega
                · rw [Nat.mul_one] at h1; omega
              have HOK := hide hok
              clear hok hle hzdl
              go_wp2_with fail
              go_ret
              exact ⟨zd, Q, rfl, unhide HOK, unhide HQB, hzr, hgr⟩
end Go.Proofs.YtpjgoogeokbaaaaGreatDoor
