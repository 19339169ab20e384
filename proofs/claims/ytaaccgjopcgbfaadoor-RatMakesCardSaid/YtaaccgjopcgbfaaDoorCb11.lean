/- Part 11 of the texts beneath a law of layer 1: RtNew, RatM, RfTold, RfOf, RfQCmp, RfCmp, RatCmp, NearK, Known, MakesA, Frame. -/
import Derived.Test.YtaaccgjopcgbfaaDoorCb10
import Derived.Deep.DeepCutAuto
import Derived.Test.YtaaccgjopcgbfaaDoorRows
import Derived.ProofKit
import Derived.OpenShut
import Derived.LaidMore
import Derived.Lay
import Derived.Lib.SmallJoins
import Derived.Stop.Joined
/- A quotient of two whole numbers, in lowest terms. -/
namespace Go.Proofs.YtaaccgjopcgbfaaDoor
open Go.RowKit

set_option maxRecDepth 100000 in
set_option maxHeartbeats 16000000 in
theorem newr_pos (s1 : Int) (neg1 : Bool) (A1 : Option Addr) (c1 : Nat) (l1 : List Nat) (s2 : Int) (neg2 : Bool) (A2 : Option Addr) (c2 : Nat) (l2 : List Nat) (z1 z2 g r1 r2 : Int) (w : World) (f1 : IntF w s1 neg1 A1 c1 l1 z1) (f2 : IntF w s2 neg2 A2 c2 l2 z2) (hs : ¬ z2 < 0)
    (hg : Op2 w 67 z1 z2 g) (hq1 : Op2 w 70 z1 g r1) (hq2 : Op2 w 70 z2 g r2) :
    Calls Tryd.prog 30 #[(Value.agg #[.int .i64 s1, .bool neg1, .slice A1 l1.length c1]), (Value.agg #[.int .i64 s2, .bool neg2, .slice A2 l2.length c2])] w fun e w' => PairR w r1 r2 e w' := by

  have H1 := hide f1
  have H2 := hide f2
  have HG := hide hg
  have HQ1 := hide hq1
  have HQ2 := hide hq2
  have hs' : decide (sgn z2 < 0) = false := decide_eq_false (by rw [sgn_neg]; exact hs)
  obtain ⟨o, ho⟩ : ∃ o, o = sgn z2 := ⟨_, rfl⟩
  have HS := hide (fun W (f : IntF W s2 neg2 A2 c2 l2 z2) => (show Calls Tryd.prog 68 #[(Value.agg #[.int .i64 s2, .bool neg2, .slice A2 l2.length c2])] W fun e w' => e = .returned (.int .i64 o) ∧ Below W.heap.size W w' by rw [ho]; exact sign_any s2 neg2 A2 c2 l2 z2 W f))
  rw [← ho] at hs'
  clear f1 f2 hg hq1 hq2 hs ho
  go_enter Tryd.func30, Tryd.ntmps30
  go_upto_region 1 with fail
  obtain ⟨n0, n1, n2, hsz, hw0⟩ := three_new w (.cells #[.int .i64 s1, .bool neg1, .slice A1 l1.length c1] 58) (.cells #[.int .i64 s2, .bool neg2, .slice A2 l2.length c2] 58) (.cells #[.int .i64 0, .bool false, .slice none 0 0, .int .i64 0, .bool false, .slice none 0 0] 60)
  generalize (((w.alloc (.cells #[.int .i64 s1, .bool neg1, .slice A1 l1.length c1] 58)).alloc (.cells #[.int .i64 s2, .bool neg2, .slice A2 l2.length c2] 58)).alloc (.cells #[.int .i64 0, .bool false, .slice none 0 0, .int .i64 0, .bool false, .slice none 0 0] 60)) = W0 at *
  have k0_0 : W0.cell? ⟨w.heap.size, 0, none⟩ = some (.int .i64 s1) := cells_of n0 0
  have k0_1 : W0.cell? ⟨w.heap.size, 1, none⟩ = some (.bool neg1) := cells_of n0 1
  have k0_2 : W0.cell? ⟨w.heap.size, 2, none⟩ = some (.slice A1 l1.length c1) := cells_of n0 2
  have q0 : w.heap.size < W0.heap.size := by omega
  have k1_0 : W0.cell? ⟨w.heap.size + 1, 0, none⟩ = some (.int .i64 s2) := cells_of n1 0
  have k1_1 : W0.cell? ⟨w.heap.size + 1, 1, none⟩ = some (.bool neg2) := cells_of n1 1
  have k1_2 : W0.cell? ⟨w.heap.size + 1, 2, none⟩ = some (.slice A2 l2.length c2) := cells_of n1 2
  have q1 : w.heap.size + 1 < W0.heap.size := by omega
  have k2_0 : W0.cell? ⟨w.heap.size + 1 + 1, 0, none⟩ = some (.int .i64 0) := cells_of n2 0
  have k2_1 : W0.cell? ⟨w.heap.size + 1 + 1, 1, none⟩ = some (.bool false) := cells_of n2 1
  have k2_2 : W0.cell? ⟨w.heap.size + 1 + 1, 2, none⟩ = some (.slice none 0 0) := cells_of n2 2
  have k2_3 : W0.cell? ⟨w.heap.size + 1 + 1, 3, none⟩ = some (.int .i64 0) := cells_of n2 3
  have k2_4 : W0.cell? ⟨w.heap.size + 1 + 1, 4, none⟩ = some (.bool false) := cells_of n2 4
  have k2_5 : W0.cell? ⟨w.heap.size + 1 + 1, 5, none⟩ = some (.slice none 0 0) := cells_of n2 5
  have q2 : w.heap.size + 1 + 1 < W0.heap.size := by omega
  have f2_0 := unfrozen_of n2 0
  have f2_1 := unfrozen_of n2 1
  have f2_2 := unfrozen_of n2 2
  have f2_3 := unfrozen_of n2 3
  have f2_4 := unfrozen_of n2 4
  have f2_5 := unfrozen_of n2 5
  have NR := Lib.hid n2
  clear hsz n0 n1 n2
  replace H1 := hide ((unhide H1).below hw0)
  replace H2 := hide ((unhide H2).below hw0)
  go_cut [5] (fun s5_ wx => ∃ b5 : Nat, s5_ = .pointer (some ⟨b5, 0, none⟩) ∧ BoxI wx b5 g ∧ Below W0.heap.size W0 wx ∧ W0.heap.size ≤ b5)
  case first =>
    go_wp2_with fail
    refine ((unhide HG) s1 neg1 A1 c1 l1 s2 neg2 A2 c2 l2 _ hw0 (unhide H1) (unhide H2)).mono ?_
    rintro e w' ⟨s5, neg5, A5, c5, l5, rfl, hf5, hb5⟩
    go_wp2_with fail
    go_meet
    exact ⟨_, rfl, put_n hf5 hb5 rfl⟩
  case rest =>
    revert hcut
    generalize wc = W1
    intro hcut
    obtain ⟨b5, rfl, ⟨s5, neg5, A5, c5, l5, n5, f5⟩, hB1, ob5⟩ := hcut
    have k5_0 : W1.cell? ⟨b5, 0, none⟩ = some (.int .i64 s5) := cells_of n5 0
    have k5_1 : W1.cell? ⟨b5, 1, none⟩ = some (.bool neg5) := cells_of n5 1
    have k5_2 : W1.cell? ⟨b5, 2, none⟩ = some (.slice A5 l5.length c5) := cells_of n5 2
    have y0 : W1.cell? ⟨w.heap.size + 1, 0, none⟩ = some (.int .i64 s2) := keep_cell hB1 q1 k1_0
    have y1 : W1.cell? ⟨w.heap.size + 1, 1, none⟩ = some (.bool neg2) := keep_cell hB1 q1 k1_1
    have y2 : W1.cell? ⟨w.heap.size + 1, 2, none⟩ = some (.slice A2 l2.length c2) := keep_cell hB1 q1 k1_2
    go_wp2_with fail
    refine ((unhide HS) W1 ((unhide H2).below hB1)).mono ?_
    rintro e W2 ⟨rfl, hb⟩
    have q5 := lt_of_block n5
    have n5' := (hb.block _ q5).trans n5
    have f5' := f5.below hb
    have hB := below_step' hB1 hb
    clear k5_0 k5_1 k5_2 y0 y1 y2 f5 n5 hB1
    have ng := n5'
    have fg := f5'
    clear n5' f5' hb
    have FG := hide fg
    clear fg
    have k0_0' : W2.cell? ⟨w.heap.size, 0, none⟩ = some (.int .i64 s1) := keep_cell hB q0 k0_0
    have k0_1' : W2.cell? ⟨w.heap.size, 1, none⟩ = some (.bool neg1) := keep_cell hB q0 k0_1
    have k0_2' : W2.cell? ⟨w.heap.size, 2, none⟩ = some (.slice A1 l1.length c1) := keep_cell hB q0 k0_2
    have q0' : w.heap.size < W2.heap.size := Nat.lt_of_lt_of_le q0 hB.size
    have k1_0' : W2.cell? ⟨w.heap.size + 1, 0, none⟩ = some (.int .i64 s2) := keep_cell hB q1 k1_0
    have k1_1' : W2.cell? ⟨w.heap.size + 1, 1, none⟩ = some (.bool neg2) := keep_cell hB q1 k1_1
    have k1_2' : W2.cell? ⟨w.heap.size + 1, 2, none⟩ = some (.slice A2 l2.length c2) := keep_cell hB q1 k1_2
    have q1' : w.heap.size + 1 < W2.heap.size := Nat.lt_of_lt_of_le q1 hB.size
    have k5_0' := cells_of ng 0
    have k5_1' := cells_of ng 1
    have k5_2' := cells_of ng 2
    have q5' := lt_of_block ng
    simp only [Array.getElem?_eq_getElem, three0, three1, three2] at k5_0' k5_1' k5_2'
    have kr_0 : W2.cell? ⟨w.heap.size + 1 + 1, 0, none⟩ = some (.int .i64 0) := keep_cell hB q2 k2_0
    have fr_0 : W2.frozen? ⟨w.heap.size + 1 + 1, 0, none⟩ = false := (hB.frozen (p := ⟨w.heap.size + 1 + 1, 0, none⟩) q2).trans f2_0
    have kr_1 : W2.cell? ⟨w.heap.size + 1 + 1, 1, none⟩ = some (.bool false) := keep_cell hB q2 k2_1
    have fr_1 : W2.frozen? ⟨w.heap.size + 1 + 1, 1, none⟩ = false := (hB.frozen (p := ⟨w.heap.size + 1 + 1, 1, none⟩) q2).trans f2_1
    have kr_2 : W2.cell? ⟨w.heap.size + 1 + 1, 2, none⟩ = some (.slice none 0 0) := keep_cell hB q2 k2_2
    have fr_2 : W2.frozen? ⟨w.heap.size + 1 + 1, 2, none⟩ = false := (hB.frozen (p := ⟨w.heap.size + 1 + 1, 2, none⟩) q2).trans f2_2
    have kr_3 : W2.cell? ⟨w.heap.size + 1 + 1, 3, none⟩ = some (.int .i64 0) := keep_cell hB q2 k2_3
    have fr_3 : W2.frozen? ⟨w.heap.size + 1 + 1, 3, none⟩ = false := (hB.frozen (p := ⟨w.heap.size + 1 + 1, 3, none⟩) q2).trans f2_3
    have kr_4 : W2.cell? ⟨w.heap.size + 1 + 1, 4, none⟩ = some (.bool false) := keep_cell hB q2 k2_4
    have fr_4 : W2.frozen? ⟨w.heap.size + 1 + 1, 4, none⟩ = false := (hB.frozen (p := ⟨w.heap.size + 1 + 1, 4, none⟩) q2).trans f2_4
    have kr_5 : W2.cell? ⟨w.heap.size + 1 + 1, 5, none⟩ = some (.slice none 0 0) := keep_cell hB q2 k2_5
    have fr_5 : W2.frozen? ⟨w.heap.size + 1 + 1, 5, none⟩ = false := (hB.frozen (p := ⟨w.heap.size + 1 + 1, 5, none⟩) q2).trans f2_5
    have qr : w.heap.size + 1 + 1 < W2.heap.size := Nat.lt_of_lt_of_le q2 hB.size
    have or5 : w.heap.size + 1 + 1 < b5 := Nat.lt_of_lt_of_le q2 ob5
    clear k0_0 k0_1 k0_2 k1_0 k1_1 k1_2 k2_0 k2_1 k2_2 k2_3 k2_4 k2_5 f2_0 f2_1 f2_2 f2_3 f2_4 f2_5 ng
    have KEEP := hide (show ∀ X, Below W2.heap.size W2 X → X.cell? ⟨w.heap.size, 0, none⟩ = some (.int .i64 s1) ∧ X.cell? ⟨w.heap.size, 1, none⟩ = some (.bool neg1) ∧ X.cell? ⟨w.heap.size, 2, none⟩ = some (.slice A1 l1.length c1) ∧ X.cell? ⟨w.heap.size + 1, 0, none⟩ = some (.int .i64 s2) ∧ X.cell? ⟨w.heap.size + 1, 1, none⟩ = some (.bool neg2) ∧ X.cell? ⟨w.heap.size + 1, 2, none⟩ = some (.slice A2 l2.length c2) ∧ X.cell? ⟨b5, 0, none⟩ = some (.int .i64 s5) ∧ X.cell? ⟨b5, 1, none⟩ = some (.bool neg5) ∧ X.cell? ⟨b5, 2, none⟩ = some (.slice A5 l5.length c5) from fun X hX => ⟨keep_cell hX q0' k0_0', keep_cell hX q0' k0_1', keep_cell hX q0' k0_2', keep_cell hX q1' k1_0', keep_cell hX q1' k1_1', keep_cell hX q1' k1_2', keep_cell hX q5' k5_0', keep_cell hX q5' k5_1', keep_cell hX q5' k5_2'⟩)
    go_wp2_with fail
    go_region_held3 (fun w' => w'.cell? ⟨w.heap.size, 0, none⟩ = some (.int .i64 s1) ∧ w'.cell? ⟨w.heap.size, 1, none⟩ = some (.bool neg1) ∧ w'.cell? ⟨w.heap.size, 2, none⟩ = some (.slice A1 l1.length c1) ∧ w'.cell? ⟨w.heap.size + 1, 0, none⟩ = some (.int .i64 s2) ∧ w'.cell? ⟨w.heap.size + 1, 1, none⟩ = some (.bool neg2) ∧ w'.cell? ⟨w.heap.size + 1, 2, none⟩ = some (.slice A2 l2.length c2) ∧ w'.cell? ⟨b5, 0, none⟩ = some (.int .i64 s5) ∧ w'.cell? ⟨b5, 1, none⟩ = some (.bool neg5) ∧ w'.cell? ⟨b5, 2, none⟩ = some (.slice A5 l5.length c5)) (first | with_reducible exact ⟨(cell_set6 _ _ _ _ _ _ _ _ (by omega)).trans (keep_cell hbw q0' k0_0'), (cell_set6 _ _ _ _ _ _ _ _ (by omega)).trans (keep_cell hbw q0' k0_1'), (cell_set6 _ _ _ _ _ _ _ _ (by omega)).trans (keep_cell hbw q0' k0_2'), (cell_set6 _ _ _ _ _ _ _ _ (by omega)).trans (keep_cell hbw q1' k1_0'), (cell_set6 _ _ _ _ _ _ _ _ (by omega)).trans (keep_cell hbw q1' k1_1'), (cell_set6 _ _ _ _ _ _ _ _ (by omega)).trans (keep_cell hbw q1' k1_2'), (cell_set6 _ _ _ _ _ _ _ _ (by omega)).trans (keep_cell hbw q5' k5_0'), (cell_set6 _ _ _ _ _ _ _ _ (by omega)).trans (keep_cell hbw q5' k5_1'), (cell_set6 _ _ _ _ _ _ _ _ (by omega)).trans (keep_cell hbw q5' k5_2')⟩ | with_reducible exact (unhide KEEP) _ (by (repeat (first | with_reducible exact Below.refl _ _ | with_reducible assumption | with_reducible refine Below.drew ?_ | with_reducible refine below_alloc ?_ _)))) (first | (go_at_call_of 70 (Value.agg #[.int .i64 s1, .bool neg1, .slice A1 l1.length c1]); refine ((unhide HQ1) s1 neg1 A1 c1 l1 s5 neg5 A5 c5 l5 _ (below_step' hw0 (below_step' hB (by (repeat (first | with_reducible exact Below.refl _ _ | with_reducible assumption | with_reducible refine Below.drew ?_ | with_reducible refine below_alloc ?_ _))))) (IntF.below (unhide H1) (below_step' hB (by (repeat (first | with_reducible exact Below.refl _ _ | with_reducible assumption | with_reducible refine Below.drew ?_ | with_reducible refine below_alloc ?_ _))))) (IntF.below (unhide FG) (by (repeat (first | with_reducible exact Below.refl _ _ | with_reducible assumption | with_reducible refine Below.drew ?_ | with_reducible refine below_alloc ?_ _))))).mono ?_; rintro e w' ⟨s8, neg8, A8, c8, l8, rfl, hf8, hb8⟩; have hbw := below_step (w := W2) (by (repeat (first | with_reducible exact Below.refl _ _ | with_reducible assumption | with_reducible refine Below.drew ?_ | with_reducible refine below_alloc ?_ _))) hb8; have hsw := hbw.size; obtain ⟨hc, hfz⟩ := bcell hbw) | (go_at_call_of 70 (Value.agg #[.int .i64 s2, .bool neg2, .slice A2 l2.length c2]); refine ((unhide HQ2) s2 neg2 A2 c2 l2 s5 neg5 A5 c5 l5 _ (below_step' hw0 (below_step' hB (by (repeat (first | with_reducible exact Below.refl _ _ | with_reducible assumption | with_reducible refine Below.drew ?_ | with_reducible refine below_alloc ?_ _))))) (IntF.below (unhide H2) (below_step' hB (by (repeat (first | with_reducible exact Below.refl _ _ | with_reducible assumption | with_reducible refine Below.drew ?_ | with_reducible refine below_alloc ?_ _))))) (IntF.below (unhide FG) (by (repeat (first | with_reducible exact Below.refl _ _ | with_reducible assumption | with_reducible refine Below.drew ?_ | with_reducible refine below_alloc ?_ _))))).mono ?_; rintro e w' ⟨s9, neg9, A9, c9, l9, rfl, hf9, hb9⟩; have hf8 := IntF.below (IntF.below hf8 (by (repeat (first | with_reducible exact Below.refl _ _ | with_reducible assumption | with_reducible refine Below.drew ?_ | with_reducible refine below_alloc ?_ _)))) hb9; have hbw := below_step (w := W2) (by (repeat (first | with_reducible exact Below.refl _ _ | with_reducible assumption | with_reducible refine Below.drew ?_ | with_reducible refine below_alloc ?_ _))) hb9; have hsw := hbw.size; obtain ⟨hc, hfz⟩ := bcell hbw))
    have hBB : Below W0.heap.size W0 w' := below_step' hB hbw
    have hblk : w'.heap[w.heap.size + 1 + 1]? = some (.cells #[.int .i64 0, .bool false, .slice none 0 0, .int .i64 0, .bool false, .slice none 0 0] 60 (0, 0)) := (hBB.block _ q2).trans NR.out
    have HBLK := Lib.hid hblk
    have hb9 : Below w.heap.size w w' := below_step' hw0 hBB
    clear hblk
    go_wp2_with fail
    exact bodyPost_ret (v := (Value.agg #[.int .i64 s8, .bool neg8, .slice A8 l8.length c8, .int .i64 s9, .bool neg9, .slice A9 l9.length c9])) (by simp [results, Tryd.results30, go_sem, hc, kr_0, kr_1, kr_2, kr_3, kr_4, kr_5, qr]) rfl
      ⟨s8, neg8, A8, c8, l8, s9, neg9, A9, c9, l9, rfl, (hf8).upto HBLK.out (noWord6 _ _ _ _ _ _ _ _ _ _) (set6_grown _ _ _ _ _ _ _ _), (hf9).upto HBLK.out (noWord6 _ _ _ _ _ _ _ _ _ _) (set6_grown _ _ _ _ _ _ _ _), hb9.grown (set6_grown _ _ _ _ _ _ _ _) hb9.size (fun k hk => by injection hk with hk; omega)⟩
set_option maxRecDepth 100000 in
set_option maxHeartbeats 16000000 in
theorem newr_neg (s1 : Int) (neg1 : Bool) (A1 : Option Addr) (c1 : Nat) (l1 : List Nat) (s2 : Int) (neg2 : Bool) (A2 : Option Addr) (c2 : Nat) (l2 : List Nat) (z1 z2 g gn r1 r2 : Int) (w : World) (f1 : IntF w s1 neg1 A1 c1 l1 z1) (f2 : IntF w s2 neg2 A2 c2 l2 z2) (hs : z2 < 0) (hgn : gn = -g)
    (hg : Op2 w 67 z1 z2 g) (hq1 : Op2 w 70 z1 gn r1) (hq2 : Op2 w 70 z2 gn r2) :
    Calls Tryd.prog 30 #[(Value.agg #[.int .i64 s1, .bool neg1, .slice A1 l1.length c1]), (Value.agg #[.int .i64 s2, .bool neg2, .slice A2 l2.length c2])] w fun e w' => PairR w r1 r2 e w' := by
  subst hgn
  have H1 := hide f1
  have H2 := hide f2
  have HG := hide hg
  have HQ1 := hide hq1
  have HQ2 := hide hq2
  have hs' : decide (sgn z2 < 0) = true := decide_eq_true (by rw [sgn_neg]; exact hs)
  obtain ⟨o, ho⟩ : ∃ o, o = sgn z2 := ⟨_, rfl⟩
  have HS := hide (fun W (f : IntF W s2 neg2 A2 c2 l2 z2) => (show Calls Tryd.prog 68 #[(Value.agg #[.int .i64 s2, .bool neg2, .slice A2 l2.length c2])] W fun e w' => e = .returned (.int .i64 o) ∧ Below W.heap.size W w' by rw [ho]; exact sign_any s2 neg2 A2 c2 l2 z2 W f))
  rw [← ho] at hs'
  clear f1 f2 hg hq1 hq2 hs ho
  go_enter Tryd.func30, Tryd.ntmps30
  go_upto_region 1 with fail
  obtain ⟨n0, n1, n2, hsz, hw0⟩ := three_new w (.cells #[.int .i64 s1, .bool neg1, .slice A1 l1.length c1] 58) (.cells #[.int .i64 s2, .bool neg2, .slice A2 l2.length c2] 58) (.cells #[.int .i64 0, .bool false, .slice none 0 0, .int .i64 0, .bool false, .slice none 0 0] 60)
  generalize (((w.alloc (.cells #[.int .i64 s1, .bool neg1, .slice A1 l1.length c1] 58)).alloc (.cells #[.int .i64 s2, .bool neg2, .slice A2 l2.length c2] 58)).alloc (.cells #[.int .i64 0, .bool false, .slice none 0 0, .int .i64 0, .bool false, .slice none 0 0] 60)) = W0 at *
  have k0_0 : W0.cell? ⟨w.heap.size, 0, none⟩ = some (.int .i64 s1) := cells_of n0 0
  have k0_1 : W0.cell? ⟨w.heap.size, 1, none⟩ = some (.bool neg1) := cells_of n0 1
  have k0_2 : W0.cell? ⟨w.heap.size, 2, none⟩ = some (.slice A1 l1.length c1) := cells_of n0 2
  have q0 : w.heap.size < W0.heap.size := by omega
  have k1_0 : W0.cell? ⟨w.heap.size + 1, 0, none⟩ = some (.int .i64 s2) := cells_of n1 0
  have k1_1 : W0.cell? ⟨w.heap.size + 1, 1, none⟩ = some (.bool neg2) := cells_of n1 1
  have k1_2 : W0.cell? ⟨w.heap.size + 1, 2, none⟩ = some (.slice A2 l2.length c2) := cells_of n1 2
  have q1 : w.heap.size + 1 < W0.heap.size := by omega
  have k2_0 : W0.cell? ⟨w.heap.size + 1 + 1, 0, none⟩ = some (.int .i64 0) := cells_of n2 0
  have k2_1 : W0.cell? ⟨w.heap.size + 1 + 1, 1, none⟩ = some (.bool false) := cells_of n2 1
  have k2_2 : W0.cell? ⟨w.heap.size + 1 + 1, 2, none⟩ = some (.slice none 0 0) := cells_of n2 2
  have k2_3 : W0.cell? ⟨w.heap.size + 1 + 1, 3, none⟩ = some (.int .i64 0) := cells_of n2 3
  have k2_4 : W0.cell? ⟨w.heap.size + 1 + 1, 4, none⟩ = some (.bool false) := cells_of n2 4
  have k2_5 : W0.cell? ⟨w.heap.size + 1 + 1, 5, none⟩ = some (.slice none 0 0) := cells_of n2 5
  have q2 : w.heap.size + 1 + 1 < W0.heap.size := by omega
  have f2_0 := unfrozen_of n2 0
  have f2_1 := unfrozen_of n2 1
  have f2_2 := unfrozen_of n2 2
  have f2_3 := unfrozen_of n2 3
  have f2_4 := unfrozen_of n2 4
  have f2_5 := unfrozen_of n2 5
  have NR := Lib.hid n2
  clear hsz n0 n1 n2
  replace H1 := hide ((unhide H1).below hw0)
  replace H2 := hide ((unhide H2).below hw0)
  go_cut [5] (fun s5_ wx => ∃ b5 : Nat, s5_ = .pointer (some ⟨b5, 0, none⟩) ∧ BoxI wx b5 g ∧ Below W0.heap.size W0 wx ∧ W0.heap.size ≤ b5)
  case first =>
    go_wp2_with fail
    refine ((unhide HG) s1 neg1 A1 c1 l1 s2 neg2 A2 c2 l2 _ hw0 (unhide H1) (unhide H2)).mono ?_
    rintro e w' ⟨s5, neg5, A5, c5, l5, rfl, hf5, hb5⟩
    go_wp2_with fail
    go_meet
    exact ⟨_, rfl, put_n hf5 hb5 rfl⟩
  case rest =>
    revert hcut
    generalize wc = W1
    intro hcut
    obtain ⟨b5, rfl, ⟨s5, neg5, A5, c5, l5, n5, f5⟩, hB1, ob5⟩ := hcut
    have k5_0 : W1.cell? ⟨b5, 0, none⟩ = some (.int .i64 s5) := cells_of n5 0
    have k5_1 : W1.cell? ⟨b5, 1, none⟩ = some (.bool neg5) := cells_of n5 1
    have k5_2 : W1.cell? ⟨b5, 2, none⟩ = some (.slice A5 l5.length c5) := cells_of n5 2
    have y0 : W1.cell? ⟨w.heap.size + 1, 0, none⟩ = some (.int .i64 s2) := keep_cell hB1 q1 k1_0
    have y1 : W1.cell? ⟨w.heap.size + 1, 1, none⟩ = some (.bool neg2) := keep_cell hB1 q1 k1_1
    have y2 : W1.cell? ⟨w.heap.size + 1, 2, none⟩ = some (.slice A2 l2.length c2) := keep_cell hB1 q1 k1_2
    go_wp2_with fail
    refine ((unhide HS) W1 ((unhide H2).below hB1)).mono ?_
    rintro e W2 ⟨rfl, hb⟩
    have q5 := lt_of_block n5
    have n5' := (hb.block _ q5).trans n5
    have f5' := f5.below hb
    have hB := below_step' hB1 hb
    clear k5_0 k5_1 k5_2 y0 y1 y2 f5 n5 hB1
    have k5_0 : W2.cell? ⟨b5, 0, none⟩ = some (.int .i64 s5) := cells_of n5' 0
    have k5_1 : W2.cell? ⟨b5, 1, none⟩ = some (.bool neg5) := cells_of n5' 1
    have k5_2 : W2.cell? ⟨b5, 2, none⟩ = some (.slice A5 l5.length c5) := cells_of n5' 2
    have F5 := hide f5'
    clear f5' hb
    go_wp2_with fail
    refine (neg_any s5 neg5 A5 c5 l5 g _ (unhide F5)).mono ?_
    rintro e W3 ⟨s7, neg7, A7, c7, l7, rfl, hf7, hb⟩
    have n5 := (hb.block _ (lt_of_block n5')).trans n5'
    replace hB := below_step' hB hb
    clear k5_0 k5_1 k5_2 n5' hb
    have k5_0 : W3.cell? ⟨b5, 0, none⟩ = some (.int .i64 s5) := cells_of n5 0
    have k5_1 : W3.cell? ⟨b5, 1, none⟩ = some (.bool neg5) := cells_of n5 1
    have k5_2 : W3.cell? ⟨b5, 2, none⟩ = some (.slice A5 l5.length c5) := cells_of n5 2
    have u5_0 := unfrozen_of n5 0
    have u5_1 := unfrozen_of n5 1
    have u5_2 := unfrozen_of n5 2
    have HF7 := hide hf7
    have N5 := hide n5
    clear hf7 n5
    go_upto_region 4 with fail
    have pb := set3_block (u0 := .int .i64 s7) (u1 := .bool neg7) (u2 := .slice A7 l7.length c7) (unhide N5)
    have g3 := set3_grown W3 b5 (.int .i64 s7) (.bool neg7) (.slice A7 l7.length c7)
    have fg := (unhide HF7).upto (unhide N5) (noWord3 _ _ _ _ _) g3
    replace hB := hB.grown g3 hB.size (fun k hk => by injection hk with hk; omega)
    have ng := pb
    clear pb g3 k5_0 k5_1 k5_2 u5_0 u5_1 u5_2
    generalize (((W3.setCell ⟨b5, 0, none⟩ (.int .i64 s7)).setCell ⟨b5, 1, none⟩ (.bool neg7)).setCell ⟨b5, 2, none⟩ (.slice A7 l7.length c7)) = W4 at *
    have FG := hide fg
    clear fg
    have k0_0' : W4.cell? ⟨w.heap.size, 0, none⟩ = some (.int .i64 s1) := keep_cell hB q0 k0_0
    have k0_1' : W4.cell? ⟨w.heap.size, 1, none⟩ = some (.bool neg1) := keep_cell hB q0 k0_1
    have k0_2' : W4.cell? ⟨w.heap.size, 2, none⟩ = some (.slice A1 l1.length c1) := keep_cell hB q0 k0_2
    have q0' : w.heap.size < W4.heap.size := Nat.lt_of_lt_of_le q0 hB.size
    have k1_0' : W4.cell? ⟨w.heap.size + 1, 0, none⟩ = some (.int .i64 s2) := keep_cell hB q1 k1_0
    have k1_1' : W4.cell? ⟨w.heap.size + 1, 1, none⟩ = some (.bool neg2) := keep_cell hB q1 k1_1
    have k1_2' : W4.cell? ⟨w.heap.size + 1, 2, none⟩ = some (.slice A2 l2.length c2) := keep_cell hB q1 k1_2
    have q1' : w.heap.size + 1 < W4.heap.size := Nat.lt_of_lt_of_le q1 hB.size
    have k5_0' := cells_of ng 0
    have k5_1' := cells_of ng 1
    have k5_2' := cells_of ng 2
    have q5' := lt_of_block ng
    simp only [Array.getElem?_eq_getElem, three0, three1, three2] at k5_0' k5_1' k5_2'
    have kr_0 : W4.cell? ⟨w.heap.size + 1 + 1, 0, none⟩ = some (.int .i64 0) := keep_cell hB q2 k2_0
    have fr_0 : W4.frozen? ⟨w.heap.size + 1 + 1, 0, none⟩ = false := (hB.frozen (p := ⟨w.heap.size + 1 + 1, 0, none⟩) q2).trans f2_0
    have kr_1 : W4.cell? ⟨w.heap.size + 1 + 1, 1, none⟩ = some (.bool false) := keep_cell hB q2 k2_1
    have fr_1 : W4.frozen? ⟨w.heap.size + 1 + 1, 1, none⟩ = false := (hB.frozen (p := ⟨w.heap.size + 1 + 1, 1, none⟩) q2).trans f2_1
    have kr_2 : W4.cell? ⟨w.heap.size + 1 + 1, 2, none⟩ = some (.slice none 0 0) := keep_cell hB q2 k2_2
    have fr_2 : W4.frozen? ⟨w.heap.size + 1 + 1, 2, none⟩ = false := (hB.frozen (p := ⟨w.heap.size + 1 + 1, 2, none⟩) q2).trans f2_2
    have kr_3 : W4.cell? ⟨w.heap.size + 1 + 1, 3, none⟩ = some (.int .i64 0) := keep_cell hB q2 k2_3
    have fr_3 : W4.frozen? ⟨w.heap.size + 1 + 1, 3, none⟩ = false := (hB.frozen (p := ⟨w.heap.size + 1 + 1, 3, none⟩) q2).trans f2_3
    have kr_4 : W4.cell? ⟨w.heap.size + 1 + 1, 4, none⟩ = some (.bool false) := keep_cell hB q2 k2_4
    have fr_4 : W4.frozen? ⟨w.heap.size + 1 + 1, 4, none⟩ = false := (hB.frozen (p := ⟨w.heap.size + 1 + 1, 4, none⟩) q2).trans f2_4
    have kr_5 : W4.cell? ⟨w.heap.size + 1 + 1, 5, none⟩ = some (.slice none 0 0) := keep_cell hB q2 k2_5
    have fr_5 : W4.frozen? ⟨w.heap.size + 1 + 1, 5, none⟩ = false := (hB.frozen (p := ⟨w.heap.size + 1 + 1, 5, none⟩) q2).trans f2_5
    have qr : w.heap.size + 1 + 1 < W4.heap.size := Nat.lt_of_lt_of_le q2 hB.size
    have or5 : w.heap.size + 1 + 1 < b5 := Nat.lt_of_lt_of_le q2 ob5
    clear k0_0 k0_1 k0_2 k1_0 k1_1 k1_2 k2_0 k2_1 k2_2 k2_3 k2_4 k2_5 f2_0 f2_1 f2_2 f2_3 f2_4 f2_5 ng
    have KEEP := hide (show ∀ X, Below W4.heap.size W4 X → X.cell? ⟨w.heap.size, 0, none⟩ = some (.int .i64 s1) ∧ X.cell? ⟨w.heap.size, 1, none⟩ = some (.bool neg1) ∧ X.cell? ⟨w.heap.size, 2, none⟩ = some (.slice A1 l1.length c1) ∧ X.cell? ⟨w.heap.size + 1, 0, none⟩ = some (.int .i64 s2) ∧ X.cell? ⟨w.heap.size + 1, 1, none⟩ = some (.bool neg2) ∧ X.cell? ⟨w.heap.size + 1, 2, none⟩ = some (.slice A2 l2.length c2) ∧ X.cell? ⟨b5, 0, none⟩ = some (.int .i64 s7) ∧ X.cell? ⟨b5, 1, none⟩ = some (.bool neg7) ∧ X.cell? ⟨b5, 2, none⟩ = some (.slice A7 l7.length c7) from fun X hX => ⟨keep_cell hX q0' k0_0', keep_cell hX q0' k0_1', keep_cell hX q0' k0_2', keep_cell hX q1' k1_0', keep_cell hX q1' k1_1', keep_cell hX q1' k1_2', keep_cell hX q5' k5_0', keep_cell hX q5' k5_1', keep_cell hX q5' k5_2'⟩)
    go_wp2_with fail
    go_region_held3 (fun w' => w'.cell? ⟨w.heap.size, 0, none⟩ = some (.int .i64 s1) ∧ w'.cell? ⟨w.heap.size, 1, none⟩ = some (.bool neg1) ∧ w'.cell? ⟨w.heap.size, 2, none⟩ = some (.slice A1 l1.length c1) ∧ w'.cell? ⟨w.heap.size + 1, 0, none⟩ = some (.int .i64 s2) ∧ w'.cell? ⟨w.heap.size + 1, 1, none⟩ = some (.bool neg2) ∧ w'.cell? ⟨w.heap.size + 1, 2, none⟩ = some (.slice A2 l2.length c2) ∧ w'.cell? ⟨b5, 0, none⟩ = some (.int .i64 s7) ∧ w'.cell? ⟨b5, 1, none⟩ = some (.bool neg7) ∧ w'.cell? ⟨b5, 2, none⟩ = some (.slice A7 l7.length c7)) (first | with_reducible exact ⟨(cell_set6 _ _ _ _ _ _ _ _ (by omega)).trans (keep_cell hbw q0' k0_0'), (cell_set6 _ _ _ _ _ _ _ _ (by omega)).trans (keep_cell hbw q0' k0_1'), (cell_set6 _ _ _ _ _ _ _ _ (by omega)).trans (keep_cell hbw q0' k0_2'), (cell_set6 _ _ _ _ _ _ _ _ (by omega)).trans (keep_cell hbw q1' k1_0'), (cell_set6 _ _ _ _ _ _ _ _ (by omega)).trans (keep_cell hbw q1' k1_1'), (cell_set6 _ _ _ _ _ _ _ _ (by omega)).trans (keep_cell hbw q1' k1_2'), (cell_set6 _ _ _ _ _ _ _ _ (by omega)).trans (keep_cell hbw q5' k5_0'), (cell_set6 _ _ _ _ _ _ _ _ (by omega)).trans (keep_cell hbw q5' k5_1'), (cell_set6 _ _ _ _ _ _ _ _ (by omega)).trans (keep_cell hbw q5' k5_2')⟩ | with_reducible exact (unhide KEEP) _ (by (repeat (first | with_reducible exact Below.refl _ _ | with_reducible assumption | with_reducible refine Below.drew ?_ | with_reducible refine below_alloc ?_ _)))) (first | (go_at_call_of 70 (Value.agg #[.int .i64 s1, .bool neg1, .slice A1 l1.length c1]); refine ((unhide HQ1) s1 neg1 A1 c1 l1 s7 neg7 A7 c7 l7 _ (below_step' hw0 (below_step' hB (by (repeat (first | with_reducible exact Below.refl _ _ | with_reducible assumption | with_reducible refine Below.drew ?_ | with_reducible refine below_alloc ?_ _))))) (IntF.below (unhide H1) (below_step' hB (by (repeat (first | with_reducible exact Below.refl _ _ | with_reducible assumption | with_reducible refine Below.drew ?_ | with_reducible refine below_alloc ?_ _))))) (IntF.below (unhide FG) (by (repeat (first | with_reducible exact Below.refl _ _ | with_reducible assumption | with_reducible refine Below.drew ?_ | with_reducible refine below_alloc ?_ _))))).mono ?_; rintro e w' ⟨s8, neg8, A8, c8, l8, rfl, hf8, hb8⟩; have hbw := below_step (w := W4) (by (repeat (first | with_reducible exact Below.refl _ _ | with_reducible assumption | with_reducible refine Below.drew ?_ | with_reducible refine below_alloc ?_ _))) hb8; have hsw := hbw.size; obtain ⟨hc, hfz⟩ := bcell hbw) | (go_at_call_of 70 (Value.agg #[.int .i64 s2, .bool neg2, .slice A2 l2.length c2]); refine ((unhide HQ2) s2 neg2 A2 c2 l2 s7 neg7 A7 c7 l7 _ (below_step' hw0 (below_step' hB (by (repeat (first | with_reducible exact Below.refl _ _ | with_reducible assumption | with_reducible refine Below.drew ?_ | with_reducible refine below_alloc ?_ _))))) (IntF.below (unhide H2) (below_step' hB (by (repeat (first | with_reducible exact Below.refl _ _ | with_reducible assumption | with_reducible refine Below.drew ?_ | with_reducible refine below_alloc ?_ _))))) (IntF.below (unhide FG) (by (repeat (first | with_reducible exact Below.refl _ _ | with_reducible assumption | with_reducible refine Below.drew ?_ | with_reducible refine below_alloc ?_ _))))).mono ?_; rintro e w' ⟨s9, neg9, A9, c9, l9, rfl, hf9, hb9⟩; have hf8 := IntF.below (IntF.below hf8 (by (repeat (first | with_reducible exact Below.refl _ _ | with_reducible assumption | with_reducible refine Below.drew ?_ | with_reducible refine below_alloc ?_ _)))) hb9; have hbw := below_step (w := W4) (by (repeat (first | with_reducible exact Below.refl _ _ | with_reducible assumption | with_reducible refine Below.drew ?_ | with_reducible refine below_alloc ?_ _))) hb9; have hsw := hbw.size; obtain ⟨hc, hfz⟩ := bcell hbw))
    have hBB : Below W0.heap.size W0 w' := below_step' hB hbw
    have hblk : w'.heap[w.heap.size + 1 + 1]? = some (.cells #[.int .i64 0, .bool false, .slice none 0 0, .int .i64 0, .bool false, .slice none 0 0] 60 (0, 0)) := (hBB.block _ q2).trans NR.out
    have HBLK := Lib.hid hblk
    have hb9 : Below w.heap.size w w' := below_step' hw0 hBB
    clear hblk
    go_wp2_with fail
    exact bodyPost_ret (v := (Value.agg #[.int .i64 s8, .bool neg8, .slice A8 l8.length c8, .int .i64 s9, .bool neg9, .slice A9 l9.length c9])) (by simp [results, Tryd.results30, go_sem, hc, kr_0, kr_1, kr_2, kr_3, kr_4, kr_5, qr]) rfl
      ⟨s8, neg8, A8, c8, l8, s9, neg9, A9, c9, l9, rfl, (hf8).upto HBLK.out (noWord6 _ _ _ _ _ _ _ _ _ _) (set6_grown _ _ _ _ _ _ _ _), (hf9).upto HBLK.out (noWord6 _ _ _ _ _ _ _ _ _ _) (set6_grown _ _ _ _ _ _ _ _), hb9.grown (set6_grown _ _ _ _ _ _ _ _) hb9.size (fun k hk => by injection hk with hk; omega)⟩
theorem newr_any {K : Nat} (s1 : Int) (neg1 : Bool) (A1 : Option Addr) (c1 : Nat) (l1 : List Nat) (s2 : Int) (neg2 : Bool) (A2 : Option Addr) (c2 : Nat) (l2 : List Nat) (z1 z2 : Int) (w : World) (hT : Tab w) (f1 : IntF w s1 neg1 A1 c1 l1 z1) (f2 : IntF w s2 neg2 A2 c2 l2 z2) (h0 : z2 ≠ 0) (hx : Wd.Sz B64 K z1) (hy : Wd.Sz B64 K z2) (hK : K ≤ lim) :
    Calls Tryd.prog 30 #[(Value.agg #[.int .i64 s1, .bool neg1, .slice A1 l1.length c1]), (Value.agg #[.int .i64 s2, .bool neg2, .slice A2 l2.length c2])] w fun e w' => PairR w (Rat.divInt z1 z2).num ((Rat.divInt z1 z2).den : Int) e w' := by
  have hp := Wd.divInt_parts z1 z2 h0
  have g0 : 0 < z1.natAbs.gcd z2.natAbs := Nat.gcd_pos_of_pos_right _ (by omega)
  have sg : Wd.Sz B64 K ((z1.natAbs.gcd z2.natAbs : Nat) : Int) := hy.gcd_right h0
  rw [hp.1, hp.2]
  by_cases hs : z2 < 0
  · have e : z2.sign * ((z1.natAbs.gcd z2.natAbs : Nat) : Int) = -((z1.natAbs.gcd z2.natAbs : Nat) : Int) := by rw [Int.sign_eq_neg_one_of_neg hs]; omega
    rw [e]
    exact newr_neg s1 neg1 A1 c1 l1 s2 neg2 A2 c2 l2 z1 z2 _ _ _ _ w f1 f2 hs rfl (op_gcd hT hx hy hK rfl) (op_quo hx sg.neg hK (by omega) rfl) (op_quo hy sg.neg hK (by omega) rfl)
  · have e : z2.sign * ((z1.natAbs.gcd z2.natAbs : Nat) : Int) = ((z1.natAbs.gcd z2.natAbs : Nat) : Int) := by rw [Int.sign_eq_one_of_pos (by omega)]; omega
    rw [e]
    exact newr_pos s1 neg1 A1 c1 l1 s2 neg2 A2 c2 l2 z1 z2 _ _ _ w f1 f2 hs (op_gcd hT hx hy hK rfl) (op_quo hx sg hK (by omega) rfl) (op_quo hy sg hK (by omega) rfl)

end Go.Proofs.YtaaccgjopcgbfaaDoor
/- The number of two ints. -/
namespace Go.Proofs.YtaaccgjopcgbfaaDoor
open Go.RowKit

/-- What Make tells. -/
def mkE (n d : Int) : Wd.Told := if d = 0 then ⟨0, 0, 1⟩ else Wd.told (Rat.divInt n d)
set_option maxRecDepth 100000 in
set_option maxHeartbeats 16000000 in
theorem make_zero (n : Int) (w : World) : Calls Tryd.prog 7 #[.int .i64 n, .int .i64 0] w fun e w' => TolR w ⟨0, 0, 1⟩ e w' := by
  go_enter Tryd.func7, Tryd.ntmps7
  go_wp2
  exact bodyPost_ret (v := .tuple #[.agg #[.int .i64 0, .int .i64 0], .int .i64 1]) (by simp [results, Tryd.results7, go_sem]) rfl
    ⟨rfl, (Below.refl _ _).alloc (Nat.le_refl _) _⟩
set_option maxRecDepth 100000 in
set_option maxHeartbeats 16000000 in
theorem make_any (n d : Int) (w : World) (hT : Tab w) (b1 : -9223372036854775808 ≤ n) (b2 : n ≤ 9223372036854775807) (b3 : -9223372036854775808 ≤ d) (b4 : d ≤ 9223372036854775807) :
    Calls Tryd.prog 7 #[.int .i64 n, .int .i64 d] w fun e w' => TolR w (mkE n d) e w' := by
  unfold mkE
  by_cases h0 : d = 0
  · subst h0; rw [if_pos rfl]; exact make_zero n w
  rw [if_neg h0]
  obtain ⟨q, hq⟩ : ∃ q, q = Rat.divInt n d := ⟨_, rfl⟩
  have B : (9223372036854775808 : Nat) < B64 := by rw [B64_eq]; omega
  have HN := hide (fun (s5 : Int) (neg5 : Bool) (A5 : Option Addr) (c5 : Nat) (l5 : List Nat) (s6 : Int) (neg6 : Bool) (A6 : Option Addr) (c6 : Nat) (l6 : List Nat) (W : World) (hW : Tab W) (f5 : IntF W s5 neg5 A5 c5 l5 n) (f6 : IntF W s6 neg6 A6 c6 l6 d) => newr_any (K := 1) s5 neg5 A5 c5 l5 s6 neg6 A6 c6 l6 n d W hW f5 f6 h0 (Wd.Sz.of_le (by omega) B64_pos (Nat.le_refl _)) (Wd.Sz.of_le (by omega) B64_pos (Nat.le_refl _)) (by unfold lim; omega))
  rw [← hq] at HN ⊢
  have HO1 := hide (fun W => newInt_any n b1 b2 W)
  have HO2 := hide (fun W => newInt_any d b3 b4 W)
  have hz : (d == 0) = false := beq_eq_false_iff_ne.2 h0
  have HT := hide hT
  have HRT := hide (fun (s9 : Int) (neg9 : Bool) (A9 : Option Addr) (c9 : Nat) (l9 : List Nat) (s10 : Int) (neg10 : Bool) (A10 : Option Addr) (c10 : Nat) (l10 : List Nat) (W : World) (f9 : IntF W s9 neg9 A9 c9 l9 q.num) (f10 : IntF W s10 neg10 A10 c10 l10 (q.den : Int)) => rrat_any s9 neg9 A9 c9 l9 q.num s10 neg10 A10 c10 l10 (q.den : Int) W f9 f10 q rfl rfl)
  obtain ⟨tn, htn⟩ : ∃ x, x = (Wd.told q).n := ⟨_, rfl⟩
  obtain ⟨td, htd⟩ : ∃ x, x = (Wd.told q).d := ⟨_, rfl⟩
  obtain ⟨te, hte⟩ : ∃ x, x = (Wd.told q).e := ⟨_, rfl⟩
  rw [← htn, ← htd, ← hte] at HRT
  have HTL := Lib.hid (show Wd.told q = ⟨tn, td, te⟩ by rw [htn, htd, hte])
  clear htn htd hte
  clear hT h0 b1 b2 b3 b4 hq
  go_enter Tryd.func7, Tryd.ntmps7
  go_wp2_with fail
  have nr := heap_alloc_new w (.cells #[.int .i64 0, .int .i64 0] 23)
  have hw0 : Below w.heap.size w (w.alloc (.cells #[.int .i64 0, .int .i64 0] 23)) := below_alloc (Below.refl _ _) _
  generalize w.alloc (.cells #[.int .i64 0, .int .i64 0] 23) = W0 at *
  have NR := Lib.hid nr
  clear nr
  refine ((unhide HO1) _).mono ?_
  rintro e W1 ⟨s5, neg5, A5, c5, l5, rfl, hf5, hb5⟩
  go_wp2_with fail
  refine ((unhide HO2) _).mono ?_
  rintro e W2 ⟨s6, neg6, A6, c6, l6, rfl, hf6, hb6⟩
  have hB := below_step' hb5 hb6
  go_wp2_with fail
  refine ((unhide HN) s5 neg5 A5 c5 l5 s6 neg6 A6 c6 l6 _ ((unhide HT).below (below_step' hw0 hB)) (hf5.below hb6) hf6).mono ?_
  rintro e W3 ⟨s9, neg9, A9, c9, l9, s10, neg10, A10, c10, l10, rfl, hf9, hf10, hb9⟩
  replace hB := below_step' hB hb9
  go_wp2_with fail
  refine ((unhide HRT) s9 neg9 A9 c9 l9 s10 neg10 A10 c10 l10 _ hf9 hf10).mono ?_
  rintro e W4 ⟨rfl, hb10⟩
  replace hB := below_step' hB hb10
  have nr4 := (hB.block _ (lt_of_block NR.out)).trans NR.out
  have k0 : W4.cell? ⟨w.heap.size, 0, none⟩ = some (.int .i64 0) := cells_of nr4 0
  have k1 : W4.cell? ⟨w.heap.size, 1, none⟩ = some (.int .i64 0) := cells_of nr4 1
  have u0 := unfrozen_of nr4 0
  have u1 := unfrozen_of nr4 1
  have hbn : Below w.heap.size w W4 := below_step' hw0 hB
  clear nr4
  go_wp2_with fail
  exact bodyPost_ret (v := .tuple #[.agg #[.int .i64 tn, .int .i64 td], .int .i64 te]) (by simp [results, Tryd.results7, go_sem, k0, k1]) rfl
    ⟨HTL.out ▸ rfl, hbn.grown (set2_grown _ _ _ _) hbn.size (fun k hk => by injection hk with hk; omega)⟩

end Go.Proofs.YtaaccgjopcgbfaaDoor
/- The reference: what is told; the number of two ints. -/
namespace Go.Proofs.YtaaccgjopcgbfaaDoor
open Go.RowKit

set_option maxRecDepth 100000 in
set_option maxHeartbeats 2000000 in
theorem ttold_any (A1 : Option Addr) (c1 : Nat) (l1 : List Nat) (m1 : Bool) (A2 : Option Addr) (c2 : Nat) (l2 : List Nat) (m2 : Bool) (q : Rat) (w : World) (h1 : WholeF w A1 c1 l1 m1 q.num) (h2 : WholeF w A2 c2 l2 m2 (q.den : Int)) :
    Calls Tryd.prog 33 #[.agg #[.slice A1 l1.length c1, .bool m1, .slice A2 l2.length c2, .bool m2]] w fun e w' => TolR w (Wd.told q) e w' := by
  have HR := hide (fun W (hW : Below w.heap.size w W) => tRat_any A1 c1 l1 m1 A2 c2 l2 m2 q W (h1.below hW) (h2.below hW))
  clear h1 h2
  go_enter Tryd.func33, Tryd.ntmps33
  go_wp2_with fail
  obtain ⟨n0, n1, hsz, hw0⟩ := two_new w (.cells #[.slice A1 l1.length c1, .bool m1, .slice A2 l2.length c2, .bool m2] 37) (.cells #[.int .i64 0, .int .i64 0] 23)
  generalize ((w.alloc (.cells #[.slice A1 l1.length c1, .bool m1, .slice A2 l2.length c2, .bool m2] 37)).alloc (.cells #[.int .i64 0, .int .i64 0] 23)) = W0 at *
  have p0 : W0.cell? ⟨w.heap.size + 1, 0, none⟩ = some (.int .i64 0) := cells_of n1 0
  have p1 : W0.cell? ⟨w.heap.size + 1, 1, none⟩ = some (.int .i64 0) := cells_of n1 1
  have v0 := unfrozen_of n1 0; have v1 := unfrozen_of n1 1
  have q1 := lt_of_block n1
  clear n0 n1 hsz
  refine ((unhide HR) _ hw0).mono ?_
  rintro e W1 ⟨n, d, ok, rfl, hb, hor⟩
  rcases hor with ⟨rfl, ht⟩ | ⟨rfl, ht⟩
  · have HT9 := Lib.hid ht
    clear ht
    have hbA := hb.alloc hb.size (.cells #[.int .i64 n, .int .i64 d] 23)
    obtain ⟨hc, hf⟩ := bcell hbA
    obtain ⟨hc', hf'⟩ := bcell hb
    have hwA := below_step' hw0 hbA
    have HWA := hide hwA
    clear hbA hb hwA
    go_wp2_with fail
    exact bodyPost_ret (v := .tuple #[.agg #[.int .i64 n, .int .i64 d], .int .i64 0]) (by simp [results, Tryd.results33, go_sem, hc, hc', p0, p1, q1]) rfl
      ⟨by rw [HT9.out], (unhide HWA).grown (set2_grown _ _ _ _) (unhide HWA).size (fun k hk => by injection hk with hk; omega)⟩
  · have HT9 := Lib.hid ht
    clear ht
    have hbA := hb.alloc hb.size (.cells #[.int .i64 n, .int .i64 d] 23)
    obtain ⟨hc, hf⟩ := bcell hbA
    obtain ⟨hc', hf'⟩ := bcell hb
    have hwA := below_step' hw0 hbA
    have HWA := hide hwA
    clear hbA hb hwA
    go_wp2_with fail
    exact bodyPost_ret (v := .tuple #[.agg #[.int .i64 0, .int .i64 0], .int .i64 3]) (by simp [results, Tryd.results33, go_sem, hc, hc', p0, p1, q1]) rfl
      ⟨by rw [HT9.out], (unhide HWA).grown (set2_grown _ _ _ _) (unhide HWA).size (fun k hk => by injection hk with hk; omega)⟩

set_option maxRecDepth 100000 in
set_option maxHeartbeats 2000000 in
theorem tMake_any (n d : Int) (w : World) (b1 : -9223372036854775808 ≤ n) (b2 : n ≤ 9223372036854775807) (b3 : -9223372036854775808 ≤ d) (b4 : d ≤ 9223372036854775807) :
    Calls Tryd.prog 8 #[.int .i64 n, .int .i64 d] w fun e w' => TolR w (mkE n d) e w' := by
  unfold mkE
  by_cases h0 : d = 0
  · subst h0
    rw [if_pos rfl]
    clear b1 b2 b3 b4
    go_enter Tryd.func8, Tryd.ntmps8
    go_wp2_with fail
    exact bodyPost_ret (v := .tuple #[.agg #[.int .i64 0, .int .i64 0], .int .i64 1]) (by simp [results, Tryd.results8, go_sem]) rfl
      ⟨rfl, (Below.refl _ _).alloc (Nat.le_refl _) _⟩
  · rw [if_neg h0]
    have HH := hide (fun W => thalf_any n d W b1 b2 b3 b4 h0)
    obtain ⟨q, hq⟩ : ∃ q, q = Rat.divInt n d := ⟨_, rfl⟩
    rw [← hq] at HH ⊢
    have hz : (d == 0) = false := beq_eq_false_iff_ne.2 h0
    clear hq b1 b2 b3 b4 h0
    go_enter Tryd.func8, Tryd.ntmps8
    go_wp2_with fail
    obtain ⟨n0, hsz, hw0⟩ := one_new w (.cells #[.int .i64 0, .int .i64 0] 23)
    generalize (w.alloc (.cells #[.int .i64 0, .int .i64 0] 23)) = W0 at *
    have p0 : W0.cell? ⟨w.heap.size, 0, none⟩ = some (.int .i64 0) := cells_of n0 0
    have p1 : W0.cell? ⟨w.heap.size, 1, none⟩ = some (.int .i64 0) := cells_of n0 1
    have v0 := unfrozen_of n0 0; have v1 := unfrozen_of n0 1
    have q0 := lt_of_block n0
    clear n0 hsz
    refine ((unhide HH) _).mono ?_
    rintro e W1 ⟨A1, c1, l1, m1, A2, c2, l2, m2, rfl, f1, f2, hb1⟩
    have ht := ttold_any A1 c1 l1 m1 A2 c2 l2 m2 q W1 f1 f2
    have HT := hide ht; have HB1 := hide hb1
    clear ht f1 f2 hb1
    go_wp2_with fail
    refine (unhide HT).mono ?_
    rintro e W2 ⟨rfl, hb2⟩
    have hb2' := below_step' (unhide HB1) hb2
    obtain ⟨hc, hf⟩ := bcell hb2'
    have hb9 := below_step' hw0 hb2'
    have HB9 := hide hb9
    clear hb2 hb2' hb9
    go_wp2_with fail
    exact bodyPost_ret (v := .tuple #[.agg #[.int .i64 (Wd.told q).n, .int .i64 (Wd.told q).d], .int .i64 (Wd.told q).e]) (by simp [results, Tryd.results8, go_sem, hc, p0, p1, q0]) rfl
      ⟨rfl, (unhide HB9).grown (set2_grown _ _ _ _) (unhide HB9).size (fun k hk => by injection hk with hk; omega)⟩
end Go.Proofs.YtaaccgjopcgbfaaDoor
/- The reference: a number, and its order. -/
namespace Go.Proofs.YtaaccgjopcgbfaaDoor
open Go.RowKit

set_option maxRecDepth 100000 in
set_option maxHeartbeats 2000000 in
theorem tOf_any (n d : Int) (w : World) (b1 : -9223372036854775808 ≤ n) (b2 : n ≤ 9223372036854775807) (b3 : -9223372036854775808 ≤ d) (b4 : d ≤ 9223372036854775807) (hd : d ≠ 0) :
    Calls Tryd.prog 17 #[.agg #[.int .i64 n, .int .i64 d]] w fun e w' => QR w (Rat.divInt n d) e w' := by
  have HO1 := hide (fun W => (tofInt_any n W b1 b2).mono (fun e w' h => h.1))
  have HO2 := hide (fun W => (tofInt_any d W b3 b4).mono (fun e w' h => h.1))
  have k1 : n.natAbs < B32 ^ 2 := by rw [B32_eq]; omega
  have k2 : d.natAbs < B32 ^ 2 := by rw [B32_eq]; omega
  obtain ⟨q, hq⟩ : ∃ q, q = Rat.divInt n d := ⟨_, rfl⟩
  have HR := hide (fun (A1 : Option Addr) (c1 : Nat) (l1 : List Nat) (m1 : Bool) (A2 : Option Addr) (c2 : Nat) (l2 : List Nat) (m2 : Bool) (W : World) (f1 : WholeF W A1 c1 l1 m1 n) (f2 : WholeF W A2 c2 l2 m2 d) => tratio_any A1 c1 l1 m1 n A2 c2 l2 m2 d 2 W f1 f2 hd k1 k2 (by omega))
  rw [← hq] at HR ⊢
  clear b1 b2 b3 b4 hd k1 k2 hq
  go_enter Tryd.func17, Tryd.ntmps17
  go_wp2_with fail
  obtain ⟨nx, n0, hsz, hw0⟩ := two_new w (.cells #[.int .i64 n, .int .i64 d] 23) (.cells #[.slice none 0 0, .bool false, .slice none 0 0, .bool false] 37)
  generalize ((w.alloc (.cells #[.int .i64 n, .int .i64 d] 23)).alloc (.cells #[.slice none 0 0, .bool false, .slice none 0 0, .bool false] 37)) = W0 at *
  have x0 : W0.cell? ⟨w.heap.size, 0, none⟩ = some (.int .i64 n) := cells_of nx 0
  have x1 : W0.cell? ⟨w.heap.size, 1, none⟩ = some (.int .i64 d) := cells_of nx 1
  have qx := lt_of_block nx
  clear nx
  have p0 : W0.cell? ⟨w.heap.size + 1, 0, none⟩ = some (.slice none 0 0) := cells_of n0 0
  have p1 : W0.cell? ⟨w.heap.size + 1, 1, none⟩ = some (.bool false) := cells_of n0 1
  have p2 : W0.cell? ⟨w.heap.size + 1, 2, none⟩ = some (.slice none 0 0) := cells_of n0 2
  have p3 : W0.cell? ⟨w.heap.size + 1, 3, none⟩ = some (.bool false) := cells_of n0 3
  have v0 := unfrozen_of n0 0; have v1 := unfrozen_of n0 1; have v2 := unfrozen_of n0 2; have v3 := unfrozen_of n0 3
  have q0 := lt_of_block n0
  have NR := Lib.hid n0
  clear n0 hsz
  go_region_with (first | (go_at_call_of 44 (Value.int .i64 n); refine ((unhide HO1) _).mono ?_; rintro e w' ⟨A1, c1, l1, m1, rfl, f1n, hb⟩; (try (first | replace f2 := WholeF.below f2 hb | replace f2 := (WholeF.below f2 (Below.drew (Below.refl _ _))).below hb)); have f1 := f1n; clear f1n; have hbw := below_step (w := W0) (by (first | with_reducible assumption | (repeat (first | with_reducible exact Below.refl _ _ | with_reducible assumption | refine Below.drew ?_ | (refine Below.alloc ?_ (by simp <;> omega) _))))) hb; obtain ⟨hc, hf⟩ := bcell hbw) | (go_at_call_of 44 (Value.int .i64 d); refine ((unhide HO2) _).mono ?_; rintro e w' ⟨A2, c2, l2, m2, rfl, f2n, hb⟩; (try (first | replace f1 := WholeF.below f1 hb | replace f1 := (WholeF.below f1 (Below.drew (Below.refl _ _))).below hb)); have f2 := f2n; clear f2n; have hbw := below_step (w := W0) (by (first | with_reducible assumption | (repeat (first | with_reducible exact Below.refl _ _ | with_reducible assumption | refine Below.drew ?_ | (refine Below.alloc ?_ (by simp <;> omega) _))))) hb; obtain ⟨hc, hf⟩ := bcell hbw) | (go_at_call 43; refine ((unhide HR) A1 c1 l1 m1 A2 c2 l2 m2 _ (by first | exact f1 | exact WholeF.below f1 (Below.drew (Below.refl _ _))) (by first | exact f2 | exact WholeF.below f2 (Below.drew (Below.refl _ _)))).mono ?_; rintro e w' ⟨A3, c3, l3, m3, A4, c4, l4, m4, rfl, f3, f4, hb⟩; have hbw := below_step (w := W0) (by (first | with_reducible assumption | (repeat (first | with_reducible exact Below.refl _ _ | with_reducible assumption | refine Below.drew ?_ | (refine Below.alloc ?_ (by simp <;> omega) _))))) hb; obtain ⟨hc, hf⟩ := bcell hbw))
  all_goals
    have hblk := (hbw.block _ q0).trans NR.out
    have hb9 := below_step' hw0 hbw
    have HBLK := Lib.hid hblk; have F3 := hide f3; have F4 := hide f4; have HB9 := hide hb9
    clear f3 f4 hblk hb9
    go_wp2_with fail
    exact bodyPost_ret (v := .agg #[.slice A3 l3.length c3, .bool m3, .slice A4 l4.length c4, .bool m4]) (by simp [results, Tryd.results17, go_sem, hc, p0, p1, p2, p3, q0]) rfl
      ⟨A3, c3, l3, m3, A4, c4, l4, m4, rfl, (unhide F3).upto HBLK.out (noW2_4 _ _ _ _ _ _ _ _) (set4_grown _ _ _ _ _ _), (unhide F4).upto HBLK.out (noW2_4 _ _ _ _ _ _ _ _) (set4_grown _ _ _ _ _ _), (unhide HB9).grown (set4_grown _ _ _ _ _ _) (unhide HB9).size (fun k hk => by injection hk with hk; omega)⟩
end Go.Proofs.YtaaccgjopcgbfaaDoor
/- The reference: the order of numbers. -/
namespace Go.Proofs.YtaaccgjopcgbfaaDoor
open Go.RowKit

set_option maxRecDepth 100000 in
set_option maxHeartbeats 8000000 in
theorem tqcmp_any (A1 : Option Addr) (c1 : Nat) (l1 : List Nat) (m1 : Bool) (A2 : Option Addr) (c2 : Nat) (l2 : List Nat) (m2 : Bool) (A3 : Option Addr) (c3 : Nat) (l3 : List Nat) (m3 : Bool) (A4 : Option Addr) (c4 : Nat) (l4 : List Nat) (m4 : Bool) (x y : Rat) (w : World) (h1 : WholeF w A1 c1 l1 m1 x.num) (h2 : WholeF w A2 c2 l2 m2 (x.den : Int)) (h3 : WholeF w A3 c3 l3 m3 y.num) (h4 : WholeF w A4 c4 l4 m4 (y.den : Int)) (k1 : l1.length + l4.length ≤ 35184372088832) (k2 : l3.length + l2.length ≤ 35184372088832) :
    Calls Tryd.prog 16 #[(Value.agg #[.slice A1 l1.length c1, .bool m1, .slice A2 l2.length c2, .bool m2]), (Value.agg #[.slice A3 l3.length c3, .bool m3, .slice A4 l4.length c4, .bool m4])] w fun e w' => e = .returned (.int .i64 (sgn (x.num * y.den - y.num * x.den))) ∧ Below w.heap.size w w' := by
  have D1 := hide (fun W (hW : Below w.heap.size w W) => tden_any A1 c1 l1 m1 A2 c2 l2 m2 (x.den : Int) W (h2.below hW) (by have := x.den_nz; omega))
  have D2 := hide (fun W (hW : Below w.heap.size w W) => tden_any A3 c3 l3 m3 A4 c4 l4 m4 (y.den : Int) W (h4.below hW) (by have := y.den_nz; omega))
  have M1 := hide (fun W (hW : Below w.heap.size w W) => tmul_any A1 c1 l1 m1 x.num A4 c4 l4 m4 (y.den : Int) W (h1.below hW) (h4.below hW) k1)
  have M2 := hide (fun W (hW : Below w.heap.size w W) => tmul_any A3 c3 l3 m3 y.num A2 c2 l2 m2 (x.den : Int) W (h3.below hW) (h2.below hW) k2)
  obtain ⟨z1, hz1⟩ : ∃ z, z = x.num * (y.den : Int) := ⟨_, rfl⟩
  obtain ⟨z2, hz2⟩ : ∃ z, z = y.num * (x.den : Int) := ⟨_, rfl⟩
  rw [← hz1] at M1 ⊢
  rw [← hz2] at M2 ⊢
  clear h1 h2 h3 h4 k1 k2 hz1 hz2
  go_enter Tryd.func16, Tryd.ntmps16
  go_wp2_with fail
  obtain ⟨n0, n1, hsz, hw0⟩ := two_new w (.cells #[.slice A1 l1.length c1, .bool m1, .slice A2 l2.length c2, .bool m2] 37) (.cells #[.slice A3 l3.length c3, .bool m3, .slice A4 l4.length c4, .bool m4] 37)
  generalize ((w.alloc (.cells #[.slice A1 l1.length c1, .bool m1, .slice A2 l2.length c2, .bool m2] 37)).alloc (.cells #[.slice A3 l3.length c3, .bool m3, .slice A4 l4.length c4, .bool m4] 37)) = W0 at *
  have q0 := lt_of_block n0; have q1 := lt_of_block n1
  have KEEP : ∀ X, Below W0.heap.size W0 X → (fun w' => w'.cell? ⟨w.heap.size, 0, none⟩ = some (.slice A1 l1.length c1) ∧ w'.cell? ⟨w.heap.size, 1, none⟩ = some (.bool m1) ∧ w'.cell? ⟨w.heap.size, 2, none⟩ = some (.slice A2 l2.length c2) ∧ w'.cell? ⟨w.heap.size, 3, none⟩ = some (.bool m2) ∧ w'.cell? ⟨w.heap.size + 1, 0, none⟩ = some (.slice A3 l3.length c3) ∧ w'.cell? ⟨w.heap.size + 1, 1, none⟩ = some (.bool m3) ∧ w'.cell? ⟨w.heap.size + 1, 2, none⟩ = some (.slice A4 l4.length c4) ∧ w'.cell? ⟨w.heap.size + 1, 3, none⟩ = some (.bool m4)) X := fun X hX => ⟨(hX.cell (p := ⟨w.heap.size, 0, none⟩) q0).trans (cells_of n0 0), (hX.cell (p := ⟨w.heap.size, 1, none⟩) q0).trans (cells_of n0 1), (hX.cell (p := ⟨w.heap.size, 2, none⟩) q0).trans (cells_of n0 2), (hX.cell (p := ⟨w.heap.size, 3, none⟩) q0).trans (cells_of n0 3), (hX.cell (p := ⟨w.heap.size + 1, 0, none⟩) q1).trans (cells_of n1 0), (hX.cell (p := ⟨w.heap.size + 1, 1, none⟩) q1).trans (cells_of n1 1), (hX.cell (p := ⟨w.heap.size + 1, 2, none⟩) q1).trans (cells_of n1 2), (hX.cell (p := ⟨w.heap.size + 1, 3, none⟩) q1).trans (cells_of n1 3)⟩
  have HKE := hide KEEP
  clear KEEP n0 n1 hsz
  go_region_held3 (fun w' => w'.cell? ⟨w.heap.size, 0, none⟩ = some (.slice A1 l1.length c1) ∧ w'.cell? ⟨w.heap.size, 1, none⟩ = some (.bool m1) ∧ w'.cell? ⟨w.heap.size, 2, none⟩ = some (.slice A2 l2.length c2) ∧ w'.cell? ⟨w.heap.size, 3, none⟩ = some (.bool m2) ∧ w'.cell? ⟨w.heap.size + 1, 0, none⟩ = some (.slice A3 l3.length c3) ∧ w'.cell? ⟨w.heap.size + 1, 1, none⟩ = some (.bool m3) ∧ w'.cell? ⟨w.heap.size + 1, 2, none⟩ = some (.slice A4 l4.length c4) ∧ w'.cell? ⟨w.heap.size + 1, 3, none⟩ = some (.bool m4)) (exact (unhide HKE) _ (by (first | with_reducible assumption | (repeat (first | with_reducible exact Below.refl _ _ | with_reducible assumption | refine Below.drew ?_ | (refine Below.alloc ?_ (by simp <;> omega) _)))))) (first | (go_at_call_of 46 (Value.agg #[.slice A1 l1.length c1, .bool m1, .slice A2 l2.length c2, .bool m2]); refine ((unhide D1) _ (below_step' hw0 (by (first | with_reducible assumption | (repeat (first | with_reducible exact Below.refl _ _ | with_reducible assumption | refine Below.drew ?_ | (refine Below.alloc ?_ (by simp <;> omega) _))))))).mono ?_; rintro e w' ⟨rfl, hb⟩; (try (first | replace f5 := WholeF.below f5 hb | replace f5 := (WholeF.below f5 (Below.drew (Below.refl _ _))).below hb)); (try (first | replace f6 := WholeF.below f6 hb | replace f6 := (WholeF.below f6 (Below.drew (Below.refl _ _))).below hb)); have hbw := below_step (w := W0) (by (first | with_reducible assumption | (repeat (first | with_reducible exact Below.refl _ _ | with_reducible assumption | refine Below.drew ?_ | (refine Below.alloc ?_ (by simp <;> omega) _))))) hb; obtain ⟨hc, hf⟩ := bcell hbw) | (go_at_call_of 46 (Value.agg #[.slice A3 l3.length c3, .bool m3, .slice A4 l4.length c4, .bool m4]); refine ((unhide D2) _ (below_step' hw0 (by (first | with_reducible assumption | (repeat (first | with_reducible exact Below.refl _ _ | with_reducible assumption | refine Below.drew ?_ | (refine Below.alloc ?_ (by simp <;> omega) _))))))).mono ?_; rintro e w' ⟨rfl, hb⟩; (try (first | replace f5 := WholeF.below f5 hb | replace f5 := (WholeF.below f5 (Below.drew (Below.refl _ _))).below hb)); (try (first | replace f6 := WholeF.below f6 hb | replace f6 := (WholeF.below f6 (Below.drew (Below.refl _ _))).below hb)); have hbw := below_step (w := W0) (by (first | with_reducible assumption | (repeat (first | with_reducible exact Below.refl _ _ | with_reducible assumption | refine Below.drew ?_ | (refine Below.alloc ?_ (by simp <;> omega) _))))) hb; obtain ⟨hc, hf⟩ := bcell hbw) | (go_at_call_of 45 (Value.agg #[.slice A1 l1.length c1, .bool m1]); refine ((unhide M1) _ (below_step' hw0 (by (first | with_reducible assumption | (repeat (first | with_reducible exact Below.refl _ _ | with_reducible assumption | refine Below.drew ?_ | (refine Below.alloc ?_ (by simp <;> omega) _))))))).mono ?_; rintro e w' ⟨A5, c5, l5, m5, rfl, f5n, hb⟩; (try (first | replace f6 := WholeF.below f6 hb | replace f6 := (WholeF.below f6 (Below.drew (Below.refl _ _))).below hb)); have f5 := f5n; clear f5n; have hbw := below_step (w := W0) (by (first | with_reducible assumption | (repeat (first | with_reducible exact Below.refl _ _ | with_reducible assumption | refine Below.drew ?_ | (refine Below.alloc ?_ (by simp <;> omega) _))))) hb; obtain ⟨hc, hf⟩ := bcell hbw) | (go_at_call_of 45 (Value.agg #[.slice A3 l3.length c3, .bool m3]); refine ((unhide M2) _ (below_step' hw0 (by (first | with_reducible assumption | (repeat (first | with_reducible exact Below.refl _ _ | with_reducible assumption | refine Below.drew ?_ | (refine Below.alloc ?_ (by simp <;> omega) _))))))).mono ?_; rintro e w' ⟨A6, c6, l6, m6, rfl, f6n, hb⟩; (try (first | replace f5 := WholeF.below f5 hb | replace f5 := (WholeF.below f5 (Below.drew (Below.refl _ _))).below hb)); have f6 := f6n; clear f6n; have hbw := below_step (w := W0) (by (first | with_reducible assumption | (repeat (first | with_reducible exact Below.refl _ _ | with_reducible assumption | refine Below.drew ?_ | (refine Below.alloc ?_ (by simp <;> omega) _))))) hb; obtain ⟨hc, hf⟩ := bcell hbw) | (go_at_call 47; refine (tcmp_any A5 c5 l5 m5 z1 A6 c6 l6 m6 z2 _ (by first | exact f5 | exact WholeF.below f5 (Below.drew (Below.refl _ _))) (by first | exact f6 | exact WholeF.below f6 (Below.drew (Below.refl _ _)))).mono ?_; rintro e w' ⟨rfl, hb⟩; have hbw := below_step (w := W0) (by (first | with_reducible assumption | (repeat (first | with_reducible exact Below.refl _ _ | with_reducible assumption | refine Below.drew ?_ | (refine Below.alloc ?_ (by simp <;> omega) _))))) hb))
  all_goals
    have hb9 := below_step' hw0 hbw
    have HB9 := hide hb9
    clear hb9 hbw
    go_wp2_with fail
    all_goals first | go_ret | skip
    exact ⟨rfl, unhide HB9⟩
end Go.Proofs.YtaaccgjopcgbfaaDoor
/- The reference: how numbers compare. -/
namespace Go.Proofs.YtaaccgjopcgbfaaDoor
open Go.RowKit

/-- What a comparison tells. -/
def cmpC (n1 d1 n2 d2 : Int) : Int := if Wd.okR n1 d1 ∧ Wd.okR n2 d2 then sgn (n1 * d2 - n2 * d1) else 0
def CmpR (w : World) (n1 d1 n2 d2 : Int) (e : Ending) (w' : World) : Prop := e = .returned (.tuple #[.int .i64 (cmpC n1 d1 n2 d2), .int .i64 (fstE n1 d1 n2 d2)]) ∧ Below w.heap.size w w'

theorem len_two {w : World} {A : Option Addr} {cap : Nat} {l : List Nat} {m : Bool} {z : Int} (h : WholeF w A cap l m z) (hz : z.natAbs ≤ 1000000000000) : l.length ≤ 2 :=
  h.nat.len (by rw [B32_eq]; omega)

set_option maxRecDepth 100000 in
set_option maxHeartbeats 8000000 in
theorem tCmp_any (n1 d1 n2 d2 : Int) (w : World) :
    Calls Tryd.prog 10 #[.agg #[.int .i64 n1, .int .i64 d1], .agg #[.int .i64 n2, .int .i64 d2]] w fun e w' => CmpR w n1 d1 n2 d2 e w' := by
  have HA := hide (tAll_any n1 d1 n2 d2)
  by_cases ok : Wd.okR n1 d1 ∧ Wd.okR n2 d2
  · have e1 : fstE n1 d1 n2 d2 = 0 := if_pos ok
    have e2 : cmpC n1 d1 n2 d2 = sgn (n1 * d2 - n2 * d1) := if_pos ok
    unfold CmpR
    rw [e1] at HA ⊢
    rw [e2]
    obtain ⟨a1, a2⟩ := Wd.qR_ok ok.1
    obtain ⟨a3, a4⟩ := Wd.qR_ok ok.2
    obtain ⟨⟨r1, r2, r3, r4, _⟩, ⟨r5, r6, r7, r8, _⟩⟩ := ok
    have O1 := hide (fun W => tOf_any n1 d1 W (by omega) (by omega) (by omega) (by omega) (by omega))
    have O2 := hide (fun W => tOf_any n2 d2 W (by omega) (by omega) (by omega) (by omega) (by omega))
    have hq := fun (A1 : Option Addr) (c1 : Nat) (l1 : List Nat) (m1 : Bool) (A2 : Option Addr) (c2 : Nat) (l2 : List Nat) (m2 : Bool) (A3 : Option Addr) (c3 : Nat) (l3 : List Nat) (m3 : Bool) (A4 : Option Addr) (c4 : Nat) (l4 : List Nat) (m4 : Bool) (W : World) (f1 : WholeF W A1 c1 l1 m1 (Rat.divInt n1 d1).num) (f2 : WholeF W A2 c2 l2 m2 ((Rat.divInt n1 d1).den : Int)) (f3 : WholeF W A3 c3 l3 m3 (Rat.divInt n2 d2).num) (f4 : WholeF W A4 c4 l4 m4 ((Rat.divInt n2 d2).den : Int)) =>
      tqcmp_any A1 c1 l1 m1 A2 c2 l2 m2 A3 c3 l3 m3 A4 c4 l4 m4 (Rat.divInt n1 d1) (Rat.divInt n2 d2) W f1 f2 f3 f4
        (by have := len_two f1 (by unfold Wd.qR at a1; rw [a1]; omega); have := len_two f4 (by unfold Wd.qR at a4; rw [a4]; omega); omega)
        (by have := len_two f3 (by unfold Wd.qR at a3; rw [a3]; omega); have := len_two f2 (by unfold Wd.qR at a2; rw [a2]; omega); omega)
    unfold Wd.qR at a1 a2 a3 a4
    obtain ⟨g, hg⟩ : ∃ g, g = sgn (n1 * d2 - n2 * d1) := ⟨_, rfl⟩
    simp only [a1, a2, a3, a4, ← hg] at hq
    rw [← hg]
    have O1' := O1; have O2' := O2
    simp only [QR, a1, a2, a3, a4] at O1' O2'
    clear O1 O2
    have O1 := O1'; have O2 := O2'
    clear O1' O2'
    have HQ := hide hq
    clear hq hg a1 a2 a3 a4 r1 r2 r3 r4 r5 r6 r7 r8 e1 e2
    go_enter Tryd.func10, Tryd.ntmps10
    go_wp2_with fail
    obtain ⟨n0, n1_, n2_, hsz, hw0⟩ := three_new w (.cells #[.int .i64 n1, .int .i64 d1] 23) (.cells #[.int .i64 n2, .int .i64 d2] 23) (.cells #[.int .i64 n1, .int .i64 d1, .int .i64 n2, .int .i64 d2] 23)
    generalize (((w.alloc (.cells #[.int .i64 n1, .int .i64 d1] 23)).alloc (.cells #[.int .i64 n2, .int .i64 d2] 23)).alloc (.cells #[.int .i64 n1, .int .i64 d1, .int .i64 n2, .int .i64 d2] 23)) = Wa at *
    refine ((unhide HA) (w.heap.size + 1 + 1) Wa (lt_of_block n2_) (cells_of n2_ 0) (cells_of n2_ 1) (cells_of n2_ 2) (cells_of n2_ 3)).mono ?_
    rintro e W0 ⟨rfl, hb0⟩
    replace n0 := (hb0.block _ (lt_of_block n0)).trans n0
    replace n1_ := (hb0.block _ (lt_of_block n1_)).trans n1_
    replace hw0 := below_step' hw0 hb0
    have q0 := lt_of_block n0; have q1 := lt_of_block n1_
    have KEEP : ∀ X, Below W0.heap.size W0 X → (fun w' => w'.cell? ⟨w.heap.size, 0, none⟩ = some (.int .i64 n1) ∧ w'.cell? ⟨w.heap.size, 1, none⟩ = some (.int .i64 d1) ∧ w'.cell? ⟨w.heap.size + 1, 0, none⟩ = some (.int .i64 n2) ∧ w'.cell? ⟨w.heap.size + 1, 1, none⟩ = some (.int .i64 d2)) X := fun X hX => ⟨(hX.cell (p := ⟨w.heap.size, 0, none⟩) q0).trans (cells_of n0 0), (hX.cell (p := ⟨w.heap.size, 1, none⟩) q0).trans (cells_of n0 1), (hX.cell (p := ⟨w.heap.size + 1, 0, none⟩) q1).trans (cells_of n1_ 0), (hX.cell (p := ⟨w.heap.size + 1, 1, none⟩) q1).trans (cells_of n1_ 1)⟩
    have HKE := hide KEEP; have HW0 := hide hw0
    clear KEEP n0 n1_ n2_ hsz hb0 hw0 HA
    go_wp2_with fail
    go_region_held3 (fun w' => w'.cell? ⟨w.heap.size, 0, none⟩ = some (.int .i64 n1) ∧ w'.cell? ⟨w.heap.size, 1, none⟩ = some (.int .i64 d1) ∧ w'.cell? ⟨w.heap.size + 1, 0, none⟩ = some (.int .i64 n2) ∧ w'.cell? ⟨w.heap.size + 1, 1, none⟩ = some (.int .i64 d2)) (exact (unhide HKE) _ (by (first | with_reducible assumption | (repeat (first | with_reducible exact Below.refl _ _ | with_reducible assumption | refine Below.drew ?_ | (refine Below.alloc ?_ (by simp <;> omega) _)))))) (first | (go_at_call_of 17 (Value.agg #[.int .i64 n1, .int .i64 d1]); refine ((unhide O1) _).mono ?_; rintro e w' ⟨A1, c1, l1, m1, A2, c2, l2, m2, rfl, f1n, f2n, hb⟩; (try (first | replace f3 := WholeF.below f3 hb | replace f3 := (WholeF.below f3 (Below.drew (Below.refl _ _))).below hb)); (try (first | replace f4 := WholeF.below f4 hb | replace f4 := (WholeF.below f4 (Below.drew (Below.refl _ _))).below hb)); have f1 := f1n; have f2 := f2n; clear f1n f2n; have hbw := below_step (w := W0) (by (first | with_reducible assumption | (repeat (first | with_reducible exact Below.refl _ _ | with_reducible assumption | refine Below.drew ?_ | (refine Below.alloc ?_ (by simp <;> omega) _))))) hb; obtain ⟨hc, hf⟩ := bcell hbw) | (go_at_call_of 17 (Value.agg #[.int .i64 n2, .int .i64 d2]); refine ((unhide O2) _).mono ?_; rintro e w' ⟨A3, c3, l3, m3, A4, c4, l4, m4, rfl, f3n, f4n, hb⟩; (try (first | replace f1 := WholeF.below f1 hb | replace f1 := (WholeF.below f1 (Below.drew (Below.refl _ _))).below hb)); (try (first | replace f2 := WholeF.below f2 hb | replace f2 := (WholeF.below f2 (Below.drew (Below.refl _ _))).below hb)); have f3 := f3n; have f4 := f4n; clear f3n f4n; have hbw := below_step (w := W0) (by (first | with_reducible assumption | (repeat (first | with_reducible exact Below.refl _ _ | with_reducible assumption | refine Below.drew ?_ | (refine Below.alloc ?_ (by simp <;> omega) _))))) hb; obtain ⟨hc, hf⟩ := bcell hbw) | (go_at_call 16; refine ((unhide HQ) A1 c1 l1 m1 A2 c2 l2 m2 A3 c3 l3 m3 A4 c4 l4 m4 _ (by first | exact f1 | exact WholeF.below f1 (Below.drew (Below.refl _ _))) (by first | exact f2 | exact WholeF.below f2 (Below.drew (Below.refl _ _))) (by first | exact f3 | exact WholeF.below f3 (Below.drew (Below.refl _ _))) (by first | exact f4 | exact WholeF.below f4 (Below.drew (Below.refl _ _)))).mono ?_; rintro e w' ⟨rfl, hb⟩; have hbw := below_step (w := W0) (by (first | with_reducible assumption | (repeat (first | with_reducible exact Below.refl _ _ | with_reducible assumption | refine Below.drew ?_ | (refine Below.alloc ?_ (by simp <;> omega) _))))) hb))
    all_goals
      have hb9 := below_step' (unhide HW0) hbw
      have HB9 := hide hb9
      clear hb9 hbw
      go_wp2_with fail
      go_ret2
      exact ⟨rfl, unhide HB9⟩
  · have e1 : fstE n1 d1 n2 d2 = 1 := if_neg ok
    have e2 : cmpC n1 d1 n2 d2 = 0 := if_neg ok
    unfold CmpR
    rw [e1] at HA ⊢
    rw [e2]
    clear e1 e2 ok
    go_enter Tryd.func10, Tryd.ntmps10
    go_wp2_with fail
    obtain ⟨n0, n1_, n2_, hsz, hw0⟩ := three_new w (.cells #[.int .i64 n1, .int .i64 d1] 23) (.cells #[.int .i64 n2, .int .i64 d2] 23) (.cells #[.int .i64 n1, .int .i64 d1, .int .i64 n2, .int .i64 d2] 23)
    generalize (((w.alloc (.cells #[.int .i64 n1, .int .i64 d1] 23)).alloc (.cells #[.int .i64 n2, .int .i64 d2] 23)).alloc (.cells #[.int .i64 n1, .int .i64 d1, .int .i64 n2, .int .i64 d2] 23)) = Wa at *
    refine ((unhide HA) (w.heap.size + 1 + 1) Wa (lt_of_block n2_) (cells_of n2_ 0) (cells_of n2_ 1) (cells_of n2_ 2) (cells_of n2_ 3)).mono ?_
    rintro e W0 ⟨rfl, hb0⟩
    replace hw0 := below_step' hw0 hb0
    clear n0 n1_ n2_ hsz hb0
    go_wp2_with fail
    go_ret2
    exact ⟨rfl, hw0⟩
end Go.Proofs.YtaaccgjopcgbfaaDoor
/- How numbers compare. -/
namespace Go.Proofs.YtaaccgjopcgbfaaDoor
open Go.RowKit

set_option maxRecDepth 100000 in
set_option maxHeartbeats 8000000 in
theorem cmpR_any (n1 d1 n2 d2 : Int) (w : World) (hT : Tab w) :
    Calls Tryd.prog 9 #[.agg #[.int .i64 n1, .int .i64 d1], .agg #[.int .i64 n2, .int .i64 d2]] w fun e w' => CmpR w n1 d1 n2 d2 e w' := by
  have HA := hide (fun g W (hW : Tab W) => first_any n1 d1 n2 d2 g W hW)
  have HT := hide hT
  clear hT
  by_cases ok : Wd.okR n1 d1 ∧ Wd.okR n2 d2
  · have e1 : fstE n1 d1 n2 d2 = 0 := if_pos ok
    have e2 : cmpC n1 d1 n2 d2 = sgn (n1 * d2 - n2 * d1) := if_pos ok
    unfold CmpR
    rw [e1] at HA ⊢
    rw [e2]
    obtain ⟨a1, a2⟩ := Wd.qR_ok ok.1
    obtain ⟨a3, a4⟩ := Wd.qR_ok ok.2
    obtain ⟨⟨r1, r2, r3, r4, rg1⟩, ⟨r5, r6, r7, r8, rg2⟩⟩ := ok
    have hz1 := okR_sz (n := n1) (d := d1) ⟨r1, r2, r3, r4, rg1⟩
    have hz2 := okR_sz (n := n2) (d := d2) ⟨r5, r6, r7, r8, rg2⟩
    have O1 := hide (fun W => rof_any n1 d1 W (by omega) (by omega) (by omega) (by omega))
    have O2 := hide (fun W => rof_any n2 d2 W (by omega) (by omega) (by omega) (by omega))
    have hq := fun (s1 : Int) (neg1 : Bool) (A1 : Option Addr) (c1 : Nat) (l1 : List Nat) (s2 : Int) (neg2 : Bool) (A2 : Option Addr) (c2 : Nat) (l2 : List Nat) (s3 : Int) (neg3 : Bool) (A3 : Option Addr) (c3 : Nat) (l3 : List Nat) (s4 : Int) (neg4 : Bool) (A4 : Option Addr) (c4 : Nat) (l4 : List Nat) (W : World) => opc_cmp W (Wd.qR n1 d1) (Wd.qR n2 d2) hz1 hz2 (by decide) s1 neg1 A1 c1 l1 s2 neg2 A2 c2 l2 s3 neg3 A3 c3 l3 s4 neg4 A4 c4 l4 W (Below.refl _ _)
    obtain ⟨g, hg⟩ : ∃ g, g = sgn (n1 * d2 - n2 * d1) := ⟨_, rfl⟩
    simp only [a1, a2, a3, a4, ← hg] at hq
    rw [← hg]
    have HQ := hide hq
    clear hq hg a1 a2 a3 a4 r1 r2 r3 r4 r5 r6 r7 r8 e1 e2 hz1 hz2 rg1 rg2
    go_enter Tryd.func9, Tryd.ntmps9
    go_wp2_with fail
    obtain ⟨n0, n1_, n2_, hsz, hw0⟩ := three_new w (.cells #[.int .i64 n1, .int .i64 d1] 23) (.cells #[.int .i64 n2, .int .i64 d2] 23) (.cells #[.int .i64 n1, .int .i64 d1, .int .i64 n2, .int .i64 d2] 23)
    generalize (((w.alloc (.cells #[.int .i64 n1, .int .i64 d1] 23)).alloc (.cells #[.int .i64 n2, .int .i64 d2] 23)).alloc (.cells #[.int .i64 n1, .int .i64 d1, .int .i64 n2, .int .i64 d2] 23)) = Wa at *
    refine ((unhide HA) (w.heap.size + 1 + 1) Wa ((unhide HT).below hw0) (lt_of_block n2_) (cells_of n2_ 0) (cells_of n2_ 1) (cells_of n2_ 2) (cells_of n2_ 3)).mono ?_
    rintro e W0 ⟨rfl, hb0⟩
    replace n0 := (hb0.block _ (lt_of_block n0)).trans n0
    replace n1_ := (hb0.block _ (lt_of_block n1_)).trans n1_
    replace hw0 := below_step' hw0 hb0
    have q0 := lt_of_block n0; have q1 := lt_of_block n1_
    have KEEP : ∀ X, Below W0.heap.size W0 X → (fun w' => w'.cell? ⟨w.heap.size, 0, none⟩ = some (.int .i64 n1) ∧ w'.cell? ⟨w.heap.size, 1, none⟩ = some (.int .i64 d1) ∧ w'.cell? ⟨w.heap.size + 1, 0, none⟩ = some (.int .i64 n2) ∧ w'.cell? ⟨w.heap.size + 1, 1, none⟩ = some (.int .i64 d2)) X := fun X hX => ⟨(hX.cell (p := ⟨w.heap.size, 0, none⟩) q0).trans (cells_of n0 0), (hX.cell (p := ⟨w.heap.size, 1, none⟩) q0).trans (cells_of n0 1), (hX.cell (p := ⟨w.heap.size + 1, 0, none⟩) q1).trans (cells_of n1_ 0), (hX.cell (p := ⟨w.heap.size + 1, 1, none⟩) q1).trans (cells_of n1_ 1)⟩
    have HKE := hide KEEP; have HW0 := hide hw0
    clear KEEP n0 n1_ n2_ hsz hb0 hw0 HA
    go_wp2_with fail
    go_region_held3 (fun w' => w'.cell? ⟨w.heap.size, 0, none⟩ = some (.int .i64 n1) ∧ w'.cell? ⟨w.heap.size, 1, none⟩ = some (.int .i64 d1) ∧ w'.cell? ⟨w.heap.size + 1, 0, none⟩ = some (.int .i64 n2) ∧ w'.cell? ⟨w.heap.size + 1, 1, none⟩ = some (.int .i64 d2)) (exact (unhide HKE) _ (by (first | with_reducible assumption | (repeat (first | with_reducible exact Below.refl _ _ | with_reducible assumption | refine Below.drew ?_ | (refine Below.alloc ?_ (by simp <;> omega) _)))))) (first | (go_at_call_of 35 (Value.agg #[.int .i64 n1, .int .i64 d1]); refine ((unhide O1) _).mono ?_; rintro e w' ⟨s1, neg1, A1, c1, l1, s2, neg2, A2, c2, l2, rfl, f1n, f2n, hb⟩; (try (first | replace f3 := IntF.below f3 hb | replace f3 := (IntF.below f3 (Below.drew (Below.refl _ _))).below hb)); (try (first | replace f4 := IntF.below f4 hb | replace f4 := (IntF.below f4 (Below.drew (Below.refl _ _))).below hb)); have f1 := f1n; have f2 := f2n; clear f1n f2n; have hbw := below_step (w := W0) (by (first | with_reducible assumption | (repeat (first | with_reducible exact Below.refl _ _ | with_reducible assumption | refine Below.drew ?_ | (refine Below.alloc ?_ (by simp <;> omega) _))))) hb; obtain ⟨hc, hf⟩ := bcell hbw) | (go_at_call_of 35 (Value.agg #[.int .i64 n2, .int .i64 d2]); refine ((unhide O2) _).mono ?_; rintro e w' ⟨s3, neg3, A3, c3, l3, s4, neg4, A4, c4, l4, rfl, f3n, f4n, hb⟩; (try (first | replace f1 := IntF.below f1 hb | replace f1 := (IntF.below f1 (Below.drew (Below.refl _ _))).below hb)); (try (first | replace f2 := IntF.below f2 hb | replace f2 := (IntF.below f2 (Below.drew (Below.refl _ _))).below hb)); have f3 := f3n; have f4 := f4n; clear f3n f4n; have hbw := below_step (w := W0) (by (first | with_reducible assumption | (repeat (first | with_reducible exact Below.refl _ _ | with_reducible assumption | refine Below.drew ?_ | (refine Below.alloc ?_ (by simp <;> omega) _))))) hb; obtain ⟨hc, hf⟩ := bcell hbw) | (go_at_call 36; refine ((unhide HQ) s1 neg1 A1 c1 l1 s2 neg2 A2 c2 l2 s3 neg3 A3 c3 l3 s4 neg4 A4 c4 l4 _ (by first | exact f1 | exact IntF.below f1 (Below.drew (Below.refl _ _))) (by first | exact f2 | exact IntF.below f2 (Below.drew (Below.refl _ _))) (by first | exact f3 | exact IntF.below f3 (Below.drew (Below.refl _ _))) (by first | exact f4 | exact IntF.below f4 (Below.drew (Below.refl _ _)))).mono ?_; rintro e w' ⟨rfl, hb⟩; have hbw := below_step (w := W0) (by (first | with_reducible assumption | (repeat (first | with_reducible exact Below.refl _ _ | with_reducible assumption | refine Below.drew ?_ | (refine Below.alloc ?_ (by simp <;> omega) _))))) hb))
    all_goals
      have hb9 := below_step' (unhide HW0) hbw
      have HB9 := hide hb9
      clear hb9 hbw
      go_wp2_with fail
      go_ret2
      exact ⟨rfl, unhide HB9⟩
  · have e1 : fstE n1 d1 n2 d2 = 1 := if_neg ok
    have e2 : cmpC n1 d1 n2 d2 = 0 := if_neg ok
    unfold CmpR
    rw [e1] at HA ⊢
    rw [e2]
    clear e1 e2 ok
    go_enter Tryd.func9, Tryd.ntmps9
    go_wp2_with fail
    obtain ⟨n0, n1_, n2_, hsz, hw0⟩ := three_new w (.cells #[.int .i64 n1, .int .i64 d1] 23) (.cells #[.int .i64 n2, .int .i64 d2] 23) (.cells #[.int .i64 n1, .int .i64 d1, .int .i64 n2, .int .i64 d2] 23)
    generalize (((w.alloc (.cells #[.int .i64 n1, .int .i64 d1] 23)).alloc (.cells #[.int .i64 n2, .int .i64 d2] 23)).alloc (.cells #[.int .i64 n1, .int .i64 d1, .int .i64 n2, .int .i64 d2] 23)) = Wa at *
    refine ((unhide HA) (w.heap.size + 1 + 1) Wa ((unhide HT).below hw0) (lt_of_block n2_) (cells_of n2_ 0) (cells_of n2_ 1) (cells_of n2_ 2) (cells_of n2_ 3)).mono ?_
    rintro e W0 ⟨rfl, hb0⟩
    replace hw0 := below_step' hw0 hb0
    clear n0 n1_ n2_ hsz hb0
    go_wp2_with fail
    go_ret2
    exact ⟨rfl, hw0⟩
end Go.Proofs.YtaaccgjopcgbfaaDoor
/- The number nearest to 22/7 with a denominator of at most 5. -/
namespace Go.Proofs.YtaaccgjopcgbfaaDoor
open Go.RowKit

set_option maxRecDepth 100000 in
set_option maxHeartbeats 16000000 in
theorem near_known (w : World) (hT : Tab w) :
    Calls Tryd.prog 19 #[(Value.agg #[.int .i64 22, .int .i64 7]), .int .i64 5] w fun e w' => e = .returned (.tuple #[(Value.agg #[.int .i64 16, .int .i64 5]), .int .i64 0]) ∧ Below w.heap.size w w' := by
  have HV := hide (val_any 22 7)
  rw [show valE 22 7 = 0 by decide] at HV
  have HNB := hide nb_known
  have HO := hide (fun W => rof_any 22 7 W (by omega) (by omega) (by omega) (by omega))
  have HO1 := hide (fun W => rof_any 3 1 W (by omega) (by omega) (by omega) (by omega))
  have HO2 := hide (fun W => rof_any 16 5 W (by omega) (by omega) (by omega) (by omega))
  have o1 : Wd.okR 22 7 := by decide
  have o2 : Wd.okR 3 1 := by decide
  have o3 : Wd.okR 16 5 := by decide
  obtain ⟨e1, e2⟩ := Wd.qR_ok o1
  obtain ⟨e3, e4⟩ := Wd.qR_ok o2
  obtain ⟨e5, e6⟩ := Wd.qR_ok o3
  obtain ⟨hs1, z1⟩ := opq_sub hT (Wd.qR 22 7) (Wd.qR 3 1) (okR_sz o1) (okR_sz o2) lim3
  obtain ⟨hs2, z2⟩ := opq_sub hT (Wd.qR 16 5) (Wd.qR 22 7) (okR_sz o3) (okR_sz o1) lim3
  have hcc := opc_cmp w _ _ z1 z2 (by unfold lim; omega)
  rw [show sgn ((Wd.qR 22 7 - Wd.qR 3 1).num * (Wd.qR 16 5 - Wd.qR 22 7).den - (Wd.qR 16 5 - Wd.qR 22 7).num * (Wd.qR 22 7 - Wd.qR 3 1).den) = 1 by decide +kernel] at hcc
  unfold OpQ2 at hs1 hs2
  unfold OpC at hcc
  rw [e1, e2, e3, e4] at hs1
  rw [e5, e6, e1, e2] at hs2
  generalize Wd.qR 22 7 - Wd.qR 3 1 = u at *
  generalize Wd.qR 16 5 - Wd.qR 22 7 = v at *
  have HS1 := hide hs1
  have HS2 := hide hs2
  have HCC := hide hcc
  have HT := hide hT
  clear hT o1 o2 o3 e1 e2 e3 e4 e5 e6 hs1 hs2 z1 z2 hcc
  go_enter Tryd.func19, Tryd.ntmps19
  go_wp2_with fail
  obtain ⟨n0_, n1_, hsz, hw0⟩ := two_new w (.cells #[.int .i64 22, .int .i64 7] 23) (.cells #[.int .i64 0, .int .i64 0] 23)
  generalize ((w.alloc (.cells #[.int .i64 22, .int .i64 7] 23)).alloc (.cells #[.int .i64 0, .int .i64 0] 23)) = W0 at *
  clear hsz
  refine ((unhide HV) _ ((unhide HT).below hw0)).mono ?_
  rintro e W1 ⟨rfl, hb⟩
  have x1 := (hb.block _ (lt_of_block n0_)).trans n0_
  have r1 := (hb.block _ (lt_of_block n1_)).trans n1_
  have hw1 := below_step' hw0 hb
  clear n0_ n1_ hb hw0 W0
  have k0 : W1.cell? ⟨w.heap.size, 0, none⟩ = some (.int .i64 22) := cells_of x1 0
  have k1 : W1.cell? ⟨w.heap.size, 1, none⟩ = some (.int .i64 7) := cells_of x1 1
  have X1 := hide x1
  have R1 := hide r1
  clear x1 r1
  go_wp2_with fail
  refine ((unhide HNB) _).mono ?_
  rintro e W2 ⟨rfl, hb⟩
  have x1 := (hb.block _ (lt_of_block (unhide X1))).trans (unhide X1)
  have r1 := (hb.block _ (lt_of_block (unhide R1))).trans (unhide R1)
  have hw2 := below_step' hw1 hb
  clear k0 k1 hb hw1 X1 R1
  have k0 : W2.cell? ⟨w.heap.size, 0, none⟩ = some (.int .i64 22) := cells_of x1 0
  have k1 : W2.cell? ⟨w.heap.size, 1, none⟩ = some (.int .i64 7) := cells_of x1 1
  have X1 := hide x1
  have R1 := hide r1
  clear x1 r1
  go_upto_region 9 with fail
  obtain ⟨n7, n8, hsz, hb⟩ := two_new W2 (.cells #[.int .i64 3, .int .i64 1] 23) (.cells #[.int .i64 16, .int .i64 5] 23)
  have x1 := (hb.block _ (lt_of_block (unhide X1))).trans (unhide X1)
  have r1 := (hb.block _ (lt_of_block (unhide R1))).trans (unhide R1)
  have hw3 := below_step' hw2 hb
  generalize ((W2.alloc (.cells #[.int .i64 3, .int .i64 1] 23)).alloc (.cells #[.int .i64 16, .int .i64 5] 23)) = W3 at *
  have ob7 : w.heap.size + 1 < W2.heap.size := lt_of_block (unhide R1)
  obtain ⟨b7, hb7⟩ : ∃ b, b = W2.heap.size := ⟨_, rfl⟩
  rw [← hb7] at n7 n8 ob7 ⊢
  clear k0 k1 hb hw2 X1 R1 hsz hb7
  have k0 : W3.cell? ⟨w.heap.size, 0, none⟩ = some (.int .i64 22) := cells_of x1 0
  have k1 : W3.cell? ⟨w.heap.size, 1, none⟩ = some (.int .i64 7) := cells_of x1 1
  go_wp2_with fail
  refine ((unhide HO) _).mono ?_
  rintro e W4 ⟨s1, neg1, A1, c1, l1, s2, neg2, A2, c2, l2, rfl, hf1, hf2, hb⟩
  go_upto_region 10 with fail
  have n9 := heap_alloc_new W4 (.cells #[.int .i64 s1, .bool neg1, .slice A1 l1.length c1, .int .i64 s2, .bool neg2, .slice A2 l2.length c2] 60)
  have hn : Below W4.heap.size W4 (W4.alloc (.cells #[.int .i64 s1, .bool neg1, .slice A1 l1.length c1, .int .i64 s2, .bool neg2, .slice A2 l2.length c2] 60)) := below_alloc (Below.refl _ _) _
  have ob9 : W3.heap.size ≤ W4.heap.size := hb.size
  generalize W4.alloc (.cells #[.int .i64 s1, .bool neg1, .slice A1 l1.length c1, .int .i64 s2, .bool neg2, .slice A2 l2.length c2] 60) = W5 at *
  obtain ⟨b9, hb9⟩ : ∃ b, b = W4.heap.size := ⟨_, rfl⟩
  rw [← hb9] at n9 ob9 ⊢
  have hB5 := below_step' hb hn
  have H1 := hide (hf1.below hn)
  have H2 := hide (hf2.below hn)
  have m7 := (hB5.block _ (lt_of_block n7)).trans n7
  have m8 := (hB5.block _ (lt_of_block n8)).trans n8
  have mr := (hB5.block _ (lt_of_block r1)).trans r1
  have HB := Lib.hid (below_step' hw3 hB5)
  have HM8 := hide m8
  have HMR := hide mr
  have kb7_0 : W5.cell? ⟨b7, 0, none⟩ = some (.int .i64 3) := cells_of m7 0
  have kb7_1 : W5.cell? ⟨b7, 1, none⟩ = some (.int .i64 1) := cells_of m7 1
  have kb8_0 : W5.cell? ⟨b7 + 1, 0, none⟩ = some (.int .i64 16) := cells_of m8 0
  have kb8_1 : W5.cell? ⟨b7 + 1, 1, none⟩ = some (.int .i64 5) := cells_of m8 1
  have kb9_0 : W5.cell? ⟨b9, 0, none⟩ = some (.int .i64 s1) := cells_of n9 0
  have kb9_1 : W5.cell? ⟨b9, 1, none⟩ = some (.bool neg1) := cells_of n9 1
  have kb9_2 : W5.cell? ⟨b9, 2, none⟩ = some (.slice A1 l1.length c1) := cells_of n9 2
  have kb9_3 : W5.cell? ⟨b9, 3, none⟩ = some (.int .i64 s2) := cells_of n9 3
  have kb9_4 : W5.cell? ⟨b9, 4, none⟩ = some (.bool neg2) := cells_of n9 4
  have kb9_5 : W5.cell? ⟨b9, 5, none⟩ = some (.slice A2 l2.length c2) := cells_of n9 5
  have qb7 := lt_of_block m7
  have qb8 := lt_of_block m8
  have qb9 := lt_of_block n9
  clear k0 k1 hf1 hf2 hb hn n7 n8 n9 x1 r1 m7 m8 mr hw3 hB5 ob9 hb9
  have KEEP := hide (show ∀ X, Below W5.heap.size W5 X → X.cell? ⟨b7, 0, none⟩ = some (.int .i64 3) ∧ X.cell? ⟨b7, 1, none⟩ = some (.int .i64 1) ∧ X.cell? ⟨b7 + 1, 0, none⟩ = some (.int .i64 16) ∧ X.cell? ⟨b7 + 1, 1, none⟩ = some (.int .i64 5) ∧ X.cell? ⟨b9, 0, none⟩ = some (.int .i64 s1) ∧ X.cell? ⟨b9, 1, none⟩ = some (.bool neg1) ∧ X.cell? ⟨b9, 2, none⟩ = some (.slice A1 l1.length c1) ∧ X.cell? ⟨b9, 3, none⟩ = some (.int .i64 s2) ∧ X.cell? ⟨b9, 4, none⟩ = some (.bool neg2) ∧ X.cell? ⟨b9, 5, none⟩ = some (.slice A2 l2.length c2) from fun X hB => ⟨keep_cell hB qb7 kb7_0, keep_cell hB qb7 kb7_1, keep_cell hB qb8 kb8_0, keep_cell hB qb8 kb8_1, keep_cell hB qb9 kb9_0, keep_cell hB qb9 kb9_1, keep_cell hB qb9 kb9_2, keep_cell hB qb9 kb9_3, keep_cell hB qb9 kb9_4, keep_cell hB qb9 kb9_5⟩)
  go_region_held3 (fun w' => w'.cell? ⟨b7, 0, none⟩ = some (.int .i64 3) ∧ w'.cell? ⟨b7, 1, none⟩ = some (.int .i64 1) ∧ w'.cell? ⟨b7 + 1, 0, none⟩ = some (.int .i64 16) ∧ w'.cell? ⟨b7 + 1, 1, none⟩ = some (.int .i64 5) ∧ w'.cell? ⟨b9, 0, none⟩ = some (.int .i64 s1) ∧ w'.cell? ⟨b9, 1, none⟩ = some (.bool neg1) ∧ w'.cell? ⟨b9, 2, none⟩ = some (.slice A1 l1.length c1) ∧ w'.cell? ⟨b9, 3, none⟩ = some (.int .i64 s2) ∧ w'.cell? ⟨b9, 4, none⟩ = some (.bool neg2) ∧ w'.cell? ⟨b9, 5, none⟩ = some (.slice A2 l2.length c2)) (exact (unhide KEEP) _ (by (repeat (first | with_reducible exact Below.refl _ _ | with_reducible assumption | with_reducible refine Below.drew ?_ | with_reducible refine below_alloc ?_ _)))) (first | (go_at_call_of 35 (Value.agg #[.int .i64 3, .int .i64 1]); refine ((unhide HO1) _).mono ?_; rintro e w' ⟨s5, neg5, A5, c5, l5, s6, neg6, A6, c6, l6, rfl, hf5, hf6, hb5⟩; have hbw := below_step (w := W5) (by (repeat (first | with_reducible exact Below.refl _ _ | with_reducible assumption | with_reducible refine Below.drew ?_ | with_reducible refine below_alloc ?_ _))) hb5; have hsw := hbw.size; obtain ⟨hc, hfz⟩ := bcell hbw) | (go_at_call_of 50 (Value.agg #[.int .i64 s1, .bool neg1, .slice A1 l1.length c1, .int .i64 s2, .bool neg2, .slice A2 l2.length c2]); refine ((unhide HS1) s1 neg1 A1 c1 l1 s2 neg2 A2 c2 l2 s5 neg5 A5 c5 l5 s6 neg6 A6 c6 l6 _ (below_step' HB.out (by (repeat (first | with_reducible exact Below.refl _ _ | with_reducible assumption | with_reducible refine Below.drew ?_ | with_reducible refine below_alloc ?_ _)))) (IntF.below (unhide H1) (by (repeat (first | with_reducible exact Below.refl _ _ | with_reducible assumption | with_reducible refine Below.drew ?_ | with_reducible refine below_alloc ?_ _)))) (IntF.below (unhide H2) (by (repeat (first | with_reducible exact Below.refl _ _ | with_reducible assumption | with_reducible refine Below.drew ?_ | with_reducible refine below_alloc ?_ _)))) (IntF.below hf5 (by (repeat (first | with_reducible exact Below.refl _ _ | with_reducible assumption | with_reducible refine Below.drew ?_ | with_reducible refine below_alloc ?_ _)))) (IntF.below hf6 (by (repeat (first | with_reducible exact Below.refl _ _ | with_reducible assumption | with_reducible refine Below.drew ?_ | with_reducible refine below_alloc ?_ _))))).mono ?_; rintro e w' ⟨s7, neg7, A7, c7, l7, s8, neg8, A8, c8, l8, rfl, hf7, hf8, hb7⟩; have hbw := below_step (w := W5) (by (repeat (first | with_reducible exact Below.refl _ _ | with_reducible assumption | with_reducible refine Below.drew ?_ | with_reducible refine below_alloc ?_ _))) hb7; have hsw := hbw.size; obtain ⟨hc, hfz⟩ := bcell hbw) | (go_at_call_of 35 (Value.agg #[.int .i64 16, .int .i64 5]); refine ((unhide HO2) _).mono ?_; rintro e w' ⟨s9, neg9, A9, c9, l9, s10, neg10, A10, c10, l10, rfl, hf9, hf10, hb9⟩; have hf7 := IntF.below (IntF.below hf7 (by (repeat (first | with_reducible exact Below.refl _ _ | with_reducible assumption | with_reducible refine Below.drew ?_ | with_reducible refine below_alloc ?_ _)))) hb9; have hf8 := IntF.below (IntF.below hf8 (by (repeat (first | with_reducible exact Below.refl _ _ | with_reducible assumption | with_reducible refine Below.drew ?_ | with_reducible refine below_alloc ?_ _)))) hb9; have hbw := below_step (w := W5) (by (repeat (first | with_reducible exact Below.refl _ _ | with_reducible assumption | with_reducible refine Below.drew ?_ | with_reducible refine below_alloc ?_ _))) hb9; have hsw := hbw.size; obtain ⟨hc, hfz⟩ := bcell hbw) | (go_at_call_of 50 (Value.agg #[.int .i64 s9, .bool neg9, .slice A9 l9.length c9, .int .i64 s10, .bool neg10, .slice A10 l10.length c10]); refine ((unhide HS2) s9 neg9 A9 c9 l9 s10 neg10 A10 c10 l10 s1 neg1 A1 c1 l1 s2 neg2 A2 c2 l2 _ (below_step' HB.out (by (repeat (first | with_reducible exact Below.refl _ _ | with_reducible assumption | with_reducible refine Below.drew ?_ | with_reducible refine below_alloc ?_ _)))) (IntF.below hf9 (by (repeat (first | with_reducible exact Below.refl _ _ | with_reducible assumption | with_reducible refine Below.drew ?_ | with_reducible refine below_alloc ?_ _)))) (IntF.below hf10 (by (repeat (first | with_reducible exact Below.refl _ _ | with_reducible assumption | with_reducible refine Below.drew ?_ | with_reducible refine below_alloc ?_ _)))) (IntF.below (unhide H1) (by (repeat (first | with_reducible exact Below.refl _ _ | with_reducible assumption | with_reducible refine Below.drew ?_ | with_reducible refine below_alloc ?_ _)))) (IntF.below (unhide H2) (by (repeat (first | with_reducible exact Below.refl _ _ | with_reducible assumption | with_reducible refine Below.drew ?_ | with_reducible refine below_alloc ?_ _))))).mono ?_; rintro e w' ⟨s11, neg11, A11, c11, l11, s12, neg12, A12, c12, l12, rfl, hf11, hf12, hb11⟩; have hf7 := IntF.below (IntF.below hf7 (by (repeat (first | with_reducible exact Below.refl _ _ | with_reducible assumption | with_reducible refine Below.drew ?_ | with_reducible refine below_alloc ?_ _)))) hb11; have hf8 := IntF.below (IntF.below hf8 (by (repeat (first | with_reducible exact Below.refl _ _ | with_reducible assumption | with_reducible refine Below.drew ?_ | with_reducible refine below_alloc ?_ _)))) hb11; have hbw := below_step (w := W5) (by (repeat (first | with_reducible exact Below.refl _ _ | with_reducible assumption | with_reducible refine Below.drew ?_ | with_reducible refine below_alloc ?_ _))) hb11; have hsw := hbw.size; obtain ⟨hc, hfz⟩ := bcell hbw) | (go_at_call_of 36 (Value.agg #[.int .i64 s7, .bool neg7, .slice A7 l7.length c7, .int .i64 s8, .bool neg8, .slice A8 l8.length c8]); refine ((unhide HCC) s7 neg7 A7 c7 l7 s8 neg8 A8 c8 l8 s11 neg11 A11 c11 l11 s12 neg12 A12 c12 l12 _ (below_step' HB.out (by (repeat (first | with_reducible exact Below.refl _ _ | with_reducible assumption | with_reducible refine Below.drew ?_ | with_reducible refine below_alloc ?_ _)))) (IntF.below hf7 (by (repeat (first | with_reducible exact Below.refl _ _ | with_reducible assumption | with_reducible refine Below.drew ?_ | with_reducible refine below_alloc ?_ _)))) (IntF.below hf8 (by (repeat (first | with_reducible exact Below.refl _ _ | with_reducible assumption | with_reducible refine Below.drew ?_ | with_reducible refine below_alloc ?_ _)))) (IntF.below hf11 (by (repeat (first | with_reducible exact Below.refl _ _ | with_reducible assumption | with_reducible refine Below.drew ?_ | with_reducible refine below_alloc ?_ _)))) (IntF.below hf12 (by (repeat (first | with_reducible exact Below.refl _ _ | with_reducible assumption | with_reducible refine Below.drew ?_ | with_reducible refine below_alloc ?_ _))))).mono ?_; rintro e w' ⟨rfl, hb13⟩; have hbw := below_step (w := W5) (by (repeat (first | with_reducible exact Below.refl _ _ | with_reducible assumption | with_reducible refine Below.drew ?_ | with_reducible refine below_alloc ?_ _))) hb13; have hsw := hbw.size; obtain ⟨hc, hfz⟩ := bcell hbw))
  have hbb := below_step' HB.out hbw
  have m8 := (hbw.block _ qb8).trans (unhide HM8)
  have mr := (hbw.block _ (lt_of_block (unhide HMR))).trans (unhide HMR)
  clear hf7 hf8 hf11 hf12 hc hfz KEEP kb7_0 kb7_1 kb8_0 kb8_1
  have k0 : w'.cell? ⟨b7 + 1, 0, none⟩ = some (.int .i64 16) := cells_of m8 0
  have k1 : w'.cell? ⟨b7 + 1, 1, none⟩ = some (.int .i64 5) := cells_of m8 1
  have r0 : w'.cell? ⟨w.heap.size + 1, 0, none⟩ = some (.int .i64 0) := cells_of mr 0
  have r1 : w'.cell? ⟨w.heap.size + 1, 1, none⟩ = some (.int .i64 0) := cells_of mr 1
  have f0 : w'.frozen? ⟨w.heap.size + 1, 0, none⟩ = false := unfrozen_of mr 0
  have f1 : w'.frozen? ⟨w.heap.size + 1, 1, none⟩ = false := unfrozen_of mr 1
  go_wp2_with fail
  exact bodyPost_ret (v := .tuple #[(Value.agg #[.int .i64 16, .int .i64 5]), .int .i64 0]) (by simp [results, Tryd.results19, go_sem, r0, r1]) rfl
    ⟨rfl, hbb.grown (set2_grown _ _ _ _) hbb.size (fun k hk => by injection hk with hk; omega)⟩

end Go.Proofs.YtaaccgjopcgbfaaDoor
/- The document's examples. -/
namespace Go.Proofs.YtaaccgjopcgbfaaDoor
open Go.RowKit

theorem told_ext {t : Wd.Told} {a b c : Int} (h : t.n = a ∧ t.d = b ∧ t.e = c) : t = ⟨a, b, c⟩ := by
  cases t
  obtain ⟨rfl, rfl, rfl⟩ := h
  rfl
set_option maxRecDepth 100000 in
set_option maxHeartbeats 16000000 in
theorem known_any (w : World) (hT : Tab w) : Calls Tryd.prog 13 #[] w fun e w' => e = .returned (.bool true) ∧ Below w.heap.size w w' := by
  have HM := hide (fun W (hW : Tab W) => make_any (-6) 4 W hW (by omega) (by omega) (by omega) (by omega))
  rw [told_ext (t := mkE (-6) 4) (a := -3) (b := 2) (c := 0) (by decide +kernel)] at HM
  have HF := hide (floor_any (-3) 2)
  rw [show floorV (-3) 2 = -2 by decide, show valE (-3) 2 = 0 by decide] at HF
  have HN := hide near_known
  have HT := hide hT
  clear hT
  go_enter Tryd.func13, Tryd.ntmps13
  go_wp2_with fail
  refine ((unhide HM) _ (unhide HT)).mono ?_
  rintro e W1 ⟨rfl, hb1⟩
  go_wp2_with fail
  have nx := heap_alloc_new W1 (.cells #[.int .i64 (-3), .int .i64 2] 23)
  have hb2 := below_step' hb1 (below_alloc (Below.refl _ _) (.cells #[.int .i64 (-3), .int .i64 2] 23))
  generalize W1.alloc (.cells #[.int .i64 (-3), .int .i64 2] 23) = W2 at *
  obtain ⟨bx, hbx⟩ : ∃ b, b = W1.heap.size := ⟨_, rfl⟩
  rw [← hbx] at nx ⊢
  clear hb1 hbx
  refine ((unhide HF) _ ((unhide HT).below hb2)).mono ?_
  rintro e W3 ⟨rfl, hb⟩
  have nx3 := (hb.block _ (lt_of_block nx)).trans nx
  have hb3 := below_step' hb2 hb
  clear nx hb hb2
  go_wp2_with fail
  refine ((unhide HN) _ ((unhide HT).below hb3)).mono ?_
  rintro e W4 ⟨rfl, hb⟩
  have nx4 := (hb.block _ (lt_of_block nx3)).trans nx3
  have hb4 := below_step' hb3 hb
  have hlt := lt_of_block nx4
  have k0 : W4.cell? ⟨bx, 0, none⟩ = some (.int .i64 (-3)) := cells_of nx4 0
  have k1 : W4.cell? ⟨bx, 1, none⟩ = some (.int .i64 2) := cells_of nx4 1
  have hne : ¬ (bx = W4.heap.size) := by omega
  clear nx3 nx4 hb hb3
  go_wp2
  go_ret
  exact ⟨rfl, below_alloc hb4 _⟩

end Go.Proofs.YtaaccgjopcgbfaaDoor
/- Numbers, quotients of ints, and order: the law's walk. -/
namespace Go.Proofs.YtaaccgjopcgbfaaDoor
open Go.RowKit

set_option maxRecDepth 100000 in
set_option maxHeartbeats 8000000 in
theorem makes_walk (n1 d1 n2 d2 n d nm dm em cc ff vv : Int) (w : World) (hT : Tab w)
    (c1 : ∀ W, Tab W → Calls Tryd.prog 7 #[.int .i64 n, .int .i64 d] W fun e w' => e = .returned (.tuple #[.agg #[.int .i64 nm, .int .i64 dm], .int .i64 em]) ∧ Below W.heap.size W w')
    (c2 : ∀ W, Calls Tryd.prog 8 #[.int .i64 n, .int .i64 d] W fun e w' => e = .returned (.tuple #[.agg #[.int .i64 nm, .int .i64 dm], .int .i64 em]) ∧ Below W.heap.size W w')
    (c3 : ∀ W, Tab W → Calls Tryd.prog 9 #[.agg #[.int .i64 n1, .int .i64 d1], .agg #[.int .i64 n2, .int .i64 d2]] W fun e w' => e = .returned (.tuple #[.int .i64 cc, .int .i64 ff]) ∧ Below W.heap.size W w')
    (c4 : ∀ W, Calls Tryd.prog 10 #[.agg #[.int .i64 n1, .int .i64 d1], .agg #[.int .i64 n2, .int .i64 d2]] W fun e w' => e = .returned (.tuple #[.int .i64 cc, .int .i64 ff]) ∧ Below W.heap.size W w')
    (c5 : ∀ W, Tab W → Calls Tryd.prog 11 #[.agg #[.int .i64 n1, .int .i64 d1]] W fun e w' => e = .returned (.int .i64 vv) ∧ Below W.heap.size W w')
    (c6 : ∀ W, Calls Tryd.prog 12 #[.agg #[.int .i64 n1, .int .i64 d1]] W fun e w' => e = .returned (.int .i64 vv) ∧ Below W.heap.size W w') :
    Calls Tryd.prog 3 #[.agg #[.int .i64 n1, .int .i64 d1], .agg #[.int .i64 n2, .int .i64 d2], .int .i64 n, .int .i64 d] w fun e w' => e = .returned (.bool true) ∧ Below w.heap.size w w' := by
  have C1 := hide c1; have C2 := hide c2; have C3 := hide c3; have C4 := hide c4; have C5 := hide c5; have C6 := hide c6
  have HT := hide hT; have HKN := hide known_any
  clear c1 c2 c3 c4 c5 c6 hT
  go_enter Tryd.func3, Tryd.ntmps3
  go_upto_region 1 with fail
  obtain ⟨n0_, n1_, hsz, hw0⟩ := two_new w (.cells #[.int .i64 n1, .int .i64 d1] 23) (.cells #[.int .i64 n2, .int .i64 d2] 23)
  generalize ((w.alloc (.cells #[.int .i64 n1, .int .i64 d1] 23)).alloc (.cells #[.int .i64 n2, .int .i64 d2] 23)) = W0 at *
  have jx := hide n0_; have jy := hide n1_; have HB := Lib.hid hw0
  clear hsz n0_ n1_ hw0
  go_wp2_with fail
  refine ((unhide C1) _ ((unhide HT).below HB.out)).mono ?_
  rintro e V1 ⟨rfl, hb⟩
  go_upto_region 2 with fail
  have hn := heap_alloc_new V1 (.cells #[.int .i64 nm, .int .i64 dm] 23)
  replace hb := below_step' hb (below_alloc (Below.refl V1.heap.size V1) (.cells #[.int .i64 nm, .int .i64 dm] 23))
  generalize V1.alloc (.cells #[.int .i64 nm, .int .i64 dm] 23) = W1 at *
  obtain ⟨ba, hbn⟩ : ∃ b, b = V1.heap.size := ⟨_, rfl⟩
  rw [← hbn] at hn ⊢
  clear hbn
  replace jx := hide ((hb.block _ (lt_of_block (unhide jx))).trans (unhide jx))
  replace jy := hide ((hb.block _ (lt_of_block (unhide jy))).trans (unhide jy))
  replace HB := Lib.hid (below_step' HB.out hb)
  have ja := hide hn
  clear hn hb
  go_wp2_with fail
  refine ((unhide C2) _).mono ?_
  rintro e V2 ⟨rfl, hb⟩
  go_upto_region 3 with fail
  have hn := heap_alloc_new V2 (.cells #[.int .i64 nm, .int .i64 dm] 23)
  replace hb := below_step' hb (below_alloc (Below.refl V2.heap.size V2) (.cells #[.int .i64 nm, .int .i64 dm] 23))
  generalize V2.alloc (.cells #[.int .i64 nm, .int .i64 dm] 23) = W2 at *
  obtain ⟨bb, hbn⟩ : ∃ b, b = V2.heap.size := ⟨_, rfl⟩
  rw [← hbn] at hn ⊢
  clear hbn
  replace jx := hide ((hb.block _ (lt_of_block (unhide jx))).trans (unhide jx))
  replace jy := hide ((hb.block _ (lt_of_block (unhide jy))).trans (unhide jy))
  replace ja := hide ((hb.block _ (lt_of_block (unhide ja))).trans (unhide ja))
  replace HB := Lib.hid (below_step' HB.out hb)
  have jb := hide hn
  clear hn hb
  have kx0 : W2.cell? ⟨w.heap.size, 0, none⟩ = some (.int .i64 n1) := cells_of (unhide jx) 0
  have kx1 : W2.cell? ⟨w.heap.size, 1, none⟩ = some (.int .i64 d1) := cells_of (unhide jx) 1
  have ky0 : W2.cell? ⟨w.heap.size + 1, 0, none⟩ = some (.int .i64 n2) := cells_of (unhide jy) 0
  have ky1 : W2.cell? ⟨w.heap.size + 1, 1, none⟩ = some (.int .i64 d2) := cells_of (unhide jy) 1
  go_wp2_with fail
  refine ((unhide C3) _ ((unhide HT).below HB.out)).mono ?_
  rintro e W3 ⟨rfl, hb⟩
  clear kx0 kx1 ky0 ky1
  replace jx := hide ((hb.block _ (lt_of_block (unhide jx))).trans (unhide jx))
  replace jy := hide ((hb.block _ (lt_of_block (unhide jy))).trans (unhide jy))
  replace ja := hide ((hb.block _ (lt_of_block (unhide ja))).trans (unhide ja))
  replace jb := hide ((hb.block _ (lt_of_block (unhide jb))).trans (unhide jb))
  replace HB := Lib.hid (below_step' HB.out hb)
  clear hb
  have kx0 : W3.cell? ⟨w.heap.size, 0, none⟩ = some (.int .i64 n1) := cells_of (unhide jx) 0
  have kx1 : W3.cell? ⟨w.heap.size, 1, none⟩ = some (.int .i64 d1) := cells_of (unhide jx) 1
  have ky0 : W3.cell? ⟨w.heap.size + 1, 0, none⟩ = some (.int .i64 n2) := cells_of (unhide jy) 0
  have ky1 : W3.cell? ⟨w.heap.size + 1, 1, none⟩ = some (.int .i64 d2) := cells_of (unhide jy) 1
  go_wp2_with fail
  refine ((unhide C4) _).mono ?_
  rintro e W4 ⟨rfl, hb⟩
  clear kx0 kx1 ky0 ky1
  replace jx := hide ((hb.block _ (lt_of_block (unhide jx))).trans (unhide jx))
  replace ja := hide ((hb.block _ (lt_of_block (unhide ja))).trans (unhide ja))
  replace jb := hide ((hb.block _ (lt_of_block (unhide jb))).trans (unhide jb))
  replace HB := Lib.hid (below_step' HB.out hb)
  clear hb jy
  have kx0 : W4.cell? ⟨w.heap.size, 0, none⟩ = some (.int .i64 n1) := cells_of (unhide jx) 0
  have kx1 : W4.cell? ⟨w.heap.size, 1, none⟩ = some (.int .i64 d1) := cells_of (unhide jx) 1
  have ka0 : W4.cell? ⟨ba, 0, none⟩ = some (.int .i64 nm) := cells_of (unhide ja) 0
  have ka1 : W4.cell? ⟨ba, 1, none⟩ = some (.int .i64 dm) := cells_of (unhide ja) 1
  have kb0 : W4.cell? ⟨bb, 0, none⟩ = some (.int .i64 nm) := cells_of (unhide jb) 0
  have kb1 : W4.cell? ⟨bb, 1, none⟩ = some (.int .i64 dm) := cells_of (unhide jb) 1
  have q0 := lt_of_block (unhide jx); have q1 := lt_of_block (unhide ja); have q2 := lt_of_block (unhide jb)
  have KEEP : ∀ X, Below W4.heap.size W4 X → (fun w' => w'.cell? ⟨w.heap.size, 0, none⟩ = some (.int .i64 n1) ∧ w'.cell? ⟨w.heap.size, 1, none⟩ = some (.int .i64 d1) ∧ w'.cell? ⟨ba, 0, none⟩ = some (.int .i64 nm) ∧ w'.cell? ⟨ba, 1, none⟩ = some (.int .i64 dm) ∧ w'.cell? ⟨bb, 0, none⟩ = some (.int .i64 nm) ∧ w'.cell? ⟨bb, 1, none⟩ = some (.int .i64 dm)) X := fun X hX => ⟨(hX.cell (p := ⟨w.heap.size, 0, none⟩) q0).trans kx0, (hX.cell (p := ⟨w.heap.size, 1, none⟩) q0).trans kx1, (hX.cell (p := ⟨ba, 0, none⟩) q1).trans ka0, (hX.cell (p := ⟨ba, 1, none⟩) q1).trans ka1, (hX.cell (p := ⟨bb, 0, none⟩) q2).trans kb0, (hX.cell (p := ⟨bb, 1, none⟩) q2).trans kb1⟩
  have HKE := hide KEEP
  have TT := hide (fun X (hX : Below W4.heap.size W4 X) => (unhide HT).below (below_step' HB.out hX))
  clear KEEP jx ja jb
  go_wp2_with fail
  go_region_held3 (fun w' => w'.cell? ⟨w.heap.size, 0, none⟩ = some (.int .i64 n1) ∧ w'.cell? ⟨w.heap.size, 1, none⟩ = some (.int .i64 d1) ∧ w'.cell? ⟨ba, 0, none⟩ = some (.int .i64 nm) ∧ w'.cell? ⟨ba, 1, none⟩ = some (.int .i64 dm) ∧ w'.cell? ⟨bb, 0, none⟩ = some (.int .i64 nm) ∧ w'.cell? ⟨bb, 1, none⟩ = some (.int .i64 dm)) (exact (unhide HKE) _ (by (first | with_reducible assumption | (repeat (first | with_reducible exact Below.refl _ _ | with_reducible assumption | refine Below.drew ?_ | (refine Below.alloc ?_ (by simp <;> omega) _)))))) (first | (go_at_call 11; refine ((unhide C5) _ ((unhide TT) _ (by (first | with_reducible assumption | (repeat (first | with_reducible exact Below.refl _ _ | with_reducible assumption | refine Below.drew ?_ | (refine Below.alloc ?_ (by simp <;> omega) _))))))).mono ?_; rintro e w' ⟨rfl, hb⟩; have hbw := below_step (w := W4) (by (first | with_reducible assumption | (repeat (first | with_reducible exact Below.refl _ _ | with_reducible assumption | refine Below.drew ?_ | (refine Below.alloc ?_ (by simp <;> omega) _))))) hb) | (go_at_call 12; refine ((unhide C6) _).mono ?_; rintro e w' ⟨rfl, hb⟩; have hbw := below_step (w := W4) (by (first | with_reducible assumption | (repeat (first | with_reducible exact Below.refl _ _ | with_reducible assumption | refine Below.drew ?_ | (refine Below.alloc ?_ (by simp <;> omega) _))))) hb) | (go_at_call 13; refine ((unhide HKN) _ ((unhide TT) _ (by (first | with_reducible assumption | (repeat (first | with_reducible exact Below.refl _ _ | with_reducible assumption | refine Below.drew ?_ | (refine Below.alloc ?_ (by simp <;> omega) _))))))).mono ?_; rintro e w' ⟨rfl, hb⟩; have hbw := below_step (w := W4) (by (first | with_reducible assumption | (repeat (first | with_reducible exact Below.refl _ _ | with_reducible assumption | refine Below.drew ?_ | (refine Below.alloc ?_ (by simp <;> omega) _))))) hb))
  all_goals
    have hb9 := below_step' HB.out hbw
    have HB9 := hide hb9
    clear hb9 hbw
    go_wp2_with fail
    all_goals first | go_ret | skip
    exact ⟨rfl, unhide HB9⟩
end Go.Proofs.YtaaccgjopcgbfaaDoor
/- The frame of the laws' rows: numbers as arguments; the listed table; a call that only makes new memory. -/
namespace Go.Proofs.YtaaccgjopcgbfaaDoor
open Go.Joins Go.ChangeShapes Go.WideShapes Go.ChangeAt Go.RowKit

theorem own : ownKnob Tryd.prog.godebug = none := by kernel_rfl
/-- What the rows list: one table. -/
def laidL {H : Type} : List (String × DataW H) := [("math/bits.deBruijn64tab", Rows.laid_math_bits_deBruijn64tab)]
theorem tab_list : (Rows.laid_math_bits_deBruijn64tab : DataW Unit) = .agg (Lib.deBruijn64tab.map fun (n : Nat) => .lit (.int .u8 (n : Int))) := by kernel_rfl
theorem tab_of {W : World} (h : laidMetH Tryd.prog laidL W) : Tab W := by
  rw [MakeChecks.laidMetH_plain _ _ _ (by kernel_rfl)] at h
  obtain ⟨ps, ⟨g, t, cs, fuel, p, q, hg, ht, hv, hd, _, _⟩, _, _⟩ := h
  obtain rfl := Option.some.inj ((show Tryd.prog.globalNamed "math/bits.deBruijn64tab" = some 0 by kernel_rfl).symm.trans hg)
  obtain rfl := Option.some.inj ((show (Tryd.prog.globals[0]?).map (·.type) = some 130 by kernel_rfl).symm.trans ht)
  obtain ⟨xs, m, _, ex, hcl, hl, hel⟩ := DataW.trod_array Tryd.underlying130 hd
  have c5 : Tryd.prog.cellsOf 5 = 1 := by kernel_rfl
  have hlen : Lib.deBruijn64tab.length = 64 := by kernel_rfl
  rw [tab_list] at ex
  have e3 : (xs.map (·.1)) = Lib.deBruijn64tab.map fun (n : Nat) => .lit (.int .u8 (n : Int)) := (DataW.agg.inj (Prod.mk.inj ex).1).symm
  have cell : ∀ r : Nat, r < 64 → W.cell? ⟨0, r, none⟩ = some (.int .u8 (Lib.deBruijn64tab.getD r 0)) := fun r hr => by
    have hE := hel r hr
    rw [c5, Nat.mul_one, List.getElem?_eq_getElem (by omega)] at hE
    obtain ⟨z, e1, e2, _⟩ := DataW.trod_int Tryd.underlying5 hE
    have e4 : (xs.map (·.1))[r]? = (Lib.deBruijn64tab.map fun (n : Nat) => (DataW.lit (.int .u8 (n : Int)) : DataW Unit))[r]? := by rw [e3]
    rw [List.getElem?_map, List.getElem?_map, List.getElem?_eq_getElem (by omega : r < xs.length), List.getElem?_eq_getElem (by omega : r < Lib.deBruijn64tab.length), e2] at e4
    have hz : z = (Lib.deBruijn64tab.getD r 0 : Nat) := by
      simp only [Option.map_some, Option.some.injEq, DataW.lit.injEq, Lit.int.injEq, true_and] at e4
      rw [e4, List.getD, List.getElem?_eq_getElem (by omega : r < Lib.deBruijn64tab.length)]; rfl
    rw [World.var?_cell hg hv r, ← hz]
    have : cs.toList[r]? = some (.int .u8 z) := by
      have h0 : ((cs.toList.drop r).take 1)[0]? = some (.int .u8 z) := by rw [e1]; rfl
      simpa using h0
    simpa using this
  refine ⟨fun j hj => cell j (by omega), ?_⟩
  have h0 := cell 0 (by omega)
  rcases Nat.lt_or_ge 0 W.heap.size with hlt | hge
  · exact hlt
  · simp [World.cell?, Array.getElem?_eq_none hge] at h0

set_option maxRecDepth 100000 in
/-- A number as an argument: two ints. -/
theorem open_rat {H : Type} {enc : TypeId × Value → H} {w : World} {base : Nat} {spare : Nat → Bool} {held : Bool} {r : Reach} {b0 : Nat} {v : Value} {d : DataW H} {p : List MemPlace}
    (hv : Value.okWide Tryd.prog w r b0 23 v) (h : DataW.Trod enc Tryd.prog w base spare held 23 v d p) :
    ∃ n m : Int, v = .agg #[.int .i64 n, .int .i64 m] ∧ d = .agg [.lit (.int .i64 n), .lit (.int .i64 m)] ∧ p = [] ∧ (Lit.int .i64 n).wf = true ∧ (Lit.int .i64 m).wf = true := by
  obtain ⟨v0, v1, y0, y1, k, rfl, rfl, rfl, h0, h1⟩ := open_agg2 Tryd.underlying23 (by kernel_rfl) (by kernel_rfl) hv h
  obtain ⟨n, e0, rfl, w0⟩ := DataW.trod_int Tryd.underlying3 h0
  obtain ⟨m, e1, rfl, w1⟩ := DataW.trod_int Tryd.underlying3 h1
  simp only [List.cons.injEq, and_true] at e0 e1
  subst e0 e1
  exact ⟨n, m, rfl, rfl, rfl, w0, w1⟩
set_option maxRecDepth 100000 in
theorem shut_rat {H : Type} {enc : TypeId × Value → H} {w : World} {base : Nat} {spare : Nat → Bool} {held : Bool} {n m : Int} (w0 : (Lit.int .i64 n).wf = true) (w1 : (Lit.int .i64 m).wf = true) :
    DataW.Trod enc Tryd.prog w base spare held 23 (.agg #[.int .i64 n, .int .i64 m]) (.agg [.lit (.int .i64 n), .lit (.int .i64 m)]) [] := by
  have i0 : ∀ k : Int, (Lit.int .i64 k).wf = true → ∃ f, DataW.trod enc Tryd.prog w base spare held f 3 [.int .i64 k] = some (.lit (.int .i64 k), []) := fun k hk => shut_int Tryd.underlying3 hk
  exact shut_agg2 (y0 := (.lit (.int .i64 n), [])) (y1 := (.lit (.int .i64 m), [])) Tryd.underlying23 (by kernel_rfl) (by kernel_rfl) (i0 n w0) (i0 m w1)
theorem wf_bounds {n : Int} (h : (Lit.int .i64 n).wf = true) : -9223372036854775808 ≤ n ∧ n ≤ 9223372036854775807 := bounds_i64 h

/-- A call that only makes new memory, and hands back what the law asks. -/
theorem post_below {H : Type} {enc : TypeId × Value → H} {P : Program} {f : Func} {s : ChangeSpec} {apart : Bool} {W W' : World} {args : Array Value} {v : Value} {ds gs : List (DataW H)}
    (hW : DataW.Whole enc P f.params.toList s.vars apart W args.toList ds gs [])
    (hres : DataW.TrodAll enc P W' W.heap.size (fun _ => false) false f.resultTypes.toList (v.resultList f.resultTypes.size) (s.fn H (ds ++ gs)).results [])
    (hargs : DataW.TrodAll enc P W' 0 (fun b => decide (b < W.heap.size)) true f.params.toList args.toList (s.fn H (ds ++ gs)).args [])
    (hvars : DataW.TrodVars enc P W' (fun b => decide (b < W.heap.size)) s.vars (s.fn H (ds ++ gs)).vars []) (hb : Below W.heap.size W W') :
    s.post enc P f apart true false false W args v W' :=
  ⟨ds, gs, [], [], [], [], hW, hres, hargs, hvars, hb.frame _, fun h => by cases h⟩
end Go.Proofs.YtaaccgjopcgbfaaDoor
