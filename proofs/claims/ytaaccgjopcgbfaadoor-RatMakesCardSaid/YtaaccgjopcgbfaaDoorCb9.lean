/- Part 9 of the texts beneath a law of layer 1: RtSub, RatV, RfIs, RatF, RfAll, RtOf, RtRat, RatC. -/
import Derived.Test.YtaaccgjopcgbfaaDoorCb8
/- Differences and quotients of quotients. -/
namespace Go.Proofs.YtaaccgjopcgbfaaDoor
open Go.RowKit

set_option maxRecDepth 100000 in
set_option maxHeartbeats 16000000 in
theorem opq_sub_of {w : World} {x y v q : Rat} (g1 : OpQ1 w 58 y v) (g2 : OpQ2 w 62 x v q) : OpQ2 w 50 x y q := by
  intro s1 neg1 A1 c1 l1 s2 neg2 A2 c2 l2 s3 neg3 A3 c3 l3 s4 neg4 A4 c4 l4 W hW f1 f2 f3 f4
  replace g1 := g1.mono hW
  replace g2 := g2.mono hW
  clear hW w
  revert W
  intro w f1 f2 f3 f4 g1 g2
  have H1 := hide f1
  have H2 := hide f2
  have H3 := hide f3
  have H4 := hide f4
  clear f1 f2 f3 f4
  have HG1 := hide g1
  have HG2 := hide g2
  clear g1 g2
  go_enter Tryd.func50, Tryd.ntmps50
  go_upto_region 1 with fail
  obtain ⟨n0, n1, n2, hsz, hw0⟩ := three_new w (.cells #[.int .i64 s1, .bool neg1, .slice A1 l1.length c1, .int .i64 s2, .bool neg2, .slice A2 l2.length c2] 60) (.cells #[.int .i64 s3, .bool neg3, .slice A3 l3.length c3, .int .i64 s4, .bool neg4, .slice A4 l4.length c4] 60) (.cells #[.int .i64 0, .bool false, .slice none 0 0, .int .i64 0, .bool false, .slice none 0 0] 60)
  generalize (((w.alloc (.cells #[.int .i64 s1, .bool neg1, .slice A1 l1.length c1, .int .i64 s2, .bool neg2, .slice A2 l2.length c2] 60)).alloc (.cells #[.int .i64 s3, .bool neg3, .slice A3 l3.length c3, .int .i64 s4, .bool neg4, .slice A4 l4.length c4] 60)).alloc (.cells #[.int .i64 0, .bool false, .slice none 0 0, .int .i64 0, .bool false, .slice none 0 0] 60)) = W0 at *
  have k0_0 : W0.cell? ⟨w.heap.size, 0, none⟩ = some (.int .i64 s1) := cells_of n0 0
  have k0_1 : W0.cell? ⟨w.heap.size, 1, none⟩ = some (.bool neg1) := cells_of n0 1
  have k0_2 : W0.cell? ⟨w.heap.size, 2, none⟩ = some (.slice A1 l1.length c1) := cells_of n0 2
  have k0_3 : W0.cell? ⟨w.heap.size, 3, none⟩ = some (.int .i64 s2) := cells_of n0 3
  have k0_4 : W0.cell? ⟨w.heap.size, 4, none⟩ = some (.bool neg2) := cells_of n0 4
  have k0_5 : W0.cell? ⟨w.heap.size, 5, none⟩ = some (.slice A2 l2.length c2) := cells_of n0 5
  have q0 : w.heap.size < W0.heap.size := by omega
  have k1_0 : W0.cell? ⟨w.heap.size + 1, 0, none⟩ = some (.int .i64 s3) := cells_of n1 0
  have k1_1 : W0.cell? ⟨w.heap.size + 1, 1, none⟩ = some (.bool neg3) := cells_of n1 1
  have k1_2 : W0.cell? ⟨w.heap.size + 1, 2, none⟩ = some (.slice A3 l3.length c3) := cells_of n1 2
  have k1_3 : W0.cell? ⟨w.heap.size + 1, 3, none⟩ = some (.int .i64 s4) := cells_of n1 3
  have k1_4 : W0.cell? ⟨w.heap.size + 1, 4, none⟩ = some (.bool neg4) := cells_of n1 4
  have k1_5 : W0.cell? ⟨w.heap.size + 1, 5, none⟩ = some (.slice A4 l4.length c4) := cells_of n1 5
  have q1 : w.heap.size + 1 < W0.heap.size := by omega
  have k2_0 : W0.cell? ⟨w.heap.size + 1 + 1, 0, none⟩ = some (.int .i64 0) := cells_of n2 0
  have k2_1 : W0.cell? ⟨w.heap.size + 1 + 1, 1, none⟩ = some (.bool false) := cells_of n2 1
  have k2_2 : W0.cell? ⟨w.heap.size + 1 + 1, 2, none⟩ = some (.slice none 0 0) := cells_of n2 2
  have k2_3 : W0.cell? ⟨w.heap.size + 1 + 1, 3, none⟩ = some (.int .i64 0) := cells_of n2 3
  have k2_4 : W0.cell? ⟨w.heap.size + 1 + 1, 4, none⟩ = some (.bool false) := cells_of n2 4
  have k2_5 : W0.cell? ⟨w.heap.size + 1 + 1, 5, none⟩ = some (.slice none 0 0) := cells_of n2 5
  have q2 : w.heap.size + 1 + 1 < W0.heap.size := by omega
  have f2_0 := unfrozen_of n2 0
  have f2_1 := unfrozen_of n2 1
  have f2_2 := unfrozen_of n2 2
  have f2_3 := unfrozen_of n2 3
  have f2_4 := unfrozen_of n2 4
  have f2_5 := unfrozen_of n2 5
  have NR := Lib.hid n2
  clear hsz n0 n1 n2
  replace H1 := hide ((unhide H1).below hw0)
  replace H2 := hide ((unhide H2).below hw0)
  replace H3 := hide ((unhide H3).below hw0)
  replace H4 := hide ((unhide H4).below hw0)
  have KEEP := hide (show ∀ X, Below W0.heap.size W0 X → X.cell? ⟨w.heap.size, 0, none⟩ = some (.int .i64 s1) ∧ X.cell? ⟨w.heap.size, 1, none⟩ = some (.bool neg1) ∧ X.cell? ⟨w.heap.size, 2, none⟩ = some (.slice A1 l1.length c1) ∧ X.cell? ⟨w.heap.size, 3, none⟩ = some (.int .i64 s2) ∧ X.cell? ⟨w.heap.size, 4, none⟩ = some (.bool neg2) ∧ X.cell? ⟨w.heap.size, 5, none⟩ = some (.slice A2 l2.length c2) ∧ X.cell? ⟨w.heap.size + 1, 0, none⟩ = some (.int .i64 s3) ∧ X.cell? ⟨w.heap.size + 1, 1, none⟩ = some (.bool neg3) ∧ X.cell? ⟨w.heap.size + 1, 2, none⟩ = some (.slice A3 l3.length c3) ∧ X.cell? ⟨w.heap.size + 1, 3, none⟩ = some (.int .i64 s4) ∧ X.cell? ⟨w.heap.size + 1, 4, none⟩ = some (.bool neg4) ∧ X.cell? ⟨w.heap.size + 1, 5, none⟩ = some (.slice A4 l4.length c4) from fun X hB => ⟨keep_cell hB q0 k0_0, keep_cell hB q0 k0_1, keep_cell hB q0 k0_2, keep_cell hB q0 k0_3, keep_cell hB q0 k0_4, keep_cell hB q0 k0_5, keep_cell hB q1 k1_0, keep_cell hB q1 k1_1, keep_cell hB q1 k1_2, keep_cell hB q1 k1_3, keep_cell hB q1 k1_4, keep_cell hB q1 k1_5⟩)
  go_region_held3 (fun w' => w'.cell? ⟨w.heap.size, 0, none⟩ = some (.int .i64 s1) ∧ w'.cell? ⟨w.heap.size, 1, none⟩ = some (.bool neg1) ∧ w'.cell? ⟨w.heap.size, 2, none⟩ = some (.slice A1 l1.length c1) ∧ w'.cell? ⟨w.heap.size, 3, none⟩ = some (.int .i64 s2) ∧ w'.cell? ⟨w.heap.size, 4, none⟩ = some (.bool neg2) ∧ w'.cell? ⟨w.heap.size, 5, none⟩ = some (.slice A2 l2.length c2) ∧ w'.cell? ⟨w.heap.size + 1, 0, none⟩ = some (.int .i64 s3) ∧ w'.cell? ⟨w.heap.size + 1, 1, none⟩ = some (.bool neg3) ∧ w'.cell? ⟨w.heap.size + 1, 2, none⟩ = some (.slice A3 l3.length c3) ∧ w'.cell? ⟨w.heap.size + 1, 3, none⟩ = some (.int .i64 s4) ∧ w'.cell? ⟨w.heap.size + 1, 4, none⟩ = some (.bool neg4) ∧ w'.cell? ⟨w.heap.size + 1, 5, none⟩ = some (.slice A4 l4.length c4)) (first | with_reducible exact ⟨(cell_set6 _ _ _ _ _ _ _ _ (by omega)).trans (keep_cell hbw q0 k0_0), (cell_set6 _ _ _ _ _ _ _ _ (by omega)).trans (keep_cell hbw q0 k0_1), (cell_set6 _ _ _ _ _ _ _ _ (by omega)).trans (keep_cell hbw q0 k0_2), (cell_set6 _ _ _ _ _ _ _ _ (by omega)).trans (keep_cell hbw q0 k0_3), (cell_set6 _ _ _ _ _ _ _ _ (by omega)).trans (keep_cell hbw q0 k0_4), (cell_set6 _ _ _ _ _ _ _ _ (by omega)).trans (keep_cell hbw q0 k0_5), (cell_set6 _ _ _ _ _ _ _ _ (by omega)).trans (keep_cell hbw q1 k1_0), (cell_set6 _ _ _ _ _ _ _ _ (by omega)).trans (keep_cell hbw q1 k1_1), (cell_set6 _ _ _ _ _ _ _ _ (by omega)).trans (keep_cell hbw q1 k1_2), (cell_set6 _ _ _ _ _ _ _ _ (by omega)).trans (keep_cell hbw q1 k1_3), (cell_set6 _ _ _ _ _ _ _ _ (by omega)).trans (keep_cell hbw q1 k1_4), (cell_set6 _ _ _ _ _ _ _ _ (by omega)).trans (keep_cell hbw q1 k1_5)⟩ | with_reducible exact (unhide KEEP) _ (by (repeat (first | with_reducible exact Below.refl _ _ | with_reducible assumption | with_reducible refine Below.drew ?_ | with_reducible refine below_alloc ?_ _)))) (first | (go_at_call_of 58 (Value.agg #[.int .i64 s3, .bool neg3, .slice A3 l3.length c3, .int .i64 s4, .bool neg4, .slice A4 l4.length c4]); refine ((unhide HG1) s3 neg3 A3 c3 l3 s4 neg4 A4 c4 l4 _ (below_step' hw0 (by (repeat (first | with_reducible exact Below.refl _ _ | with_reducible assumption | with_reducible refine Below.drew ?_ | with_reducible refine below_alloc ?_ _)))) (IntF.below (unhide H3) (by (repeat (first | with_reducible exact Below.refl _ _ | with_reducible assumption | with_reducible refine Below.drew ?_ | with_reducible refine below_alloc ?_ _)))) (IntF.below (unhide H4) (by (repeat (first | with_reducible exact Below.refl _ _ | with_reducible assumption | with_reducible refine Below.drew ?_ | with_reducible refine below_alloc ?_ _))))).mono ?_; rintro e w' ⟨s5, neg5, A5, c5, l5, s6, neg6, A6, c6, l6, rfl, hf5, hf6, hb5⟩; have hbw := below_step (w := W0) (by (repeat (first | with_reducible exact Below.refl _ _ | with_reducible assumption | with_reducible refine Below.drew ?_ | with_reducible refine below_alloc ?_ _))) hb5; have hsw := hbw.size; obtain ⟨hc, hfz⟩ := bcell hbw) | (go_at_call_of 62 (Value.agg #[.int .i64 s1, .bool neg1, .slice A1 l1.length c1, .int .i64 s2, .bool neg2, .slice A2 l2.length c2]); refine ((unhide HG2) s1 neg1 A1 c1 l1 s2 neg2 A2 c2 l2 s5 neg5 A5 c5 l5 s6 neg6 A6 c6 l6 _ (below_step' hw0 (by (repeat (first | with_reducible exact Below.refl _ _ | with_reducible assumption | with_reducible refine Below.drew ?_ | with_reducible refine below_alloc ?_ _)))) (IntF.below (unhide H1) (by (repeat (first | with_reducible exact Below.refl _ _ | with_reducible assumption | with_reducible refine Below.drew ?_ | with_reducible refine below_alloc ?_ _)))) (IntF.below (unhide H2) (by (repeat (first | with_reducible exact Below.refl _ _ | with_reducible assumption | with_reducible refine Below.drew ?_ | with_reducible refine below_alloc ?_ _)))) (IntF.below hf5 (by (repeat (first | with_reducible exact Below.refl _ _ | with_reducible assumption | with_reducible refine Below.drew ?_ | with_reducible refine below_alloc ?_ _)))) (IntF.below hf6 (by (repeat (first | with_reducible exact Below.refl _ _ | with_reducible assumption | with_reducible refine Below.drew ?_ | with_reducible refine below_alloc ?_ _))))).mono ?_; rintro e w' ⟨s7, neg7, A7, c7, l7, s8, neg8, A8, c8, l8, rfl, hf7, hf8, hb7⟩; have hbw := below_step (w := W0) (by (repeat (first | with_reducible exact Below.refl _ _ | with_reducible assumption | with_reducible refine Below.drew ?_ | with_reducible refine below_alloc ?_ _))) hb7; have hsw := hbw.size; obtain ⟨hc, hfz⟩ := bcell hbw))
  have hblk : w'.heap[w.heap.size + 1 + 1]? = some (.cells #[.int .i64 0, .bool false, .slice none 0 0, .int .i64 0, .bool false, .slice none 0 0] 60 (0, 0)) := (hbw.block _ q2).trans NR.out
  have HBLK := Lib.hid hblk
  have hb9 : Below w.heap.size w w' := below_step' hw0 hbw
  clear hblk
  go_wp2_with fail
  exact bodyPost_ret (v := (Value.agg #[.int .i64 s7, .bool neg7, .slice A7 l7.length c7, .int .i64 s8, .bool neg8, .slice A8 l8.length c8])) (by simp [results, Tryd.results50, go_sem, hc, k2_0, k2_1, k2_2, k2_3, k2_4, k2_5, q2]) rfl
    ⟨s7, neg7, A7, c7, l7, s8, neg8, A8, c8, l8, rfl, (hf7).upto HBLK.out (noWord6 _ _ _ _ _ _ _ _ _ _) (set6_grown _ _ _ _ _ _ _ _), (hf8).upto HBLK.out (noWord6 _ _ _ _ _ _ _ _ _ _) (set6_grown _ _ _ _ _ _ _ _), hb9.grown (set6_grown _ _ _ _ _ _ _ _) hb9.size (fun k hk => by injection hk with hk; omega)⟩
set_option maxRecDepth 100000 in
set_option maxHeartbeats 16000000 in
theorem opq_quo_of {w : World} {x y v q : Rat} (g1 : OpQ1 w 63 y v) (g2 : OpQ2 w 65 x v q) : OpQ2 w 66 x y q := by
  intro s1 neg1 A1 c1 l1 s2 neg2 A2 c2 l2 s3 neg3 A3 c3 l3 s4 neg4 A4 c4 l4 W hW f1 f2 f3 f4
  replace g1 := g1.mono hW
  replace g2 := g2.mono hW
  clear hW w
  revert W
  intro w f1 f2 f3 f4 g1 g2
  have H1 := hide f1
  have H2 := hide f2
  have H3 := hide f3
  have H4 := hide f4
  clear f1 f2 f3 f4
  have HG1 := hide g1
  have HG2 := hide g2
  clear g1 g2
  go_enter Tryd.func66, Tryd.ntmps66
  go_upto_region 1 with fail
  obtain ⟨n0, n1, n2, hsz, hw0⟩ := three_new w (.cells #[.int .i64 s1, .bool neg1, .slice A1 l1.length c1, .int .i64 s2, .bool neg2, .slice A2 l2.length c2] 60) (.cells #[.int .i64 s3, .bool neg3, .slice A3 l3.length c3, .int .i64 s4, .bool neg4, .slice A4 l4.length c4] 60) (.cells #[.int .i64 0, .bool false, .slice none 0 0, .int .i64 0, .bool false, .slice none 0 0] 60)
  generalize (((w.alloc (.cells #[.int .i64 s1, .bool neg1, .slice A1 l1.length c1, .int .i64 s2, .bool neg2, .slice A2 l2.length c2] 60)).alloc (.cells #[.int .i64 s3, .bool neg3, .slice A3 l3.length c3, .int .i64 s4, .bool neg4, .slice A4 l4.length c4] 60)).alloc (.cells #[.int .i64 0, .bool false, .slice none 0 0, .int .i64 0, .bool false, .slice none 0 0] 60)) = W0 at *
  have k0_0 : W0.cell? ⟨w.heap.size, 0, none⟩ = some (.int .i64 s1) := cells_of n0 0
  have k0_1 : W0.cell? ⟨w.heap.size, 1, none⟩ = some (.bool neg1) := cells_of n0 1
  have k0_2 : W0.cell? ⟨w.heap.size, 2, none⟩ = some (.slice A1 l1.length c1) := cells_of n0 2
  have k0_3 : W0.cell? ⟨w.heap.size, 3, none⟩ = some (.int .i64 s2) := cells_of n0 3
  have k0_4 : W0.cell? ⟨w.heap.size, 4, none⟩ = some (.bool neg2) := cells_of n0 4
  have k0_5 : W0.cell? ⟨w.heap.size, 5, none⟩ = some (.slice A2 l2.length c2) := cells_of n0 5
  have q0 : w.heap.size < W0.heap.size := by omega
  have k1_0 : W0.cell? ⟨w.heap.size + 1, 0, none⟩ = some (.int .i64 s3) := cells_of n1 0
  have k1_1 : W0.cell? ⟨w.heap.size + 1, 1, none⟩ = some (.bool neg3) := cells_of n1 1
  have k1_2 : W0.cell? ⟨w.heap.size + 1, 2, none⟩ = some (.slice A3 l3.length c3) := cells_of n1 2
  have k1_3 : W0.cell? ⟨w.heap.size + 1, 3, none⟩ = some (.int .i64 s4) := cells_of n1 3
  have k1_4 : W0.cell? ⟨w.heap.size + 1, 4, none⟩ = some (.bool neg4) := cells_of n1 4
  have k1_5 : W0.cell? ⟨w.heap.size + 1, 5, none⟩ = some (.slice A4 l4.length c4) := cells_of n1 5
  have q1 : w.heap.size + 1 < W0.heap.size := by omega
  have k2_0 : W0.cell? ⟨w.heap.size + 1 + 1, 0, none⟩ = some (.int .i64 0) := cells_of n2 0
  have k2_1 : W0.cell? ⟨w.heap.size + 1 + 1, 1, none⟩ = some (.bool false) := cells_of n2 1
  have k2_2 : W0.cell? ⟨w.heap.size + 1 + 1, 2, none⟩ = some (.slice none 0 0) := cells_of n2 2
  have k2_3 : W0.cell? ⟨w.heap.size + 1 + 1, 3, none⟩ = some (.int .i64 0) := cells_of n2 3
  have k2_4 : W0.cell? ⟨w.heap.size + 1 + 1, 4, none⟩ = some (.bool false) := cells_of n2 4
  have k2_5 : W0.cell? ⟨w.heap.size + 1 + 1, 5, none⟩ = some (.slice none 0 0) := cells_of n2 5
  have q2 : w.heap.size + 1 + 1 < W0.heap.size := by omega
  have f2_0 := unfrozen_of n2 0
  have f2_1 := unfrozen_of n2 1
  have f2_2 := unfrozen_of n2 2
  have f2_3 := unfrozen_of n2 3
  have f2_4 := unfrozen_of n2 4
  have f2_5 := unfrozen_of n2 5
  have NR := Lib.hid n2
  clear hsz n0 n1 n2
  replace H1 := hide ((unhide H1).below hw0)
  replace H2 := hide ((unhide H2).below hw0)
  replace H3 := hide ((unhide H3).below hw0)
  replace H4 := hide ((unhide H4).below hw0)
  have KEEP := hide (show ∀ X, Below W0.heap.size W0 X → X.cell? ⟨w.heap.size, 0, none⟩ = some (.int .i64 s1) ∧ X.cell? ⟨w.heap.size, 1, none⟩ = some (.bool neg1) ∧ X.cell? ⟨w.heap.size, 2, none⟩ = some (.slice A1 l1.length c1) ∧ X.cell? ⟨w.heap.size, 3, none⟩ = some (.int .i64 s2) ∧ X.cell? ⟨w.heap.size, 4, none⟩ = some (.bool neg2) ∧ X.cell? ⟨w.heap.size, 5, none⟩ = some (.slice A2 l2.length c2) ∧ X.cell? ⟨w.heap.size + 1, 0, none⟩ = some (.int .i64 s3) ∧ X.cell? ⟨w.heap.size + 1, 1, none⟩ = some (.bool neg3) ∧ X.cell? ⟨w.heap.size + 1, 2, none⟩ = some (.slice A3 l3.length c3) ∧ X.cell? ⟨w.heap.size + 1, 3, none⟩ = some (.int .i64 s4) ∧ X.cell? ⟨w.heap.size + 1, 4, none⟩ = some (.bool neg4) ∧ X.cell? ⟨w.heap.size + 1, 5, none⟩ = some (.slice A4 l4.length c4) from fun X hB => ⟨keep_cell hB q0 k0_0, keep_cell hB q0 k0_1, keep_cell hB q0 k0_2, keep_cell hB q0 k0_3, keep_cell hB q0 k0_4, keep_cell hB q0 k0_5, keep_cell hB q1 k1_0, keep_cell hB q1 k1_1, keep_cell hB q1 k1_2, keep_cell hB q1 k1_3, keep_cell hB q1 k1_4, keep_cell hB q1 k1_5⟩)
  go_region_held3 (fun w' => w'.cell? ⟨w.heap.size, 0, none⟩ = some (.int .i64 s1) ∧ w'.cell? ⟨w.heap.size, 1, none⟩ = some (.bool neg1) ∧ w'.cell? ⟨w.heap.size, 2, none⟩ = some (.slice A1 l1.length c1) ∧ w'.cell? ⟨w.heap.size, 3, none⟩ = some (.int .i64 s2) ∧ w'.cell? ⟨w.heap.size, 4, none⟩ = some (.bool neg2) ∧ w'.cell? ⟨w.heap.size, 5, none⟩ = some (.slice A2 l2.length c2) ∧ w'.cell? ⟨w.heap.size + 1, 0, none⟩ = some (.int .i64 s3) ∧ w'.cell? ⟨w.heap.size + 1, 1, none⟩ = some (.bool neg3) ∧ w'.cell? ⟨w.heap.size + 1, 2, none⟩ = some (.slice A3 l3.length c3) ∧ w'.cell? ⟨w.heap.size + 1, 3, none⟩ = some (.int .i64 s4) ∧ w'.cell? ⟨w.heap.size + 1, 4, none⟩ = some (.bool neg4) ∧ w'.cell? ⟨w.heap.size + 1, 5, none⟩ = some (.slice A4 l4.length c4)) (first | with_reducible exact ⟨(cell_set6 _ _ _ _ _ _ _ _ (by omega)).trans (keep_cell hbw q0 k0_0), (cell_set6 _ _ _ _ _ _ _ _ (by omega)).trans (keep_cell hbw q0 k0_1), (cell_set6 _ _ _ _ _ _ _ _ (by omega)).trans (keep_cell hbw q0 k0_2), (cell_set6 _ _ _ _ _ _ _ _ (by omega)).trans (keep_cell hbw q0 k0_3), (cell_set6 _ _ _ _ _ _ _ _ (by omega)).trans (keep_cell hbw q0 k0_4), (cell_set6 _ _ _ _ _ _ _ _ (by omega)).trans (keep_cell hbw q0 k0_5), (cell_set6 _ _ _ _ _ _ _ _ (by omega)).trans (keep_cell hbw q1 k1_0), (cell_set6 _ _ _ _ _ _ _ _ (by omega)).trans (keep_cell hbw q1 k1_1), (cell_set6 _ _ _ _ _ _ _ _ (by omega)).trans (keep_cell hbw q1 k1_2), (cell_set6 _ _ _ _ _ _ _ _ (by omega)).trans (keep_cell hbw q1 k1_3), (cell_set6 _ _ _ _ _ _ _ _ (by omega)).trans (keep_cell hbw q1 k1_4), (cell_set6 _ _ _ _ _ _ _ _ (by omega)).trans (keep_cell hbw q1 k1_5)⟩ | with_reducible exact (unhide KEEP) _ (by (repeat (first | with_reducible exact Below.refl _ _ | with_reducible assumption | with_reducible refine Below.drew ?_ | with_reducible refine below_alloc ?_ _)))) (first | (go_at_call_of 63 (Value.agg #[.int .i64 s3, .bool neg3, .slice A3 l3.length c3, .int .i64 s4, .bool neg4, .slice A4 l4.length c4]); refine ((unhide HG1) s3 neg3 A3 c3 l3 s4 neg4 A4 c4 l4 _ (below_step' hw0 (by (repeat (first | with_reducible exact Below.refl _ _ | with_reducible assumption | with_reducible refine Below.drew ?_ | with_reducible refine below_alloc ?_ _)))) (IntF.below (unhide H3) (by (repeat (first | with_reducible exact Below.refl _ _ | with_reducible assumption | with_reducible refine Below.drew ?_ | with_reducible refine below_alloc ?_ _)))) (IntF.below (unhide H4) (by (repeat (first | with_reducible exact Below.refl _ _ | with_reducible assumption | with_reducible refine Below.drew ?_ | with_reducible refine below_alloc ?_ _))))).mono ?_; rintro e w' ⟨s5, neg5, A5, c5, l5, s6, neg6, A6, c6, l6, rfl, hf5, hf6, hb5⟩; have hbw := below_step (w := W0) (by (repeat (first | with_reducible exact Below.refl _ _ | with_reducible assumption | with_reducible refine Below.drew ?_ | with_reducible refine below_alloc ?_ _))) hb5; have hsw := hbw.size; obtain ⟨hc, hfz⟩ := bcell hbw) | (go_at_call_of 65 (Value.agg #[.int .i64 s1, .bool neg1, .slice A1 l1.length c1, .int .i64 s2, .bool neg2, .slice A2 l2.length c2]); refine ((unhide HG2) s1 neg1 A1 c1 l1 s2 neg2 A2 c2 l2 s5 neg5 A5 c5 l5 s6 neg6 A6 c6 l6 _ (below_step' hw0 (by (repeat (first | with_reducible exact Below.refl _ _ | with_reducible assumption | with_reducible refine Below.drew ?_ | with_reducible refine below_alloc ?_ _)))) (IntF.below (unhide H1) (by (repeat (first | with_reducible exact Below.refl _ _ | with_reducible assumption | with_reducible refine Below.drew ?_ | with_reducible refine below_alloc ?_ _)))) (IntF.below (unhide H2) (by (repeat (first | with_reducible exact Below.refl _ _ | with_reducible assumption | with_reducible refine Below.drew ?_ | with_reducible refine below_alloc ?_ _)))) (IntF.below hf5 (by (repeat (first | with_reducible exact Below.refl _ _ | with_reducible assumption | with_reducible refine Below.drew ?_ | with_reducible refine below_alloc ?_ _)))) (IntF.below hf6 (by (repeat (first | with_reducible exact Below.refl _ _ | with_reducible assumption | with_reducible refine Below.drew ?_ | with_reducible refine below_alloc ?_ _))))).mono ?_; rintro e w' ⟨s7, neg7, A7, c7, l7, s8, neg8, A8, c8, l8, rfl, hf7, hf8, hb7⟩; have hbw := below_step (w := W0) (by (repeat (first | with_reducible exact Below.refl _ _ | with_reducible assumption | with_reducible refine Below.drew ?_ | with_reducible refine below_alloc ?_ _))) hb7; have hsw := hbw.size; obtain ⟨hc, hfz⟩ := bcell hbw))
  have hblk : w'.heap[w.heap.size + 1 + 1]? = some (.cells #[.int .i64 0, .bool false, .slice none 0 0, .int .i64 0, .bool false, .slice none 0 0] 60 (0, 0)) := (hbw.block _ q2).trans NR.out
  have HBLK := Lib.hid hblk
  have hb9 : Below w.heap.size w w' := below_step' hw0 hbw
  clear hblk
  go_wp2_with fail
  exact bodyPost_ret (v := (Value.agg #[.int .i64 s7, .bool neg7, .slice A7 l7.length c7, .int .i64 s8, .bool neg8, .slice A8 l8.length c8])) (by simp [results, Tryd.results66, go_sem, hc, k2_0, k2_1, k2_2, k2_3, k2_4, k2_5, q2]) rfl
    ⟨s7, neg7, A7, c7, l7, s8, neg8, A8, c8, l8, rfl, (hf7).upto HBLK.out (noWord6 _ _ _ _ _ _ _ _ _ _) (set6_grown _ _ _ _ _ _ _ _), (hf8).upto HBLK.out (noWord6 _ _ _ _ _ _ _ _ _ _) (set6_grown _ _ _ _ _ _ _ _), hb9.grown (set6_grown _ _ _ _ _ _ _ _) hb9.size (fun k hk => by injection hk with hk; omega)⟩
theorem opq_sub {w : World} {K : Nat} (hT : Tab w) (x y : Rat) (hx : SzQ K x) (hy : SzQ K y) (hK : K + K + 1 ≤ lim) : OpQ2 w 50 x y (x - y) ∧ SzQ (K + K + 1) (x - y) := by
  obtain ⟨a, b⟩ := opq_add hT x (-y) hx hy.neg hK
  rw [Rat.sub_eq_add_neg]
  exact ⟨opq_sub_of (opq_neg w y) a, b⟩
theorem opq_quo {w : World} {K : Nat} (hT : Tab w) (x y : Rat) (hx : SzQ K x) (hy : SzQ K y) (hK : K + K + 1 ≤ lim) (h0 : y.num ≠ 0) : OpQ2 w 66 x y (x / y) ∧ SzQ (K + K) (x / y) := by
  obtain ⟨a, b⟩ := opq_mul hT x (y⁻¹) hx (hy.inv h0) hK
  rw [Rat.div_def]
  exact ⟨opq_quo_of (opq_inv w y h0) a, b⟩

end Go.Proofs.YtaaccgjopcgbfaaDoor
/- Which numbers there are: the program's own check. -/
namespace Go.Proofs.YtaaccgjopcgbfaaDoor
open Go.RowKit

/-- What the check tells. -/
def valE (n d : Int) : Int := if Wd.okR n d then 0 else 1

set_option maxRecDepth 100000 in
set_option maxHeartbeats 2000000 in
theorem val_bad1 (n d : Int) (h1 : d < 1) (w : World) :
    Calls Tryd.prog 11 #[.agg #[.int .i64 n, .int .i64 d]] w fun e w' => e = .returned (.int .i64 1) ∧ Below w.heap.size w w' := by
  have d1 : decide (d < 1) = true := decide_eq_true (by omega)
  clear h1
  go_enter Tryd.func11, Tryd.ntmps11
  go_wp2
  go_ret
  exact ⟨rfl, (Below.refl _ _).alloc (Nat.le_refl _) _⟩
set_option maxRecDepth 100000 in
set_option maxHeartbeats 2000000 in
theorem val_bad2 (n d : Int) (h1 : ¬ d < 1) (h2 : 1000000000000 < d) (w : World) :
    Calls Tryd.prog 11 #[.agg #[.int .i64 n, .int .i64 d]] w fun e w' => e = .returned (.int .i64 1) ∧ Below w.heap.size w w' := by
  have d1 : decide (d < 1) = false := decide_eq_false (by omega)
  have d2 : decide (1000000000000 < d) = true := decide_eq_true (by omega)
  clear h1 h2
  go_enter Tryd.func11, Tryd.ntmps11
  go_wp2
  go_ret
  exact ⟨rfl, (Below.refl _ _).alloc (Nat.le_refl _) _⟩
set_option maxRecDepth 100000 in
set_option maxHeartbeats 2000000 in
theorem val_bad3 (n d : Int) (h1 : ¬ d < 1) (h2 : ¬ 1000000000000 < d) (h3 : n < -1000000000000) (w : World) :
    Calls Tryd.prog 11 #[.agg #[.int .i64 n, .int .i64 d]] w fun e w' => e = .returned (.int .i64 1) ∧ Below w.heap.size w w' := by
  have d1 : decide (d < 1) = false := decide_eq_false (by omega)
  have d2 : decide (1000000000000 < d) = false := decide_eq_false (by omega)
  have d3 : decide (n < -1000000000000) = true := decide_eq_true (by omega)
  clear h1 h2 h3
  go_enter Tryd.func11, Tryd.ntmps11
  go_wp2
  go_ret
  exact ⟨rfl, (Below.refl _ _).alloc (Nat.le_refl _) _⟩
set_option maxRecDepth 100000 in
set_option maxHeartbeats 2000000 in
theorem val_bad4 (n d : Int) (h1 : ¬ d < 1) (h2 : ¬ 1000000000000 < d) (h3 : ¬ n < -1000000000000) (h4 : 1000000000000 < n) (w : World) :
    Calls Tryd.prog 11 #[.agg #[.int .i64 n, .int .i64 d]] w fun e w' => e = .returned (.int .i64 1) ∧ Below w.heap.size w w' := by
  have d1 : decide (d < 1) = false := decide_eq_false (by omega)
  have d2 : decide (1000000000000 < d) = false := decide_eq_false (by omega)
  have d3 : decide (n < -1000000000000) = false := decide_eq_false (by omega)
  have d4 : decide (1000000000000 < n) = true := decide_eq_true (by omega)
  clear h1 h2 h3 h4
  go_enter Tryd.func11, Tryd.ntmps11
  go_wp2
  go_ret
  exact ⟨rfl, (Below.refl _ _).alloc (Nat.le_refl _) _⟩
set_option maxRecDepth 100000 in
set_option maxHeartbeats 2000000 in
theorem val_ok (n d : Int) (h1 : ¬ d < 1) (h2 : ¬ 1000000000000 < d) (h3 : ¬ n < -1000000000000) (h4 : ¬ 1000000000000 < n) (h5 : n.natAbs.gcd d.natAbs = 1) (w : World) (hT : Tab w) :
    Calls Tryd.prog 11 #[.agg #[.int .i64 n, .int .i64 d]] w fun e w' => e = .returned (.int .i64 0) ∧ Below w.heap.size w w' := by
  have d1 : decide (d < 1) = false := decide_eq_false (by omega)
  have d2 : decide (1000000000000 < d) = false := decide_eq_false (by omega)
  have d3 : decide (n < -1000000000000) = false := decide_eq_false (by omega)
  have d4 : decide (1000000000000 < n) = false := decide_eq_false (by omega)
  have e1 : wrap64 (-n) = -n := IntWalk.wrap64_in _ (by omega)
  have e1' : IntKind.i64.wrap (-n) = -n := IntWalk.i64_in _ (by omega)
  obtain ⟨a, ha⟩ : ∃ a, a = n.natAbs := ⟨_, rfl⟩
  obtain ⟨b, hb⟩ : ∃ b, b = d.natAbs := ⟨_, rfl⟩
  have e2 : max n (-n) = ((a : Nat) : Int) := by omega
  have e3 : IntKind.u64.wrap ((a : Nat) : Int) = ((a : Nat) : Int) := by rw [IntKind.wrap_u64]; omega
  have e4 : IntKind.u64.wrap d = ((b : Nat) : Int) := by rw [IntKind.wrap_u64]; omega
  rw [← ha, ← hb] at h5
  have HG := hide (fun W (hW : Tab W) => gcd64_any a b (by rw [B64_eq]; omega) (by rw [B64_eq]; omega) W hW)
  have HT := hide hT
  obtain ⟨g, hg⟩ : ∃ g, g = a.gcd b := ⟨_, rfl⟩
  rw [← hg] at h5 HG
  have d5 : ((g : Int) == 1) = true := beq_iff_eq.2 (by omega)
  have d6 : ((g : Int) != 1) = false := by simp [bne, d5]
  clear h1 h2 h3 h4 h5 ha hb hg hT
  go_enter Tryd.func11, Tryd.ntmps11
  go_wp2_with fail
  refine ((unhide HG) _ ((unhide HT).alloc _)).mono ?_
  rintro e w' ⟨rfl, rfl⟩
  go_wp2
  go_ret
  exact ⟨rfl, (Below.refl _ _).alloc (Nat.le_refl _) _⟩
set_option maxRecDepth 100000 in
set_option maxHeartbeats 2000000 in
theorem val_bad5 (n d : Int) (h1 : ¬ d < 1) (h2 : ¬ 1000000000000 < d) (h3 : ¬ n < -1000000000000) (h4 : ¬ 1000000000000 < n) (h5 : ¬ n.natAbs.gcd d.natAbs = 1) (w : World) (hT : Tab w) :
    Calls Tryd.prog 11 #[.agg #[.int .i64 n, .int .i64 d]] w fun e w' => e = .returned (.int .i64 1) ∧ Below w.heap.size w w' := by
  have d1 : decide (d < 1) = false := decide_eq_false (by omega)
  have d2 : decide (1000000000000 < d) = false := decide_eq_false (by omega)
  have d3 : decide (n < -1000000000000) = false := decide_eq_false (by omega)
  have d4 : decide (1000000000000 < n) = false := decide_eq_false (by omega)
  have e1 : wrap64 (-n) = -n := IntWalk.wrap64_in _ (by omega)
  have e1' : IntKind.i64.wrap (-n) = -n := IntWalk.i64_in _ (by omega)
  obtain ⟨a, ha⟩ : ∃ a, a = n.natAbs := ⟨_, rfl⟩
  obtain ⟨b, hb⟩ : ∃ b, b = d.natAbs := ⟨_, rfl⟩
  have e2 : max n (-n) = ((a : Nat) : Int) := by omega
  have e3 : IntKind.u64.wrap ((a : Nat) : Int) = ((a : Nat) : Int) := by rw [IntKind.wrap_u64]; omega
  have e4 : IntKind.u64.wrap d = ((b : Nat) : Int) := by rw [IntKind.wrap_u64]; omega
  rw [← ha, ← hb] at h5
  have HG := hide (fun W (hW : Tab W) => gcd64_any a b (by rw [B64_eq]; omega) (by rw [B64_eq]; omega) W hW)
  have HT := hide hT
  obtain ⟨g, hg⟩ : ∃ g, g = a.gcd b := ⟨_, rfl⟩
  rw [← hg] at h5 HG
  have d5 : ((g : Int) == 1) = false := beq_eq_false_iff_ne.2 (by omega)
  have d6 : ((g : Int) != 1) = true := by simp [bne, d5]
  clear h1 h2 h3 h4 h5 ha hb hg hT
  go_enter Tryd.func11, Tryd.ntmps11
  go_wp2_with fail
  refine ((unhide HG) _ ((unhide HT).alloc _)).mono ?_
  rintro e w' ⟨rfl, rfl⟩
  go_wp2
  go_ret
  exact ⟨rfl, (Below.refl _ _).alloc (Nat.le_refl _) _⟩
theorem val_any (n d : Int) (w : World) (hT : Tab w) :
    Calls Tryd.prog 11 #[.agg #[.int .i64 n, .int .i64 d]] w fun e w' => e = .returned (.int .i64 (valE n d)) ∧ Below w.heap.size w w' := by
  unfold valE
  by_cases h1 : d < 1
  · rw [if_neg (by unfold Wd.okR; omega)]; exact val_bad1 n d h1 w
  by_cases h2 : 1000000000000 < d
  · rw [if_neg (by unfold Wd.okR; omega)]; exact val_bad2 n d h1 h2 w
  by_cases h3 : n < -1000000000000
  · rw [if_neg (by unfold Wd.okR; omega)]; exact val_bad3 n d h1 h2 h3 w
  by_cases h4 : 1000000000000 < n
  · rw [if_neg (by unfold Wd.okR; omega)]; exact val_bad4 n d h1 h2 h3 h4 w
  by_cases h5 : n.natAbs.gcd d.natAbs = 1
  · rw [if_pos (by unfold Wd.okR; omega)]; exact val_ok n d h1 h2 h3 h4 h5 w hT
  · rw [if_neg (by unfold Wd.okR; omega)]; exact val_bad5 n d h1 h2 h3 h4 h5 w hT
end Go.Proofs.YtaaccgjopcgbfaaDoor
/- The reference: which numbers there are. -/
namespace Go.Proofs.YtaaccgjopcgbfaaDoor
open Go.RowKit

set_option maxRecDepth 100000 in
set_option maxHeartbeats 1000000 in
theorem tIs_any (n d : Int) (w : World) :
    Calls Tryd.prog 39 #[.agg #[.int .i64 n, .int .i64 d]] w fun e w' => e = .returned (.bool (decide (Wd.okR n d))) ∧ Below w.heap.size w w' := by
  have hba : Below w.heap.size w (w.alloc (.cells #[.int .i64 n, .int .i64 d] 23)) := (Below.refl _ _).alloc (Nat.le_refl _) _
  have HB := hide hba
  by_cases hr : 1 ≤ d ∧ d ≤ 1000000000000 ∧ -1000000000000 ≤ n ∧ n ≤ 1000000000000
  · obtain ⟨r1, r2, r3, r4⟩ := hr
    have hok : decide (n.natAbs.gcd d.natAbs = 1) = decide (Wd.okR n d) := decide_eq_decide.2 (by
      unfold Wd.okR
      constructor
      · intro h; refine ⟨?_, ?_, ?_, ?_, ?_⟩ <;> first | omega | exact h
      · rintro ⟨_, _, _, _, h⟩; exact h)
    rw [← hok]
    obtain ⟨rb, hrb⟩ : ∃ b, b = decide (n.natAbs.gcd d.natAbs = 1) := ⟨_, rfl⟩
    rw [← hrb]
    have HRB := Lib.hid hrb
    clear hok hba hrb
    have d1 : decide (d < 1) = false := decide_eq_false (by omega)
    have d2 : decide (1000000000000 < d) = false := decide_eq_false (by omega)
    have d3 : decide (n < -1000000000000) = false := decide_eq_false (by omega)
    have d4 : decide (1000000000000 < n) = false := decide_eq_false (by omega)
    have en : IntKind.i64.wrap (-n) = -n := IntWalk.i64_in _ (by omega)
    obtain ⟨a, ha⟩ : ∃ a, a = n.natAbs := ⟨_, rfl⟩
    obtain ⟨b, hb⟩ : ∃ b, b = d.natAbs := ⟨_, rfl⟩
    go_enter Tryd.func39, Tryd.ntmps39
    go_wp2_with fail
    all_goals first | omega | skip
    all_goals go_quiet (fail)
    all_goals go_wp2_with fail
    all_goals
      have HRR := hide (And.intro r1 (And.intro r2 (And.intro r3 r4)))
      go_loopw [3, 4] (fun av bv wr => ∃ (a b : Nat), av = .int .i64 ((a : Nat) : Int) ∧ bv = .int .i64 ((b : Nat) : Int) ∧ a ≤ 1000000000000 ∧ b ≤ 1000000000000 ∧ Hid (a.gcd b = n.natAbs.gcd d.natAbs) ∧ Below w.heap.size w wr) (fun _ bv _ => (intOf bv).toNat)
      case atStart =>
        refine ⟨n.natAbs, d.natAbs, ?_, ?_, by omega, by omega, rfl, by first | exact unhide HB | exact (unhide HB).drew | exact belowN (unhide HB) _⟩
        · show Value.int .i64 _ = Value.int .i64 _
          congr 1; omega
        · show Value.int .i64 _ = Value.int .i64 _
          congr 1; omega
      case round =>
        obtain ⟨a, b, rfl, rfl, ha, hb, HG, hbl⟩ := hrel
        by_cases h0 : b = 0
        · subst h0
          have hg := HG.out
          rw [Nat.gcd_zero_right] at hg
          have hres : ((a : Int) == 1) = rb := by
            rw [HRB.out]
            by_cases h : a = 1
            · exact (show ((a : Int) == 1) = true by rw [h]; rfl).trans (decide_eq_true (hg.symm.trans h)).symm
            · exact (show ((a : Int) == 1) = false from beq_eq_false_iff_ne.2 (by omega)).trans (decide_eq_false (fun e => h (hg.trans e))).symm
          have HRES := Lib.hid hres
          clear hg hres
          go_wp2_with fail
          all_goals first | omega | skip
          go_ret
          exact ⟨by rw [← HRES.out]; rfl, hbl⟩
        · have dp : decide ((0 : Int) < (b : Int)) = true := decide_eq_true (by omega)
          have dp' : decide (0 < b) = true := decide_eq_true (by omega)
          have e1 : ((a : Int)).tmod (b : Int) = ((a % b : Nat) : Int) := (Int.ofNat_tmod _ _).symm
          have e2 : ((b : Int) == 0) = false := beq_eq_false_iff_ne.2 (by omega)
          have e3 : ¬ ((b : Int) = 0) := by omega
          have hm := Nat.mod_lt a (Nat.pos_of_ne_zero h0)
          obtain ⟨r, hr⟩ : ∃ r, r = a % b := ⟨_, rfl⟩
          rw [← hr] at e1 hm
          have e4 : IntKind.i64.wrap (r : Int) = (r : Int) := IntWalk.i64_in _ (by omega)
          have hgg : b.gcd r = n.natAbs.gcd d.natAbs := by
            rw [← HG.out, hr, Nat.gcd_comm b (a % b), ← Nat.gcd_rec b a, Nat.gcd_comm]
          have HGG := Lib.hid hgg
          clear hgg hr HG
          go_wp2_with fail
          all_goals first | omega | skip
          go_quiet (fail)
          go_wp2_with fail
          go_roundw
          case rel => exact ⟨b, r, by go_num, by go_num, by omega, by omega, HGG, by first | exact hbl | exact hbl.drew | exact belowN hbl _⟩
          case measure => simp [intOf] <;> omega
  · have hok : decide (Wd.okR n d) = false := decide_eq_false (by
      unfold Wd.okR
      rintro ⟨a1, a2, a3, a4, _⟩
      exact hr ⟨by omega, by omega, by omega, by omega⟩)
    rw [hok]
    clear hok hba
    go_enter Tryd.func39, Tryd.ntmps39
    go_wp2_with fail
    all_goals first | omega | skip
    all_goals
      go_ret
      exact ⟨rfl, unhide HB⟩

set_option maxRecDepth 100000 in
set_option maxHeartbeats 1000000 in
theorem tVal_any (n d : Int) (w : World) :
    Calls Tryd.prog 12 #[.agg #[.int .i64 n, .int .i64 d]] w fun e w' => e = .returned (.int .i64 (valE n d)) ∧ Below w.heap.size w w' := by
  have HI := hide (fun W => tIs_any n d W)
  obtain ⟨b, hb⟩ : ∃ b, b = decide (Wd.okR n d) := ⟨_, rfl⟩
  rw [← hb] at HI
  have hv : valE n d = if b = true then 0 else 1 := by
    unfold valE
    by_cases h : Wd.okR n d
    · rw [if_pos h, hb, if_pos (decide_eq_true h)]
    · rw [if_neg h, hb, if_neg (by rw [decide_eq_false h]; exact Bool.false_ne_true)]
  rw [hv]
  clear hb hv
  cases b
  all_goals
    go_enter Tryd.func12, Tryd.ntmps12
    go_wp2_with fail
    refine ((unhide HI) _).mono ?_
    rintro e w' ⟨rfl, hb⟩
    go_wp2_with fail
    all_goals first | go_ret | skip
    all_goals exact ⟨rfl, below_step' ((Below.refl _ _).alloc (Nat.le_refl _) _) hb⟩
end Go.Proofs.YtaaccgjopcgbfaaDoor
/- The first error of two numbers. -/
namespace Go.Proofs.YtaaccgjopcgbfaaDoor
open Go.RowKit

/-- What is told of two numbers. -/
def fstE (n1 d1 n2 d2 : Int) : Int := if Wd.okR n1 d1 ∧ Wd.okR n2 d2 then 0 else 1

set_option maxRecDepth 100000 in
set_option maxHeartbeats 2000000 in
theorem first_any (n1 d1 n2 d2 : Int) (g : Nat) (w : World) (hT : Tab w) (hg : g < w.heap.size)
    (k0 : w.cell? ⟨g, 0, none⟩ = some (.int .i64 n1)) (k1 : w.cell? ⟨g, 1, none⟩ = some (.int .i64 d1)) (k2 : w.cell? ⟨g, 2, none⟩ = some (.int .i64 n2)) (k3 : w.cell? ⟨g, 3, none⟩ = some (.int .i64 d2)) :
    Calls Tryd.prog 34 #[.slice (some ⟨g, 0, none⟩) 2 2] w fun e w' => e = .returned (.int .i64 (fstE n1 d1 n2 d2)) ∧ Below w.heap.size w w' := by
  have HT := hide hT
  have HK := hide (And.intro k0 (And.intro k1 (And.intro k2 k3)))
  obtain ⟨r, hr⟩ : ∃ r, r = fstE n1 d1 n2 d2 := ⟨_, rfl⟩
  rw [← hr]
  have HR := Lib.hid hr
  have HV1 := hide (fun W (hW : Tab W) => val_any n1 d1 W hW)
  have HV2 := hide (fun W (hW : Tab W) => val_any n2 d2 W hW)
  clear hT hr k0 k1 k2 k3
  go_enter Tryd.func34, Tryd.ntmps34
  go_wp2
  go_loopw [8] (fun iv wr => ∃ i : Nat, i ≤ 2 ∧ iv = .int .i64 ((i : Nat) : Int) ∧ Hid (0 < i → Wd.okR n1 d1) ∧ Hid (1 < i → Wd.okR n2 d2) ∧ Below w.heap.size w wr) (fun iv _ => 2 - (intOf iv).toNat)
  case atStart => exact ⟨0, by omega, rfl, fun h => by omega, fun h => by omega, Below.refl _ _⟩
  case round =>
    obtain ⟨i, hi, rfl, h1, h2, hb⟩ := hrel
    have hTr : Tab wr := (unhide HT).below hb
    have kk : ∀ o v, w.cell? ⟨g, o, none⟩ = some v → wr.cell? ⟨g, o, none⟩ = some v := fun o v hv => (hb.cell (p := ⟨g, o, none⟩) hg).trans hv
    have k0 := kk _ _ (unhide HK).1
    have k1 := kk _ _ (unhide HK).2.1
    have k2 := kk _ _ (unhide HK).2.2.1
    have k3 := kk _ _ (unhide HK).2.2.2
    have HTr := hide hTr
    clear kk hTr hg
    by_cases i2 : i = 2
    · subst i2
      have hr : r = 0 := by rw [HR.out]; unfold fstE; rw [if_pos ⟨(unhide h1) (by omega), (unhide h2) (by omega)⟩]
      subst hr
      go_wp2
      go_ret
      exact ⟨rfl, hb⟩
    by_cases i1 : i = 1
    · subst i1
      by_cases ok : Wd.okR n2 d2
      · have hv : valE n2 d2 = 0 := if_pos ok
        rw [hv] at HV2
        clear i2 hi hv
        go_wp2_with fail
        refine ((unhide HV2) _ (by first | exact (unhide HTr).alloc _ | exact ((unhide HTr).alloc _).alloc _ | exact (unhide HTr).drew.alloc _)).mono ?_
        rintro e w' ⟨rfl, hb2⟩
        have hb3 : Below w.heap.size w w' := below_step' (hb.alloc hb.size _) hb2
        go_wp2
        go_roundw
        case rel => exact ⟨2, by omega, by go_num, fun _ => (unhide h1) (by omega), fun _ => ok, hb3⟩
        case measure => simp [intOf]
      · have hv : valE n2 d2 = 1 := if_neg ok
        have hr : r = 1 := by rw [HR.out]; unfold fstE; rw [if_neg (fun h => ok h.2)]
        subst hr
        rw [hv] at HV2
        clear i2 hi hv
        go_wp2_with fail
        refine ((unhide HV2) _ (by first | exact (unhide HTr).alloc _ | exact ((unhide HTr).alloc _).alloc _ | exact (unhide HTr).drew.alloc _)).mono ?_
        rintro e w' ⟨rfl, hb2⟩
        have hb3 : Below w.heap.size w w' := below_step' (hb.alloc hb.size _) hb2
        go_wp2
        go_ret
        exact ⟨rfl, hb3⟩
    · have i0 : i = 0 := by omega
      subst i0
      by_cases ok : Wd.okR n1 d1
      · have hv : valE n1 d1 = 0 := if_pos ok
        rw [hv] at HV1
        clear i1 i2 hi hv
        go_wp2_with fail
        refine ((unhide HV1) _ (by first | exact (unhide HTr).alloc _ | exact ((unhide HTr).alloc _).alloc _ | exact (unhide HTr).drew.alloc _)).mono ?_
        rintro e w' ⟨rfl, hb2⟩
        have hb3 : Below w.heap.size w w' := below_step' (hb.alloc hb.size _) hb2
        go_wp2
        go_roundw
        case rel => exact ⟨1, by omega, by go_num, fun _ => ok, fun h => by omega, hb3⟩
        case measure => simp [intOf]
      · have hv : valE n1 d1 = 1 := if_neg ok
        have hr : r = 1 := by rw [HR.out]; unfold fstE; rw [if_neg (fun h => ok h.1)]
        subst hr
        rw [hv] at HV1
        clear i1 i2 hi hv
        go_wp2_with fail
        refine ((unhide HV1) _ (by first | exact (unhide HTr).alloc _ | exact ((unhide HTr).alloc _).alloc _ | exact (unhide HTr).drew.alloc _)).mono ?_
        rintro e w' ⟨rfl, hb2⟩
        have hb3 : Below w.heap.size w w' := below_step' (hb.alloc hb.size _) hb2
        go_wp2
        go_ret
        exact ⟨rfl, hb3⟩
end Go.Proofs.YtaaccgjopcgbfaaDoor
/- The reference: the error of two numbers. -/
namespace Go.Proofs.YtaaccgjopcgbfaaDoor
open Go.RowKit

set_option maxRecDepth 100000 in
set_option maxHeartbeats 2000000 in
theorem tAre_any (n1 d1 n2 d2 : Int) (g : Nat) (w : World) (hg : g < w.heap.size)
    (k0 : w.cell? ⟨g, 0, none⟩ = some (.int .i64 n1)) (k1 : w.cell? ⟨g, 1, none⟩ = some (.int .i64 d1)) (k2 : w.cell? ⟨g, 2, none⟩ = some (.int .i64 n2)) (k3 : w.cell? ⟨g, 3, none⟩ = some (.int .i64 d2)) :
    Calls Tryd.prog 76 #[.slice (some ⟨g, 0, none⟩) 2 2] w fun e w' => e = .returned (.bool (decide (Wd.okR n1 d1 ∧ Wd.okR n2 d2))) ∧ Below w.heap.size w w' := by
  have HK := hide (And.intro k0 (And.intro k1 (And.intro k2 k3)))
  obtain ⟨r, hr⟩ : ∃ r, r = decide (Wd.okR n1 d1 ∧ Wd.okR n2 d2) := ⟨_, rfl⟩
  rw [← hr]
  have HR := Lib.hid hr
  have HV1 := hide (fun W => tIs_any n1 d1 W)
  have HV2 := hide (fun W => tIs_any n2 d2 W)
  clear hr k0 k1 k2 k3
  go_enter Tryd.func76, Tryd.ntmps76
  go_wp2_with fail
  go_loopw [3] (fun iv wr => ∃ i : Nat, i ≤ 2 ∧ iv = .int .i64 ((i : Nat) : Int) ∧ Hid (0 < i → Wd.okR n1 d1) ∧ Hid (1 < i → Wd.okR n2 d2) ∧ Below w.heap.size w wr) (fun iv _ => 2 - (intOf iv).toNat)
  case atStart => exact ⟨0, by omega, rfl, fun h => by omega, fun h => by omega, Below.refl _ _⟩
  case round =>
    obtain ⟨i, hi, rfl, h1, h2, hb⟩ := hrel
    have kk : ∀ o v, w.cell? ⟨g, o, none⟩ = some v → wr.cell? ⟨g, o, none⟩ = some v := fun o v hv => (hb.cell (p := ⟨g, o, none⟩) hg).trans hv
    have k0 := kk _ _ (unhide HK).1
    have k1 := kk _ _ (unhide HK).2.1
    have k2 := kk _ _ (unhide HK).2.2.1
    have k3 := kk _ _ (unhide HK).2.2.2
    clear kk hg
    by_cases i2 : i = 2
    · subst i2
      have hr : r = true := by rw [HR.out]; exact decide_eq_true ⟨(unhide h1) (by omega), (unhide h2) (by omega)⟩
      subst hr
      go_wp2_with fail
      go_ret
      exact ⟨rfl, hb⟩
    by_cases i1 : i = 1
    · subst i1
      clear i2 hi
      by_cases ok : Wd.okR n2 d2
      · have hv : decide (Wd.okR n2 d2) = true := decide_eq_true ok
        rw [hv] at HV2
        clear hv
        go_wp2_with fail
        refine ((unhide HV2) _).mono ?_
        rintro e w' ⟨rfl, hb2⟩
        have hb3 : Below w.heap.size w w' := below_step' hb hb2
        go_wp2_with fail
        go_roundw
        case rel => exact ⟨2, by omega, by go_num, fun _ => (unhide h1) (by omega), fun _ => ok, hb3⟩
        case measure => simp [intOf]
      · have hv : decide (Wd.okR n2 d2) = false := decide_eq_false ok
        have hr : r = false := by rw [HR.out]; exact decide_eq_false (fun h => ok h.2)
        subst hr
        rw [hv] at HV2
        clear hv
        go_wp2_with fail
        refine ((unhide HV2) _).mono ?_
        rintro e w' ⟨rfl, hb2⟩
        have hb3 : Below w.heap.size w w' := below_step' hb hb2
        go_wp2_with fail
        go_ret
        exact ⟨rfl, hb3⟩
    · have i0 : i = 0 := by omega
      subst i0
      clear i1 i2 hi
      by_cases ok : Wd.okR n1 d1
      · have hv : decide (Wd.okR n1 d1) = true := decide_eq_true ok
        rw [hv] at HV1
        clear hv
        go_wp2_with fail
        refine ((unhide HV1) _).mono ?_
        rintro e w' ⟨rfl, hb2⟩
        have hb3 : Below w.heap.size w w' := below_step' hb hb2
        go_wp2_with fail
        go_roundw
        case rel => exact ⟨1, by omega, by go_num, fun _ => ok, fun h => by omega, hb3⟩
        case measure => simp [intOf]
      · have hv : decide (Wd.okR n1 d1) = false := decide_eq_false ok
        have hr : r = false := by rw [HR.out]; exact decide_eq_false (fun h => ok h.1)
        subst hr
        rw [hv] at HV1
        clear hv
        go_wp2_with fail
        refine ((unhide HV1) _).mono ?_
        rintro e w' ⟨rfl, hb2⟩
        have hb3 : Below w.heap.size w w' := below_step' hb hb2
        go_wp2_with fail
        go_ret
        exact ⟨rfl, hb3⟩

set_option maxRecDepth 100000 in
set_option maxHeartbeats 2000000 in
theorem tAll_any (n1 d1 n2 d2 : Int) (g : Nat) (w : World) (hg : g < w.heap.size)
    (k0 : w.cell? ⟨g, 0, none⟩ = some (.int .i64 n1)) (k1 : w.cell? ⟨g, 1, none⟩ = some (.int .i64 d1)) (k2 : w.cell? ⟨g, 2, none⟩ = some (.int .i64 n2)) (k3 : w.cell? ⟨g, 3, none⟩ = some (.int .i64 d2)) :
    Calls Tryd.prog 37 #[.slice (some ⟨g, 0, none⟩) 2 2] w fun e w' => e = .returned (.int .i64 (fstE n1 d1 n2 d2)) ∧ Below w.heap.size w w' := by
  have HA := hide (tAre_any n1 d1 n2 d2 g w hg k0 k1 k2 k3)
  by_cases ok : Wd.okR n1 d1 ∧ Wd.okR n2 d2
  · rw [decide_eq_true ok] at HA
    unfold fstE
    rw [if_pos ok]
    clear ok k0 k1 k2 k3 hg
    go_enter Tryd.func37, Tryd.ntmps37
    go_wp2_with fail
    refine (unhide HA).mono ?_
    rintro e w' ⟨rfl, hb2⟩
    go_wp2_with fail
    all_goals first | go_ret | skip
    exact ⟨rfl, hb2⟩
  · rw [decide_eq_false ok] at HA
    unfold fstE
    rw [if_neg ok]
    clear ok k0 k1 k2 k3 hg
    go_enter Tryd.func37, Tryd.ntmps37
    go_wp2_with fail
    refine (unhide HA).mono ?_
    rintro e w' ⟨rfl, hb2⟩
    go_wp2_with fail
    all_goals first | go_ret | skip
    exact ⟨rfl, hb2⟩
end Go.Proofs.YtaaccgjopcgbfaaDoor
/- A number as a quotient. -/
namespace Go.Proofs.YtaaccgjopcgbfaaDoor
open Go.RowKit

set_option maxRecDepth 100000 in
set_option maxHeartbeats 8000000 in
theorem rof_any (n d : Int) (w : World) (b1 : -9223372036854775808 ≤ n) (b2 : n ≤ 9223372036854775807) (b3 : -9223372036854775808 ≤ d) (b4 : d ≤ 9223372036854775807) :
    Calls Tryd.prog 35 #[(.agg #[.int .i64 n, .int .i64 d])] w fun e w' => PairR w n d e w' := by
  have HN1 := hide (fun W => newInt_any n b1 b2 W)
  have HN2 := hide (fun W => newInt_any d b3 b4 W)
  clear b1 b2 b3 b4
  go_enter Tryd.func35, Tryd.ntmps35
  go_wp2_with fail
  obtain ⟨n0, n1, hsz, hw0⟩ := two_new w (.cells #[.int .i64 n, .int .i64 d] 23) (.cells #[.int .i64 0, .bool false, .slice none 0 0, .int .i64 0, .bool false, .slice none 0 0] 60)
  generalize ((w.alloc (.cells #[.int .i64 n, .int .i64 d] 23)).alloc (.cells #[.int .i64 0, .bool false, .slice none 0 0, .int .i64 0, .bool false, .slice none 0 0] 60)) = W0 at *
  have k0_0 : W0.cell? ⟨w.heap.size, 0, none⟩ = some (.int .i64 n) := cells_of n0 0
  have k0_1 : W0.cell? ⟨w.heap.size, 1, none⟩ = some (.int .i64 d) := cells_of n0 1
  have q0 : w.heap.size < W0.heap.size := by omega
  have k1_0 : W0.cell? ⟨w.heap.size + 1, 0, none⟩ = some (.int .i64 0) := cells_of n1 0
  have k1_1 : W0.cell? ⟨w.heap.size + 1, 1, none⟩ = some (.bool false) := cells_of n1 1
  have k1_2 : W0.cell? ⟨w.heap.size + 1, 2, none⟩ = some (.slice none 0 0) := cells_of n1 2
  have k1_3 : W0.cell? ⟨w.heap.size + 1, 3, none⟩ = some (.int .i64 0) := cells_of n1 3
  have k1_4 : W0.cell? ⟨w.heap.size + 1, 4, none⟩ = some (.bool false) := cells_of n1 4
  have k1_5 : W0.cell? ⟨w.heap.size + 1, 5, none⟩ = some (.slice none 0 0) := cells_of n1 5
  have q1 : w.heap.size + 1 < W0.heap.size := by omega
  have f1_0 := unfrozen_of n1 0
  have f1_1 := unfrozen_of n1 1
  have f1_2 := unfrozen_of n1 2
  have f1_3 := unfrozen_of n1 3
  have f1_4 := unfrozen_of n1 4
  have f1_5 := unfrozen_of n1 5
  have NR := Lib.hid n1
  clear n0 n1
  go_region_held3 (fun w' => w'.cell? ⟨w.heap.size, 0, none⟩ = some (.int .i64 n) ∧ w'.cell? ⟨w.heap.size, 1, none⟩ = some (.int .i64 d)) ((first | with_reducible exact ⟨(hc _ _ q0).trans k0_0, (hc _ _ q0).trans k0_1⟩ | with_reducible exact ⟨k0_0, k0_1⟩ | with_reducible exact ⟨(cell_set6 _ _ _ _ _ _ _ _ (by omega)).trans ((hc _ _ q0).trans k0_0), (cell_set6 _ _ _ _ _ _ _ _ (by omega)).trans ((hc _ _ q0).trans k0_1)⟩ | exact ⟨(hc _ _ q0).trans k0_0, (hc _ _ q0).trans k0_1⟩ | exact ⟨k0_0, k0_1⟩ | exact ⟨(cell_set6 _ _ _ _ _ _ _ _ (by omega)).trans ((hc _ _ q0).trans k0_0), (cell_set6 _ _ _ _ _ _ _ _ (by omega)).trans ((hc _ _ q0).trans k0_1)⟩)) (first | (go_at_call 31; refine ((unhide HN1) _).mono ?_; clear HN1; rintro e w' ⟨s5, neg5, A5, c5, l5, rfl, hf5, hb⟩; have hbw := below_step (w := W0) (by (first | assumption | (repeat (first | exact Below.refl _ _ | assumption | refine Below.drew ?_ | (refine Below.alloc ?_ (by simp <;> omega) _))))) hb; obtain ⟨hc, hfz⟩ := bcell hbw) | (go_at_call 31; refine ((unhide HN2) _).mono ?_; rintro e w' ⟨s6, neg6, A6, c6, l6, rfl, hf6, hb⟩; have hf5 := hf5.below hb; have hbw := below_step (w := W0) (by (first | assumption | (repeat (first | exact Below.refl _ _ | assumption | refine Below.drew ?_ | (refine Below.alloc ?_ (by simp <;> omega) _))))) hb; obtain ⟨hc, hfz⟩ := bcell hbw))
  have hblk : w'.heap[w.heap.size + 1]? = some (.cells #[.int .i64 0, .bool false, .slice none 0 0, .int .i64 0, .bool false, .slice none 0 0] 60 (0, 0)) := (hbw.block _ q1).trans NR.out
  have HBLK := Lib.hid hblk
  have hb9 : Below w.heap.size w w' := below_step' hw0 hbw
  clear hblk
  go_wp2_with fail
  exact bodyPost_ret (v := (Value.agg #[.int .i64 s5, .bool neg5, .slice A5 l5.length c5, .int .i64 s6, .bool neg6, .slice A6 l6.length c6])) (by simp [results, Tryd.results35, go_sem, hc, k1_0, k1_1, k1_2, k1_3, k1_4, k1_5, q1]) rfl
    ⟨s5, neg5, A5, c5, l5, s6, neg6, A6, c6, l6, rfl, (hf5).upto HBLK.out (noWord6 _ _ _ _ _ _ _ _ _ _) (set6_grown _ _ _ _ _ _ _ _), (hf6).upto HBLK.out (noWord6 _ _ _ _ _ _ _ _ _ _) (set6_grown _ _ _ _ _ _ _ _), hb9.grown (set6_grown _ _ _ _ _ _ _ _) hb9.size (fun k hk => by injection hk with hk; omega)⟩

end Go.Proofs.YtaaccgjopcgbfaaDoor
/- What is told of a quotient. -/
namespace Go.Proofs.YtaaccgjopcgbfaaDoor
open Go.RowKit

set_option maxRecDepth 100000 in
set_option maxHeartbeats 8000000 in
theorem rrat_big1 (s1 : Int) (neg1 : Bool) (A1 : Option Addr) (c1 : Nat) (l1 : List Nat) (z1 : Int) (s2 : Int) (neg2 : Bool) (A2 : Option Addr) (c2 : Nat) (l2 : List Nat) (z2 : Int) (w : World) (h1 : IntF w s1 neg1 A1 c1 l1 z1) (h2 : IntF w s2 neg2 A2 c2 l2 z2) (a1 : ¬ l1.length = 0) :
    Calls Tryd.prog 32 #[(Value.agg #[.int .i64 s1, .bool neg1, .slice A1 l1.length c1, .int .i64 s2, .bool neg2, .slice A2 l2.length c2])] w fun e w' => e = .returned (.tuple #[.agg #[.int .i64 0, .int .i64 0], .int .i64 3]) ∧ Below w.heap.size w w' := by
  have HS1 := hide (fun W => small_any s1 neg1 A1 c1 l1.length W)
  have HS2 := hide (fun W => small_any s2 neg2 A2 c2 l2.length W)
  rw [decide_eq_false a1] at HS1
  obtain ⟨B2, hB2⟩ : ∃ b, b = decide (l2.length = 0) := ⟨_, rfl⟩
  rw [← hB2] at HS2
  clear hB2
  clear a1 h1 h2
  go_enter Tryd.func32, Tryd.ntmps32
  go_wp2_with fail
  obtain ⟨n0, n1, hsz, hw0⟩ := two_new w (.cells #[.int .i64 s1, .bool neg1, .slice A1 l1.length c1, .int .i64 s2, .bool neg2, .slice A2 l2.length c2] 60) (.cells #[.int .i64 0, .int .i64 0] 23)
  generalize ((w.alloc (.cells #[.int .i64 s1, .bool neg1, .slice A1 l1.length c1, .int .i64 s2, .bool neg2, .slice A2 l2.length c2] 60)).alloc (.cells #[.int .i64 0, .int .i64 0] 23)) = W0 at *
  have k0_0 : W0.cell? ⟨w.heap.size, 0, none⟩ = some (.int .i64 s1) := cells_of n0 0
  have k0_1 : W0.cell? ⟨w.heap.size, 1, none⟩ = some (.bool neg1) := cells_of n0 1
  have k0_2 : W0.cell? ⟨w.heap.size, 2, none⟩ = some (.slice A1 l1.length c1) := cells_of n0 2
  have k0_3 : W0.cell? ⟨w.heap.size, 3, none⟩ = some (.int .i64 s2) := cells_of n0 3
  have k0_4 : W0.cell? ⟨w.heap.size, 4, none⟩ = some (.bool neg2) := cells_of n0 4
  have k0_5 : W0.cell? ⟨w.heap.size, 5, none⟩ = some (.slice A2 l2.length c2) := cells_of n0 5
  have q0 : w.heap.size < W0.heap.size := by omega
  have k1_0 : W0.cell? ⟨w.heap.size + 1, 0, none⟩ = some (.int .i64 0) := cells_of n1 0
  have k1_1 : W0.cell? ⟨w.heap.size + 1, 1, none⟩ = some (.int .i64 0) := cells_of n1 1
  have q1 : w.heap.size + 1 < W0.heap.size := by omega
  have f1_0 := unfrozen_of n1 0
  have f1_1 := unfrozen_of n1 1
  have NR := Lib.hid n1
  clear n0 n1
  refine ((unhide HS1) _).mono ?_
  rintro e w3 ⟨rfl, hb⟩
  have hbw := below_step (w := W0) (by (first | assumption | (repeat (first | exact Below.refl _ _ | assumption | refine Below.drew ?_ | (refine Below.alloc ?_ (by simp <;> omega) _))))) hb
  obtain ⟨hc, hfz⟩ := bcell hbw
  go_wp2_with fail
  refine ((unhide HS2) _).mono ?_
  rintro e w4 ⟨rfl, hb⟩
  have hbw := below_step (w := W0) (by (first | assumption | (repeat (first | exact Below.refl _ _ | assumption | refine Below.drew ?_ | (refine Below.alloc ?_ (by simp <;> omega) _))))) hb
  obtain ⟨hc, hfz⟩ := bcell hbw
  have hb9 : Below w.heap.size w w4 := below_step' hw0 hbw
  go_wp2_with fail
  exact bodyPost_ret (v := .tuple #[.agg #[.int .i64 0, .int .i64 0], .int .i64 3]) (by simp [results, Tryd.results32, go_sem, hc, k1_0, k1_1, q1]) rfl
    ⟨rfl, hb9.grown (set2_grown _ _ _ _) hb9.size (fun k hk => by injection hk with hk; omega)⟩
set_option maxRecDepth 100000 in
set_option maxHeartbeats 8000000 in
theorem rrat_big2 (s1 : Int) (neg1 : Bool) (A1 : Option Addr) (c1 : Nat) (l1 : List Nat) (z1 : Int) (s2 : Int) (neg2 : Bool) (A2 : Option Addr) (c2 : Nat) (l2 : List Nat) (z2 : Int) (w : World) (h1 : IntF w s1 neg1 A1 c1 l1 z1) (h2 : IntF w s2 neg2 A2 c2 l2 z2) (a1 : l1.length = 0) (a2 : ¬ l2.length = 0) :
    Calls Tryd.prog 32 #[(Value.agg #[.int .i64 s1, .bool neg1, .slice A1 l1.length c1, .int .i64 s2, .bool neg2, .slice A2 l2.length c2])] w fun e w' => e = .returned (.tuple #[.agg #[.int .i64 0, .int .i64 0], .int .i64 3]) ∧ Below w.heap.size w w' := by
  have HS1 := hide (fun W => small_any s1 neg1 A1 c1 l1.length W)
  have HS2 := hide (fun W => small_any s2 neg2 A2 c2 l2.length W)
  rw [decide_eq_true a1] at HS1
  rw [decide_eq_false a2] at HS2
  clear a1 a2 h1 h2
  go_enter Tryd.func32, Tryd.ntmps32
  go_wp2_with fail
  obtain ⟨n0, n1, hsz, hw0⟩ := two_new w (.cells #[.int .i64 s1, .bool neg1, .slice A1 l1.length c1, .int .i64 s2, .bool neg2, .slice A2 l2.length c2] 60) (.cells #[.int .i64 0, .int .i64 0] 23)
  generalize ((w.alloc (.cells #[.int .i64 s1, .bool neg1, .slice A1 l1.length c1, .int .i64 s2, .bool neg2, .slice A2 l2.length c2] 60)).alloc (.cells #[.int .i64 0, .int .i64 0] 23)) = W0 at *
  have k0_0 : W0.cell? ⟨w.heap.size, 0, none⟩ = some (.int .i64 s1) := cells_of n0 0
  have k0_1 : W0.cell? ⟨w.heap.size, 1, none⟩ = some (.bool neg1) := cells_of n0 1
  have k0_2 : W0.cell? ⟨w.heap.size, 2, none⟩ = some (.slice A1 l1.length c1) := cells_of n0 2
  have k0_3 : W0.cell? ⟨w.heap.size, 3, none⟩ = some (.int .i64 s2) := cells_of n0 3
  have k0_4 : W0.cell? ⟨w.heap.size, 4, none⟩ = some (.bool neg2) := cells_of n0 4
  have k0_5 : W0.cell? ⟨w.heap.size, 5, none⟩ = some (.slice A2 l2.length c2) := cells_of n0 5
  have q0 : w.heap.size < W0.heap.size := by omega
  have k1_0 : W0.cell? ⟨w.heap.size + 1, 0, none⟩ = some (.int .i64 0) := cells_of n1 0
  have k1_1 : W0.cell? ⟨w.heap.size + 1, 1, none⟩ = some (.int .i64 0) := cells_of n1 1
  have q1 : w.heap.size + 1 < W0.heap.size := by omega
  have f1_0 := unfrozen_of n1 0
  have f1_1 := unfrozen_of n1 1
  have NR := Lib.hid n1
  clear n0 n1
  refine ((unhide HS1) _).mono ?_
  rintro e w3 ⟨rfl, hb⟩
  have hbw := below_step (w := W0) (by (first | assumption | (repeat (first | exact Below.refl _ _ | assumption | refine Below.drew ?_ | (refine Below.alloc ?_ (by simp <;> omega) _))))) hb
  obtain ⟨hc, hfz⟩ := bcell hbw
  go_wp2_with fail
  refine ((unhide HS2) _).mono ?_
  rintro e w4 ⟨rfl, hb⟩
  have hbw := below_step (w := W0) (by (first | assumption | (repeat (first | exact Below.refl _ _ | assumption | refine Below.drew ?_ | (refine Below.alloc ?_ (by simp <;> omega) _))))) hb
  obtain ⟨hc, hfz⟩ := bcell hbw
  have hb9 : Below w.heap.size w w4 := below_step' hw0 hbw
  go_wp2_with fail
  exact bodyPost_ret (v := .tuple #[.agg #[.int .i64 0, .int .i64 0], .int .i64 3]) (by simp [results, Tryd.results32, go_sem, hc, k1_0, k1_1, q1]) rfl
    ⟨rfl, hb9.grown (set2_grown _ _ _ _) hb9.size (fun k hk => by injection hk with hk; omega)⟩
set_option maxRecDepth 100000 in
set_option maxHeartbeats 8000000 in
theorem rrat_lo (s1 : Int) (neg1 : Bool) (A1 : Option Addr) (c1 : Nat) (l1 : List Nat) (z1 : Int) (s2 : Int) (neg2 : Bool) (A2 : Option Addr) (c2 : Nat) (l2 : List Nat) (z2 : Int) (w : World) (h1 : IntF w s1 neg1 A1 c1 l1 z1) (h2 : IntF w s2 neg2 A2 c2 l2 z2) (a1 : l1.length = 0) (a2 : l2.length = 0) (g1 : s1 < -1000000000000) :
    Calls Tryd.prog 32 #[(Value.agg #[.int .i64 s1, .bool neg1, .slice A1 l1.length c1, .int .i64 s2, .bool neg2, .slice A2 l2.length c2])] w fun e w' => e = .returned (.tuple #[.agg #[.int .i64 0, .int .i64 0], .int .i64 3]) ∧ Below w.heap.size w w' := by
  have HS1 := hide (fun W => small_any s1 neg1 A1 c1 l1.length W)
  have HS2 := hide (fun W => small_any s2 neg2 A2 c2 l2.length W)
  rw [decide_eq_true a1] at HS1
  rw [decide_eq_true a2] at HS2
  have d1 : decide (s1 < -1000000000000) = true := decide_eq_true (by omega)
  clear a1 a2 h1 h2 g1
  go_enter Tryd.func32, Tryd.ntmps32
  go_wp2_with fail
  obtain ⟨n0, n1, hsz, hw0⟩ := two_new w (.cells #[.int .i64 s1, .bool neg1, .slice A1 l1.length c1, .int .i64 s2, .bool neg2, .slice A2 l2.length c2] 60) (.cells #[.int .i64 0, .int .i64 0] 23)
  generalize ((w.alloc (.cells #[.int .i64 s1, .bool neg1, .slice A1 l1.length c1, .int .i64 s2, .bool neg2, .slice A2 l2.length c2] 60)).alloc (.cells #[.int .i64 0, .int .i64 0] 23)) = W0 at *
  have k0_0 : W0.cell? ⟨w.heap.size, 0, none⟩ = some (.int .i64 s1) := cells_of n0 0
  have k0_1 : W0.cell? ⟨w.heap.size, 1, none⟩ = some (.bool neg1) := cells_of n0 1
  have k0_2 : W0.cell? ⟨w.heap.size, 2, none⟩ = some (.slice A1 l1.length c1) := cells_of n0 2
  have k0_3 : W0.cell? ⟨w.heap.size, 3, none⟩ = some (.int .i64 s2) := cells_of n0 3
  have k0_4 : W0.cell? ⟨w.heap.size, 4, none⟩ = some (.bool neg2) := cells_of n0 4
  have k0_5 : W0.cell? ⟨w.heap.size, 5, none⟩ = some (.slice A2 l2.length c2) := cells_of n0 5
  have q0 : w.heap.size < W0.heap.size := by omega
  have k1_0 : W0.cell? ⟨w.heap.size + 1, 0, none⟩ = some (.int .i64 0) := cells_of n1 0
  have k1_1 : W0.cell? ⟨w.heap.size + 1, 1, none⟩ = some (.int .i64 0) := cells_of n1 1
  have q1 : w.heap.size + 1 < W0.heap.size := by omega
  have f1_0 := unfrozen_of n1 0
  have f1_1 := unfrozen_of n1 1
  have NR := Lib.hid n1
  clear n0 n1
  refine ((unhide HS1) _).mono ?_
  rintro e w3 ⟨rfl, hb⟩
  have hbw := below_step (w := W0) (by (first | assumption | (repeat (first | exact Below.refl _ _ | assumption | refine Below.drew ?_ | (refine Below.alloc ?_ (by simp <;> omega) _))))) hb
  obtain ⟨hc, hfz⟩ := bcell hbw
  go_wp2_with fail
  refine ((unhide HS2) _).mono ?_
  rintro e w4 ⟨rfl, hb⟩
  have hbw := below_step (w := W0) (by (first | assumption | (repeat (first | exact Below.refl _ _ | assumption | refine Below.drew ?_ | (refine Below.alloc ?_ (by simp <;> omega) _))))) hb
  obtain ⟨hc, hfz⟩ := bcell hbw
  have hb9 : Below w.heap.size w w4 := below_step' hw0 hbw
  go_wp2_with fail
  exact bodyPost_ret (v := .tuple #[.agg #[.int .i64 0, .int .i64 0], .int .i64 3]) (by simp [results, Tryd.results32, go_sem, hc, k1_0, k1_1, q1]) rfl
    ⟨rfl, hb9.grown (set2_grown _ _ _ _) hb9.size (fun k hk => by injection hk with hk; omega)⟩
set_option maxRecDepth 100000 in
set_option maxHeartbeats 8000000 in
theorem rrat_hi (s1 : Int) (neg1 : Bool) (A1 : Option Addr) (c1 : Nat) (l1 : List Nat) (z1 : Int) (s2 : Int) (neg2 : Bool) (A2 : Option Addr) (c2 : Nat) (l2 : List Nat) (z2 : Int) (w : World) (h1 : IntF w s1 neg1 A1 c1 l1 z1) (h2 : IntF w s2 neg2 A2 c2 l2 z2) (a1 : l1.length = 0) (a2 : l2.length = 0) (g1 : 1000000000000 < s1) :
    Calls Tryd.prog 32 #[(Value.agg #[.int .i64 s1, .bool neg1, .slice A1 l1.length c1, .int .i64 s2, .bool neg2, .slice A2 l2.length c2])] w fun e w' => e = .returned (.tuple #[.agg #[.int .i64 0, .int .i64 0], .int .i64 3]) ∧ Below w.heap.size w w' := by
  have HS1 := hide (fun W => small_any s1 neg1 A1 c1 l1.length W)
  have HS2 := hide (fun W => small_any s2 neg2 A2 c2 l2.length W)
  rw [decide_eq_true a1] at HS1
  rw [decide_eq_true a2] at HS2
  have d1 : decide (s1 < -1000000000000) = false := decide_eq_false (by omega)
  have d2 : decide (1000000000000 < s1) = true := decide_eq_true (by omega)
  clear a1 a2 h1 h2 g1
  go_enter Tryd.func32, Tryd.ntmps32
  go_wp2_with fail
  obtain ⟨n0, n1, hsz, hw0⟩ := two_new w (.cells #[.int .i64 s1, .bool neg1, .slice A1 l1.length c1, .int .i64 s2, .bool neg2, .slice A2 l2.length c2] 60) (.cells #[.int .i64 0, .int .i64 0] 23)
  generalize ((w.alloc (.cells #[.int .i64 s1, .bool neg1, .slice A1 l1.length c1, .int .i64 s2, .bool neg2, .slice A2 l2.length c2] 60)).alloc (.cells #[.int .i64 0, .int .i64 0] 23)) = W0 at *
  have k0_0 : W0.cell? ⟨w.heap.size, 0, none⟩ = some (.int .i64 s1) := cells_of n0 0
  have k0_1 : W0.cell? ⟨w.heap.size, 1, none⟩ = some (.bool neg1) := cells_of n0 1
  have k0_2 : W0.cell? ⟨w.heap.size, 2, none⟩ = some (.slice A1 l1.length c1) := cells_of n0 2
  have k0_3 : W0.cell? ⟨w.heap.size, 3, none⟩ = some (.int .i64 s2) := cells_of n0 3
  have k0_4 : W0.cell? ⟨w.heap.size, 4, none⟩ = some (.bool neg2) := cells_of n0 4
  have k0_5 : W0.cell? ⟨w.heap.size, 5, none⟩ = some (.slice A2 l2.length c2) := cells_of n0 5
  have q0 : w.heap.size < W0.heap.size := by omega
  have k1_0 : W0.cell? ⟨w.heap.size + 1, 0, none⟩ = some (.int .i64 0) := cells_of n1 0
  have k1_1 : W0.cell? ⟨w.heap.size + 1, 1, none⟩ = some (.int .i64 0) := cells_of n1 1
  have q1 : w.heap.size + 1 < W0.heap.size := by omega
  have f1_0 := unfrozen_of n1 0
  have f1_1 := unfrozen_of n1 1
  have NR := Lib.hid n1
  clear n0 n1
  refine ((unhide HS1) _).mono ?_
  rintro e w3 ⟨rfl, hb⟩
  have hbw := below_step (w := W0) (by (first | assumption | (repeat (first | exact Below.refl _ _ | assumption | refine Below.drew ?_ | (refine Below.alloc ?_ (by simp <;> omega) _))))) hb
  obtain ⟨hc, hfz⟩ := bcell hbw
  go_wp2_with fail
  refine ((unhide HS2) _).mono ?_
  rintro e w4 ⟨rfl, hb⟩
  have hbw := below_step (w := W0) (by (first | assumption | (repeat (first | exact Below.refl _ _ | assumption | refine Below.drew ?_ | (refine Below.alloc ?_ (by simp <;> omega) _))))) hb
  obtain ⟨hc, hfz⟩ := bcell hbw
  have hb9 : Below w.heap.size w w4 := below_step' hw0 hbw
  go_wp2_with fail
  exact bodyPost_ret (v := .tuple #[.agg #[.int .i64 0, .int .i64 0], .int .i64 3]) (by simp [results, Tryd.results32, go_sem, hc, k1_0, k1_1, q1]) rfl
    ⟨rfl, hb9.grown (set2_grown _ _ _ _) hb9.size (fun k hk => by injection hk with hk; omega)⟩
set_option maxRecDepth 100000 in
set_option maxHeartbeats 8000000 in
theorem rrat_den (s1 : Int) (neg1 : Bool) (A1 : Option Addr) (c1 : Nat) (l1 : List Nat) (z1 : Int) (s2 : Int) (neg2 : Bool) (A2 : Option Addr) (c2 : Nat) (l2 : List Nat) (z2 : Int) (w : World) (h1 : IntF w s1 neg1 A1 c1 l1 z1) (h2 : IntF w s2 neg2 A2 c2 l2 z2) (a1 : l1.length = 0) (a2 : l2.length = 0) (g1 : ¬ s1 < -1000000000000) (g2 : ¬ 1000000000000 < s1) (g3 : 1000000000000 < s2) :
    Calls Tryd.prog 32 #[(Value.agg #[.int .i64 s1, .bool neg1, .slice A1 l1.length c1, .int .i64 s2, .bool neg2, .slice A2 l2.length c2])] w fun e w' => e = .returned (.tuple #[.agg #[.int .i64 0, .int .i64 0], .int .i64 3]) ∧ Below w.heap.size w w' := by
  have HS1 := hide (fun W => small_any s1 neg1 A1 c1 l1.length W)
  have HS2 := hide (fun W => small_any s2 neg2 A2 c2 l2.length W)
  rw [decide_eq_true a1] at HS1
  rw [decide_eq_true a2] at HS2
  have d1 : decide (s1 < -1000000000000) = false := decide_eq_false (by omega)
  have d2 : decide (1000000000000 < s1) = false := decide_eq_false (by omega)
  have d3 : decide (1000000000000 < s2) = true := decide_eq_true (by omega)
  clear a1 a2 h1 h2 g1 g2 g3
  go_enter Tryd.func32, Tryd.ntmps32
  go_wp2_with fail
  obtain ⟨n0, n1, hsz, hw0⟩ := two_new w (.cells #[.int .i64 s1, .bool neg1, .slice A1 l1.length c1, .int .i64 s2, .bool neg2, .slice A2 l2.length c2] 60) (.cells #[.int .i64 0, .int .i64 0] 23)
  generalize ((w.alloc (.cells #[.int .i64 s1, .bool neg1, .slice A1 l1.length c1, .int .i64 s2, .bool neg2, .slice A2 l2.length c2] 60)).alloc (.cells #[.int .i64 0, .int .i64 0] 23)) = W0 at *
  have k0_0 : W0.cell? ⟨w.heap.size, 0, none⟩ = some (.int .i64 s1) := cells_of n0 0
  have k0_1 : W0.cell? ⟨w.heap.size, 1, none⟩ = some (.bool neg1) := cells_of n0 1
  have k0_2 : W0.cell? ⟨w.heap.size, 2, none⟩ = some (.slice A1 l1.length c1) := cells_of n0 2
  have k0_3 : W0.cell? ⟨w.heap.size, 3, none⟩ = some (.int .i64 s2) := cells_of n0 3
  have k0_4 : W0.cell? ⟨w.heap.size, 4, none⟩ = some (.bool neg2) := cells_of n0 4
  have k0_5 : W0.cell? ⟨w.heap.size, 5, none⟩ = some (.slice A2 l2.length c2) := cells_of n0 5
  have q0 : w.heap.size < W0.heap.size := by omega
  have k1_0 : W0.cell? ⟨w.heap.size + 1, 0, none⟩ = some (.int .i64 0) := cells_of n1 0
  have k1_1 : W0.cell? ⟨w.heap.size + 1, 1, none⟩ = some (.int .i64 0) := cells_of n1 1
  have q1 : w.heap.size + 1 < W0.heap.size := by omega
  have f1_0 := unfrozen_of n1 0
  have f1_1 := unfrozen_of n1 1
  have NR := Lib.hid n1
  clear n0 n1
  refine ((unhide HS1) _).mono ?_
  rintro e w3 ⟨rfl, hb⟩
  have hbw := below_step (w := W0) (by (first | assumption | (repeat (first | exact Below.refl _ _ | assumption | refine Below.drew ?_ | (refine Below.alloc ?_ (by simp <;> omega) _))))) hb
  obtain ⟨hc, hfz⟩ := bcell hbw
  go_wp2_with fail
  refine ((unhide HS2) _).mono ?_
  rintro e w4 ⟨rfl, hb⟩
  have hbw := below_step (w := W0) (by (first | assumption | (repeat (first | exact Below.refl _ _ | assumption | refine Below.drew ?_ | (refine Below.alloc ?_ (by simp <;> omega) _))))) hb
  obtain ⟨hc, hfz⟩ := bcell hbw
  have hb9 : Below w.heap.size w w4 := below_step' hw0 hbw
  go_wp2_with fail
  exact bodyPost_ret (v := .tuple #[.agg #[.int .i64 0, .int .i64 0], .int .i64 3]) (by simp [results, Tryd.results32, go_sem, hc, k1_0, k1_1, q1]) rfl
    ⟨rfl, hb9.grown (set2_grown _ _ _ _) hb9.size (fun k hk => by injection hk with hk; omega)⟩
set_option maxRecDepth 100000 in
set_option maxHeartbeats 8000000 in
theorem rrat_ok (s1 : Int) (neg1 : Bool) (A1 : Option Addr) (c1 : Nat) (l1 : List Nat) (z1 : Int) (s2 : Int) (neg2 : Bool) (A2 : Option Addr) (c2 : Nat) (l2 : List Nat) (z2 : Int) (w : World) (h1 : IntF w s1 neg1 A1 c1 l1 z1) (h2 : IntF w s2 neg2 A2 c2 l2 z2) (a1 : l1.length = 0) (a2 : l2.length = 0) (g1 : ¬ s1 < -1000000000000) (g2 : ¬ 1000000000000 < s1) (g3 : ¬ 1000000000000 < s2) :
    Calls Tryd.prog 32 #[(Value.agg #[.int .i64 s1, .bool neg1, .slice A1 l1.length c1, .int .i64 s2, .bool neg2, .slice A2 l2.length c2])] w fun e w' => e = .returned (.tuple #[.agg #[.int .i64 s1, .int .i64 s2], .int .i64 0]) ∧ Below w.heap.size w w' := by
  have HS1 := hide (fun W => small_any s1 neg1 A1 c1 l1.length W)
  have HS2 := hide (fun W => small_any s2 neg2 A2 c2 l2.length W)
  rw [decide_eq_true a1] at HS1
  rw [decide_eq_true a2] at HS2
  have d1 : decide (s1 < -1000000000000) = false := decide_eq_false (by omega)
  have d2 : decide (1000000000000 < s1) = false := decide_eq_false (by omega)
  have d3 : decide (1000000000000 < s2) = false := decide_eq_false (by omega)
  clear a1 a2 h1 h2 g1 g2 g3
  go_enter Tryd.func32, Tryd.ntmps32
  go_wp2_with fail
  obtain ⟨n0, n1, hsz, hw0⟩ := two_new w (.cells #[.int .i64 s1, .bool neg1, .slice A1 l1.length c1, .int .i64 s2, .bool neg2, .slice A2 l2.length c2] 60) (.cells #[.int .i64 0, .int .i64 0] 23)
  generalize ((w.alloc (.cells #[.int .i64 s1, .bool neg1, .slice A1 l1.length c1, .int .i64 s2, .bool neg2, .slice A2 l2.length c2] 60)).alloc (.cells #[.int .i64 0, .int .i64 0] 23)) = W0 at *
  have k0_0 : W0.cell? ⟨w.heap.size, 0, none⟩ = some (.int .i64 s1) := cells_of n0 0
  have k0_1 : W0.cell? ⟨w.heap.size, 1, none⟩ = some (.bool neg1) := cells_of n0 1
  have k0_2 : W0.cell? ⟨w.heap.size, 2, none⟩ = some (.slice A1 l1.length c1) := cells_of n0 2
  have k0_3 : W0.cell? ⟨w.heap.size, 3, none⟩ = some (.int .i64 s2) := cells_of n0 3
  have k0_4 : W0.cell? ⟨w.heap.size, 4, none⟩ = some (.bool neg2) := cells_of n0 4
  have k0_5 : W0.cell? ⟨w.heap.size, 5, none⟩ = some (.slice A2 l2.length c2) := cells_of n0 5
  have q0 : w.heap.size < W0.heap.size := by omega
  have k1_0 : W0.cell? ⟨w.heap.size + 1, 0, none⟩ = some (.int .i64 0) := cells_of n1 0
  have k1_1 : W0.cell? ⟨w.heap.size + 1, 1, none⟩ = some (.int .i64 0) := cells_of n1 1
  have q1 : w.heap.size + 1 < W0.heap.size := by omega
  have f1_0 := unfrozen_of n1 0
  have f1_1 := unfrozen_of n1 1
  have NR := Lib.hid n1
  clear n0 n1
  refine ((unhide HS1) _).mono ?_
  rintro e w3 ⟨rfl, hb⟩
  have hbw := below_step (w := W0) (by (first | assumption | (repeat (first | exact Below.refl _ _ | assumption | refine Below.drew ?_ | (refine Below.alloc ?_ (by simp <;> omega) _))))) hb
  obtain ⟨hc, hfz⟩ := bcell hbw
  go_wp2_with fail
  refine ((unhide HS2) _).mono ?_
  rintro e w4 ⟨rfl, hb⟩
  have hbw := below_step (w := W0) (by (first | assumption | (repeat (first | exact Below.refl _ _ | assumption | refine Below.drew ?_ | (refine Below.alloc ?_ (by simp <;> omega) _))))) hb
  obtain ⟨hc, hfz⟩ := bcell hbw
  have hb9 : Below w.heap.size w w4 := below_step' hw0 hbw
  go_wp2_with fail
  exact bodyPost_ret (v := .tuple #[.agg #[.int .i64 s1, .int .i64 s2], .int .i64 0]) (by simp [results, Tryd.results32, go_sem, hc, k1_0, k1_1, q1]) rfl
    ⟨rfl, hb9.grown (set2_grown _ _ _ _) hb9.size (fun k hk => by injection hk with hk; omega)⟩

/-- What the call tells of a quotient in lowest terms. -/
theorem rrat_any (s1 : Int) (neg1 : Bool) (A1 : Option Addr) (c1 : Nat) (l1 : List Nat) (z1 : Int) (s2 : Int) (neg2 : Bool) (A2 : Option Addr) (c2 : Nat) (l2 : List Nat) (z2 : Int) (w : World) (h1 : IntF w s1 neg1 A1 c1 l1 z1) (h2 : IntF w s2 neg2 A2 c2 l2 z2) (q : Rat) (e1 : z1 = q.num) (e2 : z2 = (q.den : Int)) :
    Calls Tryd.prog 32 #[(Value.agg #[.int .i64 s1, .bool neg1, .slice A1 l1.length c1, .int .i64 s2, .bool neg2, .slice A2 l2.length c2])] w fun e w' => e = .returned (.tuple #[.agg #[.int .i64 (Wd.told q).n, .int .i64 (Wd.told q).d], .int .i64 (Wd.told q).e]) ∧ Below w.heap.size w w' := by
  have hden := q.den_pos
  have big : ∀ (l : List Nat) (s : Int) (neg : Bool) (A : Option Addr) (c : Nat) (z : Int), IntF w s neg A c l z → ¬ l.length = 0 → 9223372036854775808 ≤ z.natAbs := fun l s neg A c z h a => by
    rcases h.form with ⟨x, _⟩ | ⟨_, _, _, _, x⟩
    · exact absurd x a
    · rwa [M63_eq] at x
  have large : ∀ P : Prop, ¬ Wd.fits q → (Wd.told q) = ⟨0, 0, 3⟩ := fun _ h => by unfold Wd.told; rw [if_neg h]
  by_cases a1 : l1.length = 0
  · obtain ⟨x1, _, _⟩ := h1.of_small a1
    by_cases a2 : l2.length = 0
    · obtain ⟨x2, _, _⟩ := h2.of_small a2
      by_cases g1 : s1 < -1000000000000
      · rw [large True (fun hf => by have := hf.1; rw [Wd.MX_eq] at this; omega)]; exact rrat_lo s1 neg1 A1 c1 l1 z1 s2 neg2 A2 c2 l2 z2 w h1 h2 a1 a2 g1
      by_cases g2 : 1000000000000 < s1
      · rw [large True (fun hf => by have := hf.1; rw [Wd.MX_eq] at this; omega)]; exact rrat_hi s1 neg1 A1 c1 l1 z1 s2 neg2 A2 c2 l2 z2 w h1 h2 a1 a2 g2
      by_cases g3 : 1000000000000 < s2
      · rw [large True (fun hf => by have := hf.2; rw [Wd.MX_eq] at this; omega)]; exact rrat_den s1 neg1 A1 c1 l1 z1 s2 neg2 A2 c2 l2 z2 w h1 h2 a1 a2 g1 g2 g3
      have hf : Wd.fits q := by unfold Wd.fits; rw [Wd.MX_eq]; omega
      have ht : Wd.told q = ⟨s1, s2, 0⟩ := by unfold Wd.told; rw [if_pos hf, x1, x2, e1, e2]
      rw [ht]
      exact rrat_ok s1 neg1 A1 c1 l1 z1 s2 neg2 A2 c2 l2 z2 w h1 h2 a1 a2 g1 g2 g3
    · have := big _ _ _ _ _ _ h2 a2
      rw [large True (fun hf => by have := hf.2; rw [Wd.MX_eq] at this; omega)]; exact rrat_big2 s1 neg1 A1 c1 l1 z1 s2 neg2 A2 c2 l2 z2 w h1 h2 a1 a2
  · have := big _ _ _ _ _ _ h1 a1
    rw [large True (fun hf => by have := hf.1; rw [Wd.MX_eq] at this; omega)]; exact rrat_big1 s1 neg1 A1 c1 l1 z1 s2 neg2 A2 c2 l2 z2 w h1 h2 a1

end Go.Proofs.YtaaccgjopcgbfaaDoor
/- Two numbers put together: the errors ahead of it, and what is told. -/
namespace Go.Proofs.YtaaccgjopcgbfaaDoor
open Go.RowKit

/-- What a call hands back: a number as it is told; what was there is as it was. -/
def TolR (w : World) (t : Wd.Told) (e : Ending) (w' : World) : Prop := e = .returned (.tuple #[.agg #[.int .i64 t.n, .int .i64 t.d], .int .i64 t.e]) ∧ Below w.heap.size w w'
set_option maxRecDepth 100000 in
set_option maxHeartbeats 16000000 in
theorem comb_add_bad (n1 d1 n2 d2 : Int) (w : World) (hT : Tab w) (hbad : ¬ (Wd.okR n1 d1 ∧ Wd.okR n2 d2)) :
    Calls Tryd.prog 64 #[(Value.agg #[.int .i64 n1, .int .i64 d1]), (Value.agg #[.int .i64 n2, .int .i64 d2]), Value.func (Fn.func 62) #[] #[]] w fun e w' => TolR w ⟨0, 0, 1⟩ e w' := by
  have HT := hide hT
  have HE := Lib.hid (show fstE n1 d1 n2 d2 = 1 from if_neg hbad)
  clear hT hbad
  go_enter Tryd.func64, Tryd.ntmps64
  go_wp2_with fail
  obtain ⟨n0_, n1_, n2_, hsz, hw0⟩ := three_new w (.cells #[.int .i64 n1, .int .i64 d1] 23) (.cells #[.int .i64 n2, .int .i64 d2] 23) (.cells #[.int .i64 0, .int .i64 0] 23)
  generalize (((w.alloc (.cells #[.int .i64 n1, .int .i64 d1] 23)).alloc (.cells #[.int .i64 n2, .int .i64 d2] 23)).alloc (.cells #[.int .i64 0, .int .i64 0] 23)) = W0 at *
  have k0_0 : W0.cell? ⟨w.heap.size, 0, none⟩ = some (.int .i64 n1) := cells_of n0_ 0
  have k0_1 : W0.cell? ⟨w.heap.size, 1, none⟩ = some (.int .i64 d1) := cells_of n0_ 1
  have q0 : w.heap.size < W0.heap.size := by omega
  have k1_0 : W0.cell? ⟨w.heap.size + 1, 0, none⟩ = some (.int .i64 n2) := cells_of n1_ 0
  have k1_1 : W0.cell? ⟨w.heap.size + 1, 1, none⟩ = some (.int .i64 d2) := cells_of n1_ 1
  have q1 : w.heap.size + 1 < W0.heap.size := by omega
  have k2_0 : W0.cell? ⟨w.heap.size + 1 + 1, 0, none⟩ = some (.int .i64 0) := cells_of n2_ 0
  have k2_1 : W0.cell? ⟨w.heap.size + 1 + 1, 1, none⟩ = some (.int .i64 0) := cells_of n2_ 1
  have q2 : w.heap.size + 1 + 1 < W0.heap.size := by omega
  have f2_0 := unfrozen_of n2_ 0
  have f2_1 := unfrozen_of n2_ 1
  have e3 : w.heap.size + 1 + 1 + 1 = W0.heap.size := by omega
  have e3' : w.heap.size + 3 = W0.heap.size := by omega
  clear hsz n0_ n1_ n2_
  try rw [e3]
  try rw [e3']
  clear e3 e3'
  have hnew := heap_alloc_new W0 (.cells #[.int .i64 n1, .int .i64 d1, .int .i64 n2, .int .i64 d2] 23)
  refine (first_any n1 d1 n2 d2 W0.heap.size _ (((unhide HT).below hw0).alloc _) (lt_of_block hnew) (cells_of hnew 0) (cells_of hnew 1) (cells_of hnew 2) (cells_of hnew 3)).mono ?_
  clear hnew
  rintro e W1 ⟨rfl, hb⟩
  have hbx := below_step' (w := W0) (below_alloc (Below.refl _ _) _) hb
  clear hb
  rw [HE.out]
  obtain ⟨hc, hfz⟩ := bcell hbx
  replace k0_0 := (hc _ _ q0).trans k0_0
  replace k0_1 := (hc _ _ q0).trans k0_1
  replace k1_0 := (hc _ _ q1).trans k1_0
  replace k1_1 := (hc _ _ q1).trans k1_1
  replace k2_0 := (hc _ _ q2).trans k2_0
  replace k2_1 := (hc _ _ q2).trans k2_1
  replace f2_0 := (hfz _ _ q2).trans f2_0
  replace f2_1 := (hfz _ _ q2).trans f2_1
  replace q0 := Nat.lt_of_lt_of_le q0 hbx.size
  replace q1 := Nat.lt_of_lt_of_le q1 hbx.size
  replace q2 := Nat.lt_of_lt_of_le q2 hbx.size
  replace hw0 := below_step' hw0 hbx
  clear hc hfz hbx
  go_wp2
  exact bodyPost_ret (v := .tuple #[.agg #[.int .i64 0, .int .i64 0], .int .i64 1]) (by simp [results, Tryd.results64, go_sem, k2_0, k2_1, q2]) rfl
    ⟨rfl, hw0.grown (set2_grown _ _ _ _) hw0.size (fun k hk => by injection hk with hk; omega)⟩
set_option maxRecDepth 100000 in
set_option maxHeartbeats 16000000 in
theorem comb_add_good (n1 d1 n2 d2 : Int) (w : World) (hT : Tab w) (ok : Wd.okR n1 d1 ∧ Wd.okR n2 d2) (q : Rat) (hop : OpQ2 w 62 (Wd.qR n1 d1) (Wd.qR n2 d2) q) :
    Calls Tryd.prog 64 #[(Value.agg #[.int .i64 n1, .int .i64 d1]), (Value.agg #[.int .i64 n2, .int .i64 d2]), Value.func (Fn.func 62) #[] #[]] w fun e w' => TolR w (Wd.told q) e w' := by
  have HT := hide hT
  have HE := Lib.hid (show fstE n1 d1 n2 d2 = 0 from if_pos ok)
  obtain ⟨e1, e2⟩ := Wd.qR_ok ok.1
  obtain ⟨e3, e4⟩ := Wd.qR_ok ok.2
  unfold OpQ2 at hop
  rw [e1, e2, e3, e4] at hop
  have HOP := hide hop
  obtain ⟨o1, o2⟩ := ok
  have HO1 := hide (fun W => rof_any n1 d1 W (by have := o1.2.2.1; omega) (by have := o1.2.2.2.1; omega) (by have := o1.1; omega) (by have := o1.2.1; omega))
  have HO2 := hide (fun W => rof_any n2 d2 W (by have := o2.2.2.1; omega) (by have := o2.2.2.2.1; omega) (by have := o2.1; omega) (by have := o2.2.1; omega))
  have HRT := hide (fun (s9 : Int) (neg9 : Bool) (A9 : Option Addr) (c9 : Nat) (l9 : List Nat) (s10 : Int) (neg10 : Bool) (A10 : Option Addr) (c10 : Nat) (l10 : List Nat) (W : World) (f9 : IntF W s9 neg9 A9 c9 l9 q.num) (f10 : IntF W s10 neg10 A10 c10 l10 (q.den : Int)) => rrat_any s9 neg9 A9 c9 l9 q.num s10 neg10 A10 c10 l10 (q.den : Int) W f9 f10 q rfl rfl)
  obtain ⟨tn, htn⟩ : ∃ x, x = (Wd.told q).n := ⟨_, rfl⟩
  obtain ⟨td, htd⟩ : ∃ x, x = (Wd.told q).d := ⟨_, rfl⟩
  obtain ⟨te, hte⟩ : ∃ x, x = (Wd.told q).e := ⟨_, rfl⟩
  rw [← htn, ← htd, ← hte] at HRT
  have HTL := Lib.hid (show Wd.told q = ⟨tn, td, te⟩ by rw [htn, htd, hte])
  clear htn htd hte
  clear hT e1 e2 e3 e4 hop o1 o2
  go_enter Tryd.func64, Tryd.ntmps64
  go_wp2_with fail
  obtain ⟨n0_, n1_, n2_, hsz, hw0⟩ := three_new w (.cells #[.int .i64 n1, .int .i64 d1] 23) (.cells #[.int .i64 n2, .int .i64 d2] 23) (.cells #[.int .i64 0, .int .i64 0] 23)
  generalize (((w.alloc (.cells #[.int .i64 n1, .int .i64 d1] 23)).alloc (.cells #[.int .i64 n2, .int .i64 d2] 23)).alloc (.cells #[.int .i64 0, .int .i64 0] 23)) = W0 at *
  have k0_0 : W0.cell? ⟨w.heap.size, 0, none⟩ = some (.int .i64 n1) := cells_of n0_ 0
  have k0_1 : W0.cell? ⟨w.heap.size, 1, none⟩ = some (.int .i64 d1) := cells_of n0_ 1
  have q0 : w.heap.size < W0.heap.size := by omega
  have k1_0 : W0.cell? ⟨w.heap.size + 1, 0, none⟩ = some (.int .i64 n2) := cells_of n1_ 0
  have k1_1 : W0.cell? ⟨w.heap.size + 1, 1, none⟩ = some (.int .i64 d2) := cells_of n1_ 1
  have q1 : w.heap.size + 1 < W0.heap.size := by omega
  have k2_0 : W0.cell? ⟨w.heap.size + 1 + 1, 0, none⟩ = some (.int .i64 0) := cells_of n2_ 0
  have k2_1 : W0.cell? ⟨w.heap.size + 1 + 1, 1, none⟩ = some (.int .i64 0) := cells_of n2_ 1
  have q2 : w.heap.size + 1 + 1 < W0.heap.size := by omega
  have f2_0 := unfrozen_of n2_ 0
  have f2_1 := unfrozen_of n2_ 1
  have e3 : w.heap.size + 1 + 1 + 1 = W0.heap.size := by omega
  have e3' : w.heap.size + 3 = W0.heap.size := by omega
  clear hsz n0_ n1_ n2_
  try rw [e3]
  try rw [e3']
  clear e3 e3'
  have hnew := heap_alloc_new W0 (.cells #[.int .i64 n1, .int .i64 d1, .int .i64 n2, .int .i64 d2] 23)
  refine (first_any n1 d1 n2 d2 W0.heap.size _ (((unhide HT).below hw0).alloc _) (lt_of_block hnew) (cells_of hnew 0) (cells_of hnew 1) (cells_of hnew 2) (cells_of hnew 3)).mono ?_
  clear hnew
  rintro e W1 ⟨rfl, hb⟩
  have hbx := below_step' (w := W0) (below_alloc (Below.refl _ _) _) hb
  clear hb
  rw [HE.out]
  obtain ⟨hc, hfz⟩ := bcell hbx
  replace k0_0 := (hc _ _ q0).trans k0_0
  replace k0_1 := (hc _ _ q0).trans k0_1
  replace k1_0 := (hc _ _ q1).trans k1_0
  replace k1_1 := (hc _ _ q1).trans k1_1
  replace k2_0 := (hc _ _ q2).trans k2_0
  replace k2_1 := (hc _ _ q2).trans k2_1
  replace f2_0 := (hfz _ _ q2).trans f2_0
  replace f2_1 := (hfz _ _ q2).trans f2_1
  replace q0 := Nat.lt_of_lt_of_le q0 hbx.size
  replace q1 := Nat.lt_of_lt_of_le q1 hbx.size
  replace q2 := Nat.lt_of_lt_of_le q2 hbx.size
  replace hw0 := below_step' hw0 hbx
  clear hc hfz hbx
  have KEEP := hide (show ∀ X, Below W1.heap.size W1 X → X.cell? ⟨w.heap.size, 0, none⟩ = some (.int .i64 n1) ∧ X.cell? ⟨w.heap.size, 1, none⟩ = some (.int .i64 d1) ∧ X.cell? ⟨w.heap.size + 1, 0, none⟩ = some (.int .i64 n2) ∧ X.cell? ⟨w.heap.size + 1, 1, none⟩ = some (.int .i64 d2) from fun X hB => ⟨keep_cell hB q0 k0_0, keep_cell hB q0 k0_1, keep_cell hB q1 k1_0, keep_cell hB q1 k1_1⟩)
  go_wp2_with fail
  go_region_held3 (fun w' => w'.cell? ⟨w.heap.size, 0, none⟩ = some (.int .i64 n1) ∧ w'.cell? ⟨w.heap.size, 1, none⟩ = some (.int .i64 d1) ∧ w'.cell? ⟨w.heap.size + 1, 0, none⟩ = some (.int .i64 n2) ∧ w'.cell? ⟨w.heap.size + 1, 1, none⟩ = some (.int .i64 d2)) (first | with_reducible exact ⟨(cell_set2 _ _ _ _ (by omega)).trans (keep_cell hbw q0 k0_0), (cell_set2 _ _ _ _ (by omega)).trans (keep_cell hbw q0 k0_1), (cell_set2 _ _ _ _ (by omega)).trans (keep_cell hbw q1 k1_0), (cell_set2 _ _ _ _ (by omega)).trans (keep_cell hbw q1 k1_1)⟩ | with_reducible exact (unhide KEEP) _ (by (repeat (first | with_reducible exact Below.refl _ _ | with_reducible assumption | with_reducible refine Below.drew ?_ | with_reducible refine below_alloc ?_ _)))) (first | (go_at_call_of 35 (Value.agg #[.int .i64 n1, .int .i64 d1]); refine ((unhide HO1) _).mono ?_; rintro e w' ⟨s5, neg5, A5, c5, l5, s6, neg6, A6, c6, l6, rfl, hf5, hf6, hb5⟩; have hbw := below_step (w := W1) (by (repeat (first | with_reducible exact Below.refl _ _ | with_reducible assumption | with_reducible refine Below.drew ?_ | with_reducible refine below_alloc ?_ _))) hb5; have hsw := hbw.size; obtain ⟨hc, hfz⟩ := bcell hbw) | (go_at_call_of 35 (Value.agg #[.int .i64 n2, .int .i64 d2]); refine ((unhide HO2) _).mono ?_; rintro e w' ⟨s7, neg7, A7, c7, l7, s8, neg8, A8, c8, l8, rfl, hf7, hf8, hb7⟩; have hf5 := IntF.below (IntF.below hf5 (by (repeat (first | with_reducible exact Below.refl _ _ | with_reducible assumption | with_reducible refine Below.drew ?_ | with_reducible refine below_alloc ?_ _)))) hb7; have hf6 := IntF.below (IntF.below hf6 (by (repeat (first | with_reducible exact Below.refl _ _ | with_reducible assumption | with_reducible refine Below.drew ?_ | with_reducible refine below_alloc ?_ _)))) hb7; have hbw := below_step (w := W1) (by (repeat (first | with_reducible exact Below.refl _ _ | with_reducible assumption | with_reducible refine Below.drew ?_ | with_reducible refine below_alloc ?_ _))) hb7; have hsw := hbw.size; obtain ⟨hc, hfz⟩ := bcell hbw) | (go_at_call_of 62 (Value.agg #[.int .i64 s5, .bool neg5, .slice A5 l5.length c5, .int .i64 s6, .bool neg6, .slice A6 l6.length c6]); refine ((unhide HOP) s5 neg5 A5 c5 l5 s6 neg6 A6 c6 l6 s7 neg7 A7 c7 l7 s8 neg8 A8 c8 l8 _ (below_step' hw0 (by (repeat (first | with_reducible exact Below.refl _ _ | with_reducible assumption | with_reducible refine Below.drew ?_ | with_reducible refine below_alloc ?_ _)))) (IntF.below hf5 (by (repeat (first | with_reducible exact Below.refl _ _ | with_reducible assumption | with_reducible refine Below.drew ?_ | with_reducible refine below_alloc ?_ _)))) (IntF.below hf6 (by (repeat (first | with_reducible exact Below.refl _ _ | with_reducible assumption | with_reducible refine Below.drew ?_ | with_reducible refine below_alloc ?_ _)))) (IntF.below hf7 (by (repeat (first | with_reducible exact Below.refl _ _ | with_reducible assumption | with_reducible refine Below.drew ?_ | with_reducible refine below_alloc ?_ _)))) (IntF.below hf8 (by (repeat (first | with_reducible exact Below.refl _ _ | with_reducible assumption | with_reducible refine Below.drew ?_ | with_reducible refine below_alloc ?_ _))))).mono ?_; rintro e w' ⟨s9, neg9, A9, c9, l9, s10, neg10, A10, c10, l10, rfl, hf9, hf10, hb9⟩; have hbw := below_step (w := W1) (by (repeat (first | with_reducible exact Below.refl _ _ | with_reducible assumption | with_reducible refine Below.drew ?_ | with_reducible refine below_alloc ?_ _))) hb9; have hsw := hbw.size; obtain ⟨hc, hfz⟩ := bcell hbw) | (go_at_call_of 32 (Value.agg #[.int .i64 s9, .bool neg9, .slice A9 l9.length c9, .int .i64 s10, .bool neg10, .slice A10 l10.length c10]); refine ((unhide HRT) s9 neg9 A9 c9 l9 s10 neg10 A10 c10 l10 _ (IntF.below hf9 (by (repeat (first | with_reducible exact Below.refl _ _ | with_reducible assumption | with_reducible refine Below.drew ?_ | with_reducible refine below_alloc ?_ _)))) (IntF.below hf10 (by (repeat (first | with_reducible exact Below.refl _ _ | with_reducible assumption | with_reducible refine Below.drew ?_ | with_reducible refine below_alloc ?_ _))))).mono ?_; rintro e w' ⟨rfl, hb10⟩; have hbw := below_step (w := W1) (by (repeat (first | with_reducible exact Below.refl _ _ | with_reducible assumption | with_reducible refine Below.drew ?_ | with_reducible refine below_alloc ?_ _))) hb10; have hsw := hbw.size; obtain ⟨hc, hfz⟩ := bcell hbw))
  have hb9 : Below w.heap.size w w' := below_step' hw0 hbw
  go_wp2_with fail
  exact bodyPost_ret (v := .tuple #[.agg #[.int .i64 tn, .int .i64 td], .int .i64 te]) (by simp [results, Tryd.results64, go_sem, hc, k2_0, k2_1, q2]) rfl
    ⟨HTL.out ▸ rfl, hb9.grown (set2_grown _ _ _ _) hb9.size (fun k hk => by injection hk with hk; omega)⟩
set_option maxRecDepth 100000 in
set_option maxHeartbeats 16000000 in
theorem comb_sub_bad (n1 d1 n2 d2 : Int) (w : World) (hT : Tab w) (hbad : ¬ (Wd.okR n1 d1 ∧ Wd.okR n2 d2)) :
    Calls Tryd.prog 64 #[(Value.agg #[.int .i64 n1, .int .i64 d1]), (Value.agg #[.int .i64 n2, .int .i64 d2]), Value.func (Fn.func 50) #[] #[]] w fun e w' => TolR w ⟨0, 0, 1⟩ e w' := by
  have HT := hide hT
  have HE := Lib.hid (show fstE n1 d1 n2 d2 = 1 from if_neg hbad)
  clear hT hbad
  go_enter Tryd.func64, Tryd.ntmps64
  go_wp2_with fail
  obtain ⟨n0_, n1_, n2_, hsz, hw0⟩ := three_new w (.cells #[.int .i64 n1, .int .i64 d1] 23) (.cells #[.int .i64 n2, .int .i64 d2] 23) (.cells #[.int .i64 0, .int .i64 0] 23)
  generalize (((w.alloc (.cells #[.int .i64 n1, .int .i64 d1] 23)).alloc (.cells #[.int .i64 n2, .int .i64 d2] 23)).alloc (.cells #[.int .i64 0, .int .i64 0] 23)) = W0 at *
  have k0_0 : W0.cell? ⟨w.heap.size, 0, none⟩ = some (.int .i64 n1) := cells_of n0_ 0
  have k0_1 : W0.cell? ⟨w.heap.size, 1, none⟩ = some (.int .i64 d1) := cells_of n0_ 1
  have q0 : w.heap.size < W0.heap.size := by omega
  have k1_0 : W0.cell? ⟨w.heap.size + 1, 0, none⟩ = some (.int .i64 n2) := cells_of n1_ 0
  have k1_1 : W0.cell? ⟨w.heap.size + 1, 1, none⟩ = some (.int .i64 d2) := cells_of n1_ 1
  have q1 : w.heap.size + 1 < W0.heap.size := by omega
  have k2_0 : W0.cell? ⟨w.heap.size + 1 + 1, 0, none⟩ = some (.int .i64 0) := cells_of n2_ 0
  have k2_1 : W0.cell? ⟨w.heap.size + 1 + 1, 1, none⟩ = some (.int .i64 0) := cells_of n2_ 1
  have q2 : w.heap.size + 1 + 1 < W0.heap.size := by omega
  have f2_0 := unfrozen_of n2_ 0
  have f2_1 := unfrozen_of n2_ 1
  have e3 : w.heap.size + 1 + 1 + 1 = W0.heap.size := by omega
  have e3' : w.heap.size + 3 = W0.heap.size := by omega
  clear hsz n0_ n1_ n2_
  try rw [e3]
  try rw [e3']
  clear e3 e3'
  have hnew := heap_alloc_new W0 (.cells #[.int .i64 n1, .int .i64 d1, .int .i64 n2, .int .i64 d2] 23)
  refine (first_any n1 d1 n2 d2 W0.heap.size _ (((unhide HT).below hw0).alloc _) (lt_of_block hnew) (cells_of hnew 0) (cells_of hnew 1) (cells_of hnew 2) (cells_of hnew 3)).mono ?_
  clear hnew
  rintro e W1 ⟨rfl, hb⟩
  have hbx := below_step' (w := W0) (below_alloc (Below.refl _ _) _) hb
  clear hb
  rw [HE.out]
  obtain ⟨hc, hfz⟩ := bcell hbx
  replace k0_0 := (hc _ _ q0).trans k0_0
  replace k0_1 := (hc _ _ q0).trans k0_1
  replace k1_0 := (hc _ _ q1).trans k1_0
  replace k1_1 := (hc _ _ q1).trans k1_1
  replace k2_0 := (hc _ _ q2).trans k2_0
  replace k2_1 := (hc _ _ q2).trans k2_1
  replace f2_0 := (hfz _ _ q2).trans f2_0
  replace f2_1 := (hfz _ _ q2).trans f2_1
  replace q0 := Nat.lt_of_lt_of_le q0 hbx.size
  replace q1 := Nat.lt_of_lt_of_le q1 hbx.size
  replace q2 := Nat.lt_of_lt_of_le q2 hbx.size
  replace hw0 := below_step' hw0 hbx
  clear hc hfz hbx
  go_wp2
  exact bodyPost_ret (v := .tuple #[.agg #[.int .i64 0, .int .i64 0], .int .i64 1]) (by simp [results, Tryd.results64, go_sem, k2_0, k2_1, q2]) rfl
    ⟨rfl, hw0.grown (set2_grown _ _ _ _) hw0.size (fun k hk => by injection hk with hk; omega)⟩
set_option maxRecDepth 100000 in
set_option maxHeartbeats 16000000 in
theorem comb_sub_good (n1 d1 n2 d2 : Int) (w : World) (hT : Tab w) (ok : Wd.okR n1 d1 ∧ Wd.okR n2 d2) (q : Rat) (hop : OpQ2 w 50 (Wd.qR n1 d1) (Wd.qR n2 d2) q) :
    Calls Tryd.prog 64 #[(Value.agg #[.int .i64 n1, .int .i64 d1]), (Value.agg #[.int .i64 n2, .int .i64 d2]), Value.func (Fn.func 50) #[] #[]] w fun e w' => TolR w (Wd.told q) e w' := by
  have HT := hide hT
  have HE := Lib.hid (show fstE n1 d1 n2 d2 = 0 from if_pos ok)
  obtain ⟨e1, e2⟩ := Wd.qR_ok ok.1
  obtain ⟨e3, e4⟩ := Wd.qR_ok ok.2
  unfold OpQ2 at hop
  rw [e1, e2, e3, e4] at hop
  have HOP := hide hop
  obtain ⟨o1, o2⟩ := ok
  have HO1 := hide (fun W => rof_any n1 d1 W (by have := o1.2.2.1; omega) (by have := o1.2.2.2.1; omega) (by have := o1.1; omega) (by have := o1.2.1; omega))
  have HO2 := hide (fun W => rof_any n2 d2 W (by have := o2.2.2.1; omega) (by have := o2.2.2.2.1; omega) (by have := o2.1; omega) (by have := o2.2.1; omega))
  have HRT := hide (fun (s9 : Int) (neg9 : Bool) (A9 : Option Addr) (c9 : Nat) (l9 : List Nat) (s10 : Int) (neg10 : Bool) (A10 : Option Addr) (c10 : Nat) (l10 : List Nat) (W : World) (f9 : IntF W s9 neg9 A9 c9 l9 q.num) (f10 : IntF W s10 neg10 A10 c10 l10 (q.den : Int)) => rrat_any s9 neg9 A9 c9 l9 q.num s10 neg10 A10 c10 l10 (q.den : Int) W f9 f10 q rfl rfl)
  obtain ⟨tn, htn⟩ : ∃ x, x = (Wd.told q).n := ⟨_, rfl⟩
  obtain ⟨td, htd⟩ : ∃ x, x = (Wd.told q).d := ⟨_, rfl⟩
  obtain ⟨te, hte⟩ : ∃ x, x = (Wd.told q).e := ⟨_, rfl⟩
  rw [← htn, ← htd, ← hte] at HRT
  have HTL := Lib.hid (show Wd.told q = ⟨tn, td, te⟩ by rw [htn, htd, hte])
  clear htn htd hte
  clear hT e1 e2 e3 e4 hop o1 o2
  go_enter Tryd.func64, Tryd.ntmps64
  go_wp2_with fail
  obtain ⟨n0_, n1_, n2_, hsz, hw0⟩ := three_new w (.cells #[.int .i64 n1, .int .i64 d1] 23) (.cells #[.int .i64 n2, .int .i64 d2] 23) (.cells #[.int .i64 0, .int .i64 0] 23)
  generalize (((w.alloc (.cells #[.int .i64 n1, .int .i64 d1] 23)).alloc (.cells #[.int .i64 n2, .int .i64 d2] 23)).alloc (.cells #[.int .i64 0, .int .i64 0] 23)) = W0 at *
  have k0_0 : W0.cell? ⟨w.heap.size, 0, none⟩ = some (.int .i64 n1) := cells_of n0_ 0
  have k0_1 : W0.cell? ⟨w.heap.size, 1, none⟩ = some (.int .i64 d1) := cells_of n0_ 1
  have q0 : w.heap.size < W0.heap.size := by omega
  have k1_0 : W0.cell? ⟨w.heap.size + 1, 0, none⟩ = some (.int .i64 n2) := cells_of n1_ 0
  have k1_1 : W0.cell? ⟨w.heap.size + 1, 1, none⟩ = some (.int .i64 d2) := cells_of n1_ 1
  have q1 : w.heap.size + 1 < W0.heap.size := by omega
  have k2_0 : W0.cell? ⟨w.heap.size + 1 + 1, 0, none⟩ = some (.int .i64 0) := cells_of n2_ 0
  have k2_1 : W0.cell? ⟨w.heap.size + 1 + 1, 1, none⟩ = some (.int .i64 0) := cells_of n2_ 1
  have q2 : w.heap.size + 1 + 1 < W0.heap.size := by omega
  have f2_0 := unfrozen_of n2_ 0
  have f2_1 := unfrozen_of n2_ 1
  have e3 : w.heap.size + 1 + 1 + 1 = W0.heap.size := by omega
  have e3' : w.heap.size + 3 = W0.heap.size := by omega
  clear hsz n0_ n1_ n2_
  try rw [e3]
  try rw [e3']
  clear e3 e3'
  have hnew := heap_alloc_new W0 (.cells #[.int .i64 n1, .int .i64 d1, .int .i64 n2, .int .i64 d2] 23)
  refine (first_any n1 d1 n2 d2 W0.heap.size _ (((unhide HT).below hw0).alloc _) (lt_of_block hnew) (cells_of hnew 0) (cells_of hnew 1) (cells_of hnew 2) (cells_of hnew 3)).mono ?_
  clear hnew
  rintro e W1 ⟨rfl, hb⟩
  have hbx := below_step' (w := W0) (below_alloc (Below.refl _ _) _) hb
  clear hb
  rw [HE.out]
  obtain ⟨hc, hfz⟩ := bcell hbx
  replace k0_0 := (hc _ _ q0).trans k0_0
  replace k0_1 := (hc _ _ q0).trans k0_1
  replace k1_0 := (hc _ _ q1).trans k1_0
  replace k1_1 := (hc _ _ q1).trans k1_1
  replace k2_0 := (hc _ _ q2).trans k2_0
  replace k2_1 := (hc _ _ q2).trans k2_1
  replace f2_0 := (hfz _ _ q2).trans f2_0
  replace f2_1 := (hfz _ _ q2).trans f2_1
  replace q0 := Nat.lt_of_lt_of_le q0 hbx.size
  replace q1 := Nat.lt_of_lt_of_le q1 hbx.size
  replace q2 := Nat.lt_of_lt_of_le q2 hbx.size
  replace hw0 := below_step' hw0 hbx
  clear hc hfz hbx
  have KEEP := hide (show ∀ X, Below W1.heap.size W1 X → X.cell? ⟨w.heap.size, 0, none⟩ = some (.int .i64 n1) ∧ X.cell? ⟨w.heap.size, 1, none⟩ = some (.int .i64 d1) ∧ X.cell? ⟨w.heap.size + 1, 0, none⟩ = some (.int .i64 n2) ∧ X.cell? ⟨w.heap.size + 1, 1, none⟩ = some (.int .i64 d2) from fun X hB => ⟨keep_cell hB q0 k0_0, keep_cell hB q0 k0_1, keep_cell hB q1 k1_0, keep_cell hB q1 k1_1⟩)
  go_wp2_with fail
  go_region_held3 (fun w' => w'.cell? ⟨w.heap.size, 0, none⟩ = some (.int .i64 n1) ∧ w'.cell? ⟨w.heap.size, 1, none⟩ = some (.int .i64 d1) ∧ w'.cell? ⟨w.heap.size + 1, 0, none⟩ = some (.int .i64 n2) ∧ w'.cell? ⟨w.heap.size + 1, 1, none⟩ = some (.int .i64 d2)) (first | with_reducible exact ⟨(cell_set2 _ _ _ _ (by omega)).trans (keep_cell hbw q0 k0_0), (cell_set2 _ _ _ _ (by omega)).trans (keep_cell hbw q0 k0_1), (cell_set2 _ _ _ _ (by omega)).trans (keep_cell hbw q1 k1_0), (cell_set2 _ _ _ _ (by omega)).trans (keep_cell hbw q1 k1_1)⟩ | with_reducible exact (unhide KEEP) _ (by (repeat (first | with_reducible exact Below.refl _ _ | with_reducible assumption | with_reducible refine Below.drew ?_ | with_reducible refine below_alloc ?_ _)))) (first | (go_at_call_of 35 (Value.agg #[.int .i64 n1, .int .i64 d1]); refine ((unhide HO1) _).mono ?_; rintro e w' ⟨s5, neg5, A5, c5, l5, s6, neg6, A6, c6, l6, rfl, hf5, hf6, hb5⟩; have hbw := below_step (w := W1) (by (repeat (first | with_reducible exact Below.refl _ _ | with_reducible assumption | with_reducible refine Below.drew ?_ | with_reducible refine below_alloc ?_ _))) hb5; have hsw := hbw.size; obtain ⟨hc, hfz⟩ := bcell hbw) | (go_at_call_of 35 (Value.agg #[.int .i64 n2, .int .i64 d2]); refine ((unhide HO2) _).mono ?_; rintro e w' ⟨s7, neg7, A7, c7, l7, s8, neg8, A8, c8, l8, rfl, hf7, hf8, hb7⟩; have hf5 := IntF.below (IntF.below hf5 (by (repeat (first | with_reducible exact Below.refl _ _ | with_reducible assumption | with_reducible refine Below.drew ?_ | with_reducible refine below_alloc ?_ _)))) hb7; have hf6 := IntF.below (IntF.below hf6 (by (repeat (first | with_reducible exact Below.refl _ _ | with_reducible assumption | with_reducible refine Below.drew ?_ | with_reducible refine below_alloc ?_ _)))) hb7; have hbw := below_step (w := W1) (by (repeat (first | with_reducible exact Below.refl _ _ | with_reducible assumption | with_reducible refine Below.drew ?_ | with_reducible refine below_alloc ?_ _))) hb7; have hsw := hbw.size; obtain ⟨hc, hfz⟩ := bcell hbw) | (go_at_call_of 50 (Value.agg #[.int .i64 s5, .bool neg5, .slice A5 l5.length c5, .int .i64 s6, .bool neg6, .slice A6 l6.length c6]); refine ((unhide HOP) s5 neg5 A5 c5 l5 s6 neg6 A6 c6 l6 s7 neg7 A7 c7 l7 s8 neg8 A8 c8 l8 _ (below_step' hw0 (by (repeat (first | with_reducible exact Below.refl _ _ | with_reducible assumption | with_reducible refine Below.drew ?_ | with_reducible refine below_alloc ?_ _)))) (IntF.below hf5 (by (repeat (first | with_reducible exact Below.refl _ _ | with_reducible assumption | with_reducible refine Below.drew ?_ | with_reducible refine below_alloc ?_ _)))) (IntF.below hf6 (by (repeat (first | with_reducible exact Below.refl _ _ | with_reducible assumption | with_reducible refine Below.drew ?_ | with_reducible refine below_alloc ?_ _)))) (IntF.below hf7 (by (repeat (first | with_reducible exact Below.refl _ _ | with_reducible assumption | with_reducible refine Below.drew ?_ | with_reducible refine below_alloc ?_ _)))) (IntF.below hf8 (by (repeat (first | with_reducible exact Below.refl _ _ | with_reducible assumption | with_reducible refine Below.drew ?_ | with_reducible refine below_alloc ?_ _))))).mono ?_; rintro e w' ⟨s9, neg9, A9, c9, l9, s10, neg10, A10, c10, l10, rfl, hf9, hf10, hb9⟩; have hbw := below_step (w := W1) (by (repeat (first | with_reducible exact Below.refl _ _ | with_reducible assumption | with_reducible refine Below.drew ?_ | with_reducible refine below_alloc ?_ _))) hb9; have hsw := hbw.size; obtain ⟨hc, hfz⟩ := bcell hbw) | (go_at_call_of 32 (Value.agg #[.int .i64 s9, .bool neg9, .slice A9 l9.length c9, .int .i64 s10, .bool neg10, .slice A10 l10.length c10]); refine ((unhide HRT) s9 neg9 A9 c9 l9 s10 neg10 A10 c10 l10 _ (IntF.below hf9 (by (repeat (first | with_reducible exact Below.refl _ _ | with_reducible assumption | with_reducible refine Below.drew ?_ | with_reducible refine below_alloc ?_ _)))) (IntF.below hf10 (by (repeat (first | with_reducible exact Below.refl _ _ | with_reducible assumption | with_reducible refine Below.drew ?_ | with_reducible refine below_alloc ?_ _))))).mono ?_; rintro e w' ⟨rfl, hb10⟩; have hbw := below_step (w := W1) (by (repeat (first | with_reducible exact Below.refl _ _ | with_reducible assumption | with_reducible refine Below.drew ?_ | with_reducible refine below_alloc ?_ _))) hb10; have hsw := hbw.size; obtain ⟨hc, hfz⟩ := bcell hbw))
  have hb9 : Below w.heap.size w w' := below_step' hw0 hbw
  go_wp2_with fail
  exact bodyPost_ret (v := .tuple #[.agg #[.int .i64 tn, .int .i64 td], .int .i64 te]) (by simp [results, Tryd.results64, go_sem, hc, k2_0, k2_1, q2]) rfl
    ⟨HTL.out ▸ rfl, hb9.grown (set2_grown _ _ _ _) hb9.size (fun k hk => by injection hk with hk; omega)⟩
set_option maxRecDepth 100000 in
set_option maxHeartbeats 16000000 in
theorem comb_mul_bad (n1 d1 n2 d2 : Int) (w : World) (hT : Tab w) (hbad : ¬ (Wd.okR n1 d1 ∧ Wd.okR n2 d2)) :
    Calls Tryd.prog 64 #[(Value.agg #[.int .i64 n1, .int .i64 d1]), (Value.agg #[.int .i64 n2, .int .i64 d2]), Value.func (Fn.func 65) #[] #[]] w fun e w' => TolR w ⟨0, 0, 1⟩ e w' := by
  have HT := hide hT
  have HE := Lib.hid (show fstE n1 d1 n2 d2 = 1 from if_neg hbad)
  clear hT hbad
  go_enter Tryd.func64, Tryd.ntmps64
  go_wp2_with fail
  obtain ⟨n0_, n1_, n2_, hsz, hw0⟩ := three_new w (.cells #[.int .i64 n1, .int .i64 d1] 23) (.cells #[.int .i64 n2, .int .i64 d2] 23) (.cells #[.int .i64 0, .int .i64 0] 23)
  generalize (((w.alloc (.cells #[.int .i64 n1, .int .i64 d1] 23)).alloc (.cells #[.int .i64 n2, .int .i64 d2] 23)).alloc (.cells #[.int .i64 0, .int .i64 0] 23)) = W0 at *
  have k0_0 : W0.cell? ⟨w.heap.size, 0, none⟩ = some (.int .i64 n1) := cells_of n0_ 0
  have k0_1 : W0.cell? ⟨w.heap.size, 1, none⟩ = some (.int .i64 d1) := cells_of n0_ 1
  have q0 : w.heap.size < W0.heap.size := by omega
  have k1_0 : W0.cell? ⟨w.heap.size + 1, 0, none⟩ = some (.int .i64 n2) := cells_of n1_ 0
  have k1_1 : W0.cell? ⟨w.heap.size + 1, 1, none⟩ = some (.int .i64 d2) := cells_of n1_ 1
  have q1 : w.heap.size + 1 < W0.heap.size := by omega
  have k2_0 : W0.cell? ⟨w.heap.size + 1 + 1, 0, none⟩ = some (.int .i64 0) := cells_of n2_ 0
  have k2_1 : W0.cell? ⟨w.heap.size + 1 + 1, 1, none⟩ = some (.int .i64 0) := cells_of n2_ 1
  have q2 : w.heap.size + 1 + 1 < W0.heap.size := by omega
  have f2_0 := unfrozen_of n2_ 0
  have f2_1 := unfrozen_of n2_ 1
  have e3 : w.heap.size + 1 + 1 + 1 = W0.heap.size := by omega
  have e3' : w.heap.size + 3 = W0.heap.size := by omega
  clear hsz n0_ n1_ n2_
  try rw [e3]
  try rw [e3']
  clear e3 e3'
  have hnew := heap_alloc_new W0 (.cells #[.int .i64 n1, .int .i64 d1, .int .i64 n2, .int .i64 d2] 23)
  refine (first_any n1 d1 n2 d2 W0.heap.size _ (((unhide HT).below hw0).alloc _) (lt_of_block hnew) (cells_of hnew 0) (cells_of hnew 1) (cells_of hnew 2) (cells_of hnew 3)).mono ?_
  clear hnew
  rintro e W1 ⟨rfl, hb⟩
  have hbx := below_step' (w := W0) (below_alloc (Below.refl _ _) _) hb
  clear hb
  rw [HE.out]
  obtain ⟨hc, hfz⟩ := bcell hbx
  replace k0_0 := (hc _ _ q0).trans k0_0
  replace k0_1 := (hc _ _ q0).trans k0_1
  replace k1_0 := (hc _ _ q1).trans k1_0
  replace k1_1 := (hc _ _ q1).trans k1_1
  replace k2_0 := (hc _ _ q2).trans k2_0
  replace k2_1 := (hc _ _ q2).trans k2_1
  replace f2_0 := (hfz _ _ q2).trans f2_0
  replace f2_1 := (hfz _ _ q2).trans f2_1
  replace q0 := Nat.lt_of_lt_of_le q0 hbx.size
  replace q1 := Nat.lt_of_lt_of_le q1 hbx.size
  replace q2 := Nat.lt_of_lt_of_le q2 hbx.size
  replace hw0 := below_step' hw0 hbx
  clear hc hfz hbx
  go_wp2
  exact bodyPost_ret (v := .tuple #[.agg #[.int .i64 0, .int .i64 0], .int .i64 1]) (by simp [results, Tryd.results64, go_sem, k2_0, k2_1, q2]) rfl
    ⟨rfl, hw0.grown (set2_grown _ _ _ _) hw0.size (fun k hk => by injection hk with hk; omega)⟩
set_option maxRecDepth 100000 in
set_option maxHeartbeats 16000000 in
theorem comb_mul_good (n1 d1 n2 d2 : Int) (w : World) (hT : Tab w) (ok : Wd.okR n1 d1 ∧ Wd.okR n2 d2) (q : Rat) (hop : OpQ2 w 65 (Wd.qR n1 d1) (Wd.qR n2 d2) q) :
    Calls Tryd.prog 64 #[(Value.agg #[.int .i64 n1, .int .i64 d1]), (Value.agg #[.int .i64 n2, .int .i64 d2]), Value.func (Fn.func 65) #[] #[]] w fun e w' => TolR w (Wd.told q) e w' := by
  have HT := hide hT
  have HE := Lib.hid (show fstE n1 d1 n2 d2 = 0 from if_pos ok)
  obtain ⟨e1, e2⟩ := Wd.qR_ok ok.1
  obtain ⟨e3, e4⟩ := Wd.qR_ok ok.2
  unfold OpQ2 at hop
  rw [e1, e2, e3, e4] at hop
  have HOP := hide hop
  obtain ⟨o1, o2⟩ := ok
  have HO1 := hide (fun W => rof_any n1 d1 W (by have := o1.2.2.1; omega) (by have := o1.2.2.2.1; omega) (by have := o1.1; omega) (by have := o1.2.1; omega))
  have HO2 := hide (fun W => rof_any n2 d2 W (by have := o2.2.2.1; omega) (by have := o2.2.2.2.1; omega) (by have := o2.1; omega) (by have := o2.2.1; omega))
  have HRT := hide (fun (s9 : Int) (neg9 : Bool) (A9 : Option Addr) (c9 : Nat) (l9 : List Nat) (s10 : Int) (neg10 : Bool) (A10 : Option Addr) (c10 : Nat) (l10 : List Nat) (W : World) (f9 : IntF W s9 neg9 A9 c9 l9 q.num) (f10 : IntF W s10 neg10 A10 c10 l10 (q.den : Int)) => rrat_any s9 neg9 A9 c9 l9 q.num s10 neg10 A10 c10 l10 (q.den : Int) W f9 f10 q rfl rfl)
  obtain ⟨tn, htn⟩ : ∃ x, x = (Wd.told q).n := ⟨_, rfl⟩
  obtain ⟨td, htd⟩ : ∃ x, x = (Wd.told q).d := ⟨_, rfl⟩
  obtain ⟨te, hte⟩ : ∃ x, x = (Wd.told q).e := ⟨_, rfl⟩
  rw [← htn, ← htd, ← hte] at HRT
  have HTL := Lib.hid (show Wd.told q = ⟨tn, td, te⟩ by rw [htn, htd, hte])
  clear htn htd hte
  clear hT e1 e2 e3 e4 hop o1 o2
  go_enter Tryd.func64, Tryd.ntmps64
  go_wp2_with fail
  obtain ⟨n0_, n1_, n2_, hsz, hw0⟩ := three_new w (.cells #[.int .i64 n1, .int .i64 d1] 23) (.cells #[.int .i64 n2, .int .i64 d2] 23) (.cells #[.int .i64 0, .int .i64 0] 23)
  generalize (((w.alloc (.cells #[.int .i64 n1, .int .i64 d1] 23)).alloc (.cells #[.int .i64 n2, .int .i64 d2] 23)).alloc (.cells #[.int .i64 0, .int .i64 0] 23)) = W0 at *
  have k0_0 : W0.cell? ⟨w.heap.size, 0, none⟩ = some (.int .i64 n1) := cells_of n0_ 0
  have k0_1 : W0.cell? ⟨w.heap.size, 1, none⟩ = some (.int .i64 d1) := cells_of n0_ 1
  have q0 : w.heap.size < W0.heap.size := by omega
  have k1_0 : W0.cell? ⟨w.heap.size + 1, 0, none⟩ = some (.int .i64 n2) := cells_of n1_ 0
  have k1_1 : W0.cell? ⟨w.heap.size + 1, 1, none⟩ = some (.int .i64 d2) := cells_of n1_ 1
  have q1 : w.heap.size + 1 < W0.heap.size := by omega
  have k2_0 : W0.cell? ⟨w.heap.size + 1 + 1, 0, none⟩ = some (.int .i64 0) := cells_of n2_ 0
  have k2_1 : W0.cell? ⟨w.heap.size + 1 + 1, 1, none⟩ = some (.int .i64 0) := cells_of n2_ 1
  have q2 : w.heap.size + 1 + 1 < W0.heap.size := by omega
  have f2_0 := unfrozen_of n2_ 0
  have f2_1 := unfrozen_of n2_ 1
  have e3 : w.heap.size + 1 + 1 + 1 = W0.heap.size := by omega
  have e3' : w.heap.size + 3 = W0.heap.size := by omega
  clear hsz n0_ n1_ n2_
  try rw [e3]
  try rw [e3']
  clear e3 e3'
  have hnew := heap_alloc_new W0 (.cells #[.int .i64 n1, .int .i64 d1, .int .i64 n2, .int .i64 d2] 23)
  refine (first_any n1 d1 n2 d2 W0.heap.size _ (((unhide HT).below hw0).alloc _) (lt_of_block hnew) (cells_of hnew 0) (cells_of hnew 1) (cells_of hnew 2) (cells_of hnew 3)).mono ?_
  clear hnew
  rintro e W1 ⟨rfl, hb⟩
  have hbx := below_step' (w := W0) (below_alloc (Below.refl _ _) _) hb
  clear hb
  rw [HE.out]
  obtain ⟨hc, hfz⟩ := bcell hbx
  replace k0_0 := (hc _ _ q0).trans k0_0
  replace k0_1 := (hc _ _ q0).trans k0_1
  replace k1_0 := (hc _ _ q1).trans k1_0
  replace k1_1 := (hc _ _ q1).trans k1_1
  replace k2_0 := (hc _ _ q2).trans k2_0
  replace k2_1 := (hc _ _ q2).trans k2_1
  replace f2_0 := (hfz _ _ q2).trans f2_0
  replace f2_1 := (hfz _ _ q2).trans f2_1
  replace q0 := Nat.lt_of_lt_of_le q0 hbx.size
  replace q1 := Nat.lt_of_lt_of_le q1 hbx.size
  replace q2 := Nat.lt_of_lt_of_le q2 hbx.size
  replace hw0 := below_step' hw0 hbx
  clear hc hfz hbx
  have KEEP := hide (show ∀ X, Below W1.heap.size W1 X → X.cell? ⟨w.heap.size, 0, none⟩ = some (.int .i64 n1) ∧ X.cell? ⟨w.heap.size, 1, none⟩ = some (.int .i64 d1) ∧ X.cell? ⟨w.heap.size + 1, 0, none⟩ = some (.int .i64 n2) ∧ X.cell? ⟨w.heap.size + 1, 1, none⟩ = some (.int .i64 d2) from fun X hB => ⟨keep_cell hB q0 k0_0, keep_cell hB q0 k0_1, keep_cell hB q1 k1_0, keep_cell hB q1 k1_1⟩)
  go_wp2_with fail
  go_region_held3 (fun w' => w'.cell? ⟨w.heap.size, 0, none⟩ = some (.int .i64 n1) ∧ w'.cell? ⟨w.heap.size, 1, none⟩ = some (.int .i64 d1) ∧ w'.cell? ⟨w.heap.size + 1, 0, none⟩ = some (.int .i64 n2) ∧ w'.cell? ⟨w.heap.size + 1, 1, none⟩ = some (.int .i64 d2)) (first | with_reducible exact ⟨(cell_set2 _ _ _ _ (by omega)).trans (keep_cell hbw q0 k0_0), (cell_set2 _ _ _ _ (by omega)).trans (keep_cell hbw q0 k0_1), (cell_set2 _ _ _ _ (by omega)).trans (keep_cell hbw q1 k1_0), (cell_set2 _ _ _ _ (by omega)).trans (keep_cell hbw q1 k1_1)⟩ | with_reducible exact (unhide KEEP) _ (by (repeat (first | with_reducible exact Below.refl _ _ | with_reducible assumption | with_reducible refine Below.drew ?_ | with_reducible refine below_alloc ?_ _)))) (first | (go_at_call_of 35 (Value.agg #[.int .i64 n1, .int .i64 d1]); refine ((unhide HO1) _).mono ?_; rintro e w' ⟨s5, neg5, A5, c5, l5, s6, neg6, A6, c6, l6, rfl, hf5, hf6, hb5⟩; have hbw := below_step (w := W1) (by (repeat (first | with_reducible exact Below.refl _ _ | with_reducible assumption | with_reducible refine Below.drew ?_ | with_reducible refine below_alloc ?_ _))) hb5; have hsw := hbw.size; obtain ⟨hc, hfz⟩ := bcell hbw) | (go_at_call_of 35 (Value.agg #[.int .i64 n2, .int .i64 d2]); refine ((unhide HO2) _).mono ?_; rintro e w' ⟨s7, neg7, A7, c7, l7, s8, neg8, A8, c8, l8, rfl, hf7, hf8, hb7⟩; have hf5 := IntF.below (IntF.below hf5 (by (repeat (first | with_reducible exact Below.refl _ _ | with_reducible assumption | with_reducible refine Below.drew ?_ | with_reducible refine below_alloc ?_ _)))) hb7; have hf6 := IntF.below (IntF.below hf6 (by (repeat (first | with_reducible exact Below.refl _ _ | with_reducible assumption | with_reducible refine Below.drew ?_ | with_reducible refine below_alloc ?_ _)))) hb7; have hbw := below_step (w := W1) (by (repeat (first | with_reducible exact Below.refl _ _ | with_reducible assumption | with_reducible refine Below.drew ?_ | with_reducible refine below_alloc ?_ _))) hb7; have hsw := hbw.size; obtain ⟨hc, hfz⟩ := bcell hbw) | (go_at_call_of 65 (Value.agg #[.int .i64 s5, .bool neg5, .slice A5 l5.length c5, .int .i64 s6, .bool neg6, .slice A6 l6.length c6]); refine ((unhide HOP) s5 neg5 A5 c5 l5 s6 neg6 A6 c6 l6 s7 neg7 A7 c7 l7 s8 neg8 A8 c8 l8 _ (below_step' hw0 (by (repeat (first | with_reducible exact Below.refl _ _ | with_reducible assumption | with_reducible refine Below.drew ?_ | with_reducible refine below_alloc ?_ _)))) (IntF.below hf5 (by (repeat (first | with_reducible exact Below.refl _ _ | with_reducible assumption | with_reducible refine Below.drew ?_ | with_reducible refine below_alloc ?_ _)))) (IntF.below hf6 (by (repeat (first | with_reducible exact Below.refl _ _ | with_reducible assumption | with_reducible refine Below.drew ?_ | with_reducible refine below_alloc ?_ _)))) (IntF.below hf7 (by (repeat (first | with_reducible exact Below.refl _ _ | with_reducible assumption | with_reducible refine Below.drew ?_ | with_reducible refine below_alloc ?_ _)))) (IntF.below hf8 (by (repeat (first | with_reducible exact Below.refl _ _ | with_reducible assumption | with_reducible refine Below.drew ?_ | with_reducible refine below_alloc ?_ _))))).mono ?_; rintro e w' ⟨s9, neg9, A9, c9, l9, s10, neg10, A10, c10, l10, rfl, hf9, hf10, hb9⟩; have hbw := below_step (w := W1) (by (repeat (first | with_reducible exact Below.refl _ _ | with_reducible assumption | with_reducible refine Below.drew ?_ | with_reducible refine below_alloc ?_ _))) hb9; have hsw := hbw.size; obtain ⟨hc, hfz⟩ := bcell hbw) | (go_at_call_of 32 (Value.agg #[.int .i64 s9, .bool neg9, .slice A9 l9.length c9, .int .i64 s10, .bool neg10, .slice A10 l10.length c10]); refine ((unhide HRT) s9 neg9 A9 c9 l9 s10 neg10 A10 c10 l10 _ (IntF.below hf9 (by (repeat (first | with_reducible exact Below.refl _ _ | with_reducible assumption | with_reducible refine Below.drew ?_ | with_reducible refine below_alloc ?_ _)))) (IntF.below hf10 (by (repeat (first | with_reducible exact Below.refl _ _ | with_reducible assumption | with_reducible refine Below.drew ?_ | with_reducible refine below_alloc ?_ _))))).mono ?_; rintro e w' ⟨rfl, hb10⟩; have hbw := below_step (w := W1) (by (repeat (first | with_reducible exact Below.refl _ _ | with_reducible assumption | with_reducible refine Below.drew ?_ | with_reducible refine below_alloc ?_ _))) hb10; have hsw := hbw.size; obtain ⟨hc, hfz⟩ := bcell hbw))
  have hb9 : Below w.heap.size w w' := below_step' hw0 hbw
  go_wp2_with fail
  exact bodyPost_ret (v := .tuple #[.agg #[.int .i64 tn, .int .i64 td], .int .i64 te]) (by simp [results, Tryd.results64, go_sem, hc, k2_0, k2_1, q2]) rfl
    ⟨HTL.out ▸ rfl, hb9.grown (set2_grown _ _ _ _) hb9.size (fun k hk => by injection hk with hk; omega)⟩

end Go.Proofs.YtaaccgjopcgbfaaDoor
