/- Part 8 of the texts beneath a law of layer 1: NearK, RtNew, RatM, Known, RfA, RfMul, RfPl, Simp, Cf, FrB, FrA, FrO, RfSh. -/
import Derived.Test.YtmahhmdodfimbaaGreatDoorCd7
import Derived.BigQuiet
import Derived.Deep.QuietTactic
import Derived.OwnWalk
import Derived.Laws.Bits64b
/- The number nearest to 22/7 with a denominator of at most 5. -/
namespace Go.Proofs.YtmahhmdodfimbaaGreatDoor
open Go.RowKit

set_option maxRecDepth 100000 in
set_option maxHeartbeats 16000000 in
theorem near_known (w : World) (hT : Tab w) :
    Calls Tryz.prog 18 #[(Value.agg #[.int .i64 22, .int .i64 7]), .int .i64 5] w fun e w' => e = .returned (.tuple #[(Value.agg #[.int .i64 16, .int .i64 5]), .int .i64 0]) ∧ Below w.heap.size w w' := by
  have HV := hide (val_any 22 7)
  rw [show valE 22 7 = 0 by decide] at HV
  have HNB := hide nb_known
  have HO := hide (fun W => rof_any 22 7 W (by omega) (by omega) (by omega) (by omega))
  have HO1 := hide (fun W => rof_any 3 1 W (by omega) (by omega) (by omega) (by omega))
  have HO2 := hide (fun W => rof_any 16 5 W (by omega) (by omega) (by omega) (by omega))
  have o1 : Wd.okR 22 7 := by decide
  have o2 : Wd.okR 3 1 := by decide
  have o3 : Wd.okR 16 5 := by decide
  obtain ⟨e1, e2⟩ := Wd.qR_ok o1
  obtain ⟨e3, e4⟩ := Wd.qR_ok o2
  obtain ⟨e5, e6⟩ := Wd.qR_ok o3
  obtain ⟨hs1, z1⟩ := opq_sub hT (Wd.qR 22 7) (Wd.qR 3 1) (okR_sz o1) (okR_sz o2) lim3
  obtain ⟨hs2, z2⟩ := opq_sub hT (Wd.qR 16 5) (Wd.qR 22 7) (okR_sz o3) (okR_sz o1) lim3
  have hcc := opc_cmp w _ _ z1 z2 (by unfold lim; omega)
  rw [show sgn ((Wd.qR 22 7 - Wd.qR 3 1).num * (Wd.qR 16 5 - Wd.qR 22 7).den - (Wd.qR 16 5 - Wd.qR 22 7).num * (Wd.qR 22 7 - Wd.qR 3 1).den) = 1 by decide +kernel] at hcc
  unfold OpQ2 at hs1 hs2
  unfold OpC at hcc
  rw [e1, e2, e3, e4] at hs1
  rw [e5, e6, e1, e2] at hs2
  generalize Wd.qR 22 7 - Wd.qR 3 1 = u at *
  generalize Wd.qR 16 5 - Wd.qR 22 7 = v at *
  have HS1 := hide hs1
  have HS2 := hide hs2
  have HCC := hide hcc
  have HT := hide hT
  clear hT o1 o2 o3 e1 e2 e3 e4 e5 e6 hs1 hs2 z1 z2 hcc
  go_enter Tryz.func18, Tryz.ntmps18
  go_wp2_with fail
  obtain ⟨n0_, n1_, hsz, hw0⟩ := two_new w (.cells #[.int .i64 22, .int .i64 7] 23) (.cells #[.int .i64 0, .int .i64 0] 23)
  generalize ((w.alloc (.cells #[.int .i64 22, .int .i64 7] 23)).alloc (.cells #[.int .i64 0, .int .i64 0] 23)) = W0 at *
  clear hsz
  refine ((unhide HV) _ ((unhide HT).below hw0)).mono ?_
  rintro e W1 ⟨rfl, hb⟩
  have x1 := (hb.block _ (lt_of_block n0_)).trans n0_
  have r1 := (hb.block _ (lt_of_block n1_)).trans n1_
  have hw1 := below_step' hw0 hb
  clear n0_ n1_ hb hw0 W0
  have k0 : W1.cell? ⟨w.heap.size, 0, none⟩ = some (.int .i64 22) := cells_of x1 0
  have k1 : W1.cell? ⟨w.heap.size, 1, none⟩ = some (.int .i64 7) := cells_of x1 1
  have X1 := hide x1
  have R1 := hide r1
  clear x1 r1
  go_wp2_with fail
  refine ((unhide HNB) _).mono ?_
  rintro e W2 ⟨rfl, hb⟩
  have x1 := (hb.block _ (lt_of_block (unhide X1))).trans (unhide X1)
  have r1 := (hb.block _ (lt_of_block (unhide R1))).trans (unhide R1)
  have hw2 := below_step' hw1 hb
  clear k0 k1 hb hw1 X1 R1
  have k0 : W2.cell? ⟨w.heap.size, 0, none⟩ = some (.int .i64 22) := cells_of x1 0
  have k1 : W2.cell? ⟨w.heap.size, 1, none⟩ = some (.int .i64 7) := cells_of x1 1
  have X1 := hide x1
  have R1 := hide r1
  clear x1 r1
  go_upto_region 9 with fail
  obtain ⟨n7, n8, hsz, hb⟩ := two_new W2 (.cells #[.int .i64 3, .int .i64 1] 23) (.cells #[.int .i64 16, .int .i64 5] 23)
  have x1 := (hb.block _ (lt_of_block (unhide X1))).trans (unhide X1)
  have r1 := (hb.block _ (lt_of_block (unhide R1))).trans (unhide R1)
  have hw3 := below_step' hw2 hb
  generalize ((W2.alloc (.cells #[.int .i64 3, .int .i64 1] 23)).alloc (.cells #[.int .i64 16, .int .i64 5] 23)) = W3 at *
  have ob7 : w.heap.size + 1 < W2.heap.size := lt_of_block (unhide R1)
  obtain ⟨b7, hb7⟩ : ∃ b, b = W2.heap.size := ⟨_, rfl⟩
  rw [← hb7] at n7 n8 ob7 ⊢
  clear k0 k1 hb hw2 X1 R1 hsz hb7
  have k0 : W3.cell? ⟨w.heap.size, 0, none⟩ = some (.int .i64 22) := cells_of x1 0
  have k1 : W3.cell? ⟨w.heap.size, 1, none⟩ = some (.int .i64 7) := cells_of x1 1
  go_wp2_with fail
  refine ((unhide HO) _).mono ?_
  rintro e W4 ⟨s1, neg1, A1, c1, l1, s2, neg2, A2, c2, l2, rfl, hf1, hf2, hb⟩
  go_upto_region 10 with fail
  have n9 := heap_alloc_new W4 (.cells #[.int .i64 s1, .bool neg1, .slice A1 l1.length c1, .int .i64 s2, .bool neg2, .slice A2 l2.length c2] 63)
  have hn : Below W4.heap.size W4 (W4.alloc (.cells #[.int .i64 s1, .bool neg1, .slice A1 l1.length c1, .int .i64 s2, .bool neg2, .slice A2 l2.length c2] 63)) := below_alloc (Below.refl _ _) _
  have ob9 : W3.heap.size ≤ W4.heap.size := hb.size
  generalize W4.alloc (.cells #[.int .i64 s1, .bool neg1, .slice A1 l1.length c1, .int .i64 s2, .bool neg2, .slice A2 l2.length c2] 63) = W5 at *
  obtain ⟨b9, hb9⟩ : ∃ b, b = W4.heap.size := ⟨_, rfl⟩
  rw [← hb9] at n9 ob9 ⊢
  have hB5 := below_step' hb hn
  have H1 := hide (hf1.below hn)
  have H2 := hide (hf2.below hn)
  have m7 := (hB5.block _ (lt_of_block n7)).trans n7
  have m8 := (hB5.block _ (lt_of_block n8)).trans n8
  have mr := (hB5.block _ (lt_of_block r1)).trans r1
  have HB := Lib.hid (below_step' hw3 hB5)
  have HM8 := hide m8
  have HMR := hide mr
  have kb7_0 : W5.cell? ⟨b7, 0, none⟩ = some (.int .i64 3) := cells_of m7 0
  have kb7_1 : W5.cell? ⟨b7, 1, none⟩ = some (.int .i64 1) := cells_of m7 1
  have kb8_0 : W5.cell? ⟨b7 + 1, 0, none⟩ = some (.int .i64 16) := cells_of m8 0
  have kb8_1 : W5.cell? ⟨b7 + 1, 1, none⟩ = some (.int .i64 5) := cells_of m8 1
  have kb9_0 : W5.cell? ⟨b9, 0, none⟩ = some (.int .i64 s1) := cells_of n9 0
  have kb9_1 : W5.cell? ⟨b9, 1, none⟩ = some (.bool neg1) := cells_of n9 1
  have kb9_2 : W5.cell? ⟨b9, 2, none⟩ = some (.slice A1 l1.length c1) := cells_of n9 2
  have kb9_3 : W5.cell? ⟨b9, 3, none⟩ = some (.int .i64 s2) := cells_of n9 3
  have kb9_4 : W5.cell? ⟨b9, 4, none⟩ = some (.bool neg2) := cells_of n9 4
  have kb9_5 : W5.cell? ⟨b9, 5, none⟩ = some (.slice A2 l2.length c2) := cells_of n9 5
  have qb7 := lt_of_block m7
  have qb8 := lt_of_block m8
  have qb9 := lt_of_block n9
  clear k0 k1 hf1 hf2 hb hn n7 n8 n9 x1 r1 m7 m8 mr hw3 hB5 ob9 hb9
  have KEEP := hide (show ∀ X, Below W5.heap.size W5 X → X.cell? ⟨b7, 0, none⟩ = some (.int .i64 3) ∧ X.cell? ⟨b7, 1, none⟩ = some (.int .i64 1) ∧ X.cell? ⟨b7 + 1, 0, none⟩ = some (.int .i64 16) ∧ X.cell? ⟨b7 + 1, 1, none⟩ = some (.int .i64 5) ∧ X.cell? ⟨b9, 0, none⟩ = some (.int .i64 s1) ∧ X.cell? ⟨b9, 1, none⟩ = some (.bool neg1) ∧ X.cell? ⟨b9, 2, none⟩ = some (.slice A1 l1.length c1) ∧ X.cell? ⟨b9, 3, none⟩ = some (.int .i64 s2) ∧ X.cell? ⟨b9, 4, none⟩ = some (.bool neg2) ∧ X.cell? ⟨b9, 5, none⟩ = some (.slice A2 l2.length c2) from fun X hB => ⟨keep_cell hB qb7 kb7_0, keep_cell hB qb7 kb7_1, keep_cell hB qb8 kb8_0, keep_cell hB qb8 kb8_1, keep_cell hB qb9 kb9_0, keep_cell hB qb9 kb9_1, keep_cell hB qb9 kb9_2, keep_cell hB qb9 kb9_3, keep_cell hB qb9 kb9_4, keep_cell hB qb9 kb9_5⟩)
  go_region_held3 (fun w' => w'.cell? ⟨b7, 0, none⟩ = some (.int .i64 3) ∧ w'.cell? ⟨b7, 1, none⟩ = some (.int .i64 1) ∧ w'.cell? ⟨b7 + 1, 0, none⟩ = some (.int .i64 16) ∧ w'.cell? ⟨b7 + 1, 1, none⟩ = some (.int .i64 5) ∧ w'.cell? ⟨b9, 0, none⟩ = some (.int .i64 s1) ∧ w'.cell? ⟨b9, 1, none⟩ = some (.bool neg1) ∧ w'.cell? ⟨b9, 2, none⟩ = some (.slice A1 l1.length c1) ∧ w'.cell? ⟨b9, 3, none⟩ = some (.int .i64 s2) ∧ w'.cell? ⟨b9, 4, none⟩ = some (.bool neg2) ∧ w'.cell? ⟨b9, 5, none⟩ = some (.slice A2 l2.length c2)) (exact (unhide KEEP) _ (by (repeat (first | with_reducible exact Below.refl _ _ | with_reducible assumption | with_reducible refine Below.drew ?_ | with_reducible refine below_alloc ?_ _)))) (first | (go_at_call_of 50 (Value.agg #[.int .i64 3, .int .i64 1]); refine ((unhide HO1) _).mono ?_; rintro e w' ⟨s5, neg5, A5, c5, l5, s6, neg6, A6, c6, l6, rfl, hf5, hf6, hb5⟩; have hbw := below_step (w := W5) (by (repeat (first | with_reducible exact Below.refl _ _ | with_reducible assumption | with_reducible refine Below.drew ?_ | with_reducible refine below_alloc ?_ _))) hb5; have hsw := hbw.size; obtain ⟨hc, hfz⟩ := bcell hbw) | (go_at_call_of 61 (Value.agg #[.int .i64 s1, .bool neg1, .slice A1 l1.length c1, .int .i64 s2, .bool neg2, .slice A2 l2.length c2]); refine ((unhide HS1) s1 neg1 A1 c1 l1 s2 neg2 A2 c2 l2 s5 neg5 A5 c5 l5 s6 neg6 A6 c6 l6 _ (below_step' HB.out (by (repeat (first | with_reducible exact Below.refl _ _ | with_reducible assumption | with_reducible refine Below.drew ?_ | with_reducible refine below_alloc ?_ _)))) (IntF.below (unhide H1) (by (repeat (first | with_reducible exact Below.refl _ _ | with_reducible assumption | with_reducible refine Below.drew ?_ | with_reducible refine below_alloc ?_ _)))) (IntF.below (unhide H2) (by (repeat (first | with_reducible exact Below.refl _ _ | with_reducible assumption | with_reducible refine Below.drew ?_ | with_reducible refine below_alloc ?_ _)))) (IntF.below hf5 (by (repeat (first | with_reducible exact Below.refl _ _ | with_reducible assumption | with_reducible refine Below.drew ?_ | with_reducible refine below_alloc ?_ _)))) (IntF.below hf6 (by (repeat (first | with_reducible exact Below.refl _ _ | with_reducible assumption | with_reducible refine Below.drew ?_ | with_reducible refine below_alloc ?_ _))))).mono ?_; rintro e w' ⟨s7, neg7, A7, c7, l7, s8, neg8, A8, c8, l8, rfl, hf7, hf8, hb7⟩; have hbw := below_step (w := W5) (by (repeat (first | with_reducible exact Below.refl _ _ | with_reducible assumption | with_reducible refine Below.drew ?_ | with_reducible refine below_alloc ?_ _))) hb7; have hsw := hbw.size; obtain ⟨hc, hfz⟩ := bcell hbw) | (go_at_call_of 50 (Value.agg #[.int .i64 16, .int .i64 5]); refine ((unhide HO2) _).mono ?_; rintro e w' ⟨s9, neg9, A9, c9, l9, s10, neg10, A10, c10, l10, rfl, hf9, hf10, hb9⟩; have hf7 := IntF.below (IntF.below hf7 (by (repeat (first | with_reducible exact Below.refl _ _ | with_reducible assumption | with_reducible refine Below.drew ?_ | with_reducible refine below_alloc ?_ _)))) hb9; have hf8 := IntF.below (IntF.below hf8 (by (repeat (first | with_reducible exact Below.refl _ _ | with_reducible assumption | with_reducible refine Below.drew ?_ | with_reducible refine below_alloc ?_ _)))) hb9; have hbw := below_step (w := W5) (by (repeat (first | with_reducible exact Below.refl _ _ | with_reducible assumption | with_reducible refine Below.drew ?_ | with_reducible refine below_alloc ?_ _))) hb9; have hsw := hbw.size; obtain ⟨hc, hfz⟩ := bcell hbw) | (go_at_call_of 61 (Value.agg #[.int .i64 s9, .bool neg9, .slice A9 l9.length c9, .int .i64 s10, .bool neg10, .slice A10 l10.length c10]); refine ((unhide HS2) s9 neg9 A9 c9 l9 s10 neg10 A10 c10 l10 s1 neg1 A1 c1 l1 s2 neg2 A2 c2 l2 _ (below_step' HB.out (by (repeat (first | with_reducible exact Below.refl _ _ | with_reducible assumption | with_reducible refine Below.drew ?_ | with_reducible refine below_alloc ?_ _)))) (IntF.below hf9 (by (repeat (first | with_reducible exact Below.refl _ _ | with_reducible assumption | with_reducible refine Below.drew ?_ | with_reducible refine below_alloc ?_ _)))) (IntF.below hf10 (by (repeat (first | with_reducible exact Below.refl _ _ | with_reducible assumption | with_reducible refine Below.drew ?_ | with_reducible refine below_alloc ?_ _)))) (IntF.below (unhide H1) (by (repeat (first | with_reducible exact Below.refl _ _ | with_reducible assumption | with_reducible refine Below.drew ?_ | with_reducible refine below_alloc ?_ _)))) (IntF.below (unhide H2) (by (repeat (first | with_reducible exact Below.refl _ _ | with_reducible assumption | with_reducible refine Below.drew ?_ | with_reducible refine below_alloc ?_ _))))).mono ?_; rintro e w' ⟨s11, neg11, A11, c11, l11, s12, neg12, A12, c12, l12, rfl, hf11, hf12, hb11⟩; have hf7 := IntF.below (IntF.below hf7 (by (repeat (first | with_reducible exact Below.refl _ _ | with_reducible assumption | with_reducible refine Below.drew ?_ | with_reducible refine below_alloc ?_ _)))) hb11; have hf8 := IntF.below (IntF.below hf8 (by (repeat (first | with_reducible exact Below.refl _ _ | with_reducible assumption | with_reducible refine Below.drew ?_ | with_reducible refine below_alloc ?_ _)))) hb11; have hbw := below_step (w := W5) (by (repeat (first | with_reducible exact Below.refl _ _ | with_reducible assumption | with_reducible refine Below.drew ?_ | with_reducible refine below_alloc ?_ _))) hb11; have hsw := hbw.size; obtain ⟨hc, hfz⟩ := bcell hbw) | (go_at_call_of 62 (Value.agg #[.int .i64 s7, .bool neg7, .slice A7 l7.length c7, .int .i64 s8, .bool neg8, .slice A8 l8.length c8]); refine ((unhide HCC) s7 neg7 A7 c7 l7 s8 neg8 A8 c8 l8 s11 neg11 A11 c11 l11 s12 neg12 A12 c12 l12 _ (below_step' HB.out (by (repeat (first | with_reducible exact Below.refl _ _ | with_reducible assumption | with_reducible refine Below.drew ?_ | with_reducible refine below_alloc ?_ _)))) (IntF.below hf7 (by (repeat (first | with_reducible exact Below.refl _ _ | with_reducible assumption | with_reducible refine Below.drew ?_ | with_reducible refine below_alloc ?_ _)))) (IntF.below hf8 (by (repeat (first | with_reducible exact Below.refl _ _ | with_reducible assumption | with_reducible refine Below.drew ?_ | with_reducible refine below_alloc ?_ _)))) (IntF.below hf11 (by (repeat (first | with_reducible exact Below.refl _ _ | with_reducible assumption | with_reducible refine Below.drew ?_ | with_reducible refine below_alloc ?_ _)))) (IntF.below hf12 (by (repeat (first | with_reducible exact Below.refl _ _ | with_reducible assumption | with_reducible refine Below.drew ?_ | with_reducible refine below_alloc ?_ _))))).mono ?_; rintro e w' ⟨rfl, hb13⟩; have hbw := below_step (w := W5) (by (repeat (first | with_reducible exact Below.refl _ _ | with_reducible assumption | with_reducible refine Below.drew ?_ | with_reducible refine below_alloc ?_ _))) hb13; have hsw := hbw.size; obtain ⟨hc, hfz⟩ := bcell hbw))
  have hbb := below_step' HB.out hbw
  have m8 := (hbw.block _ qb8).trans (unhide HM8)
  have mr := (hbw.block _ (lt_of_block (unhide HMR))).trans (unhide HMR)
  clear hf7 hf8 hf11 hf12 hc hfz KEEP kb7_0 kb7_1 kb8_0 kb8_1
  have k0 : w'.cell? ⟨b7 + 1, 0, none⟩ = some (.int .i64 16) := cells_of m8 0
  have k1 : w'.cell? ⟨b7 + 1, 1, none⟩ = some (.int .i64 5) := cells_of m8 1
  have r0 : w'.cell? ⟨w.heap.size + 1, 0, none⟩ = some (.int .i64 0) := cells_of mr 0
  have r1 : w'.cell? ⟨w.heap.size + 1, 1, none⟩ = some (.int .i64 0) := cells_of mr 1
  have f0 : w'.frozen? ⟨w.heap.size + 1, 0, none⟩ = false := unfrozen_of mr 0
  have f1 : w'.frozen? ⟨w.heap.size + 1, 1, none⟩ = false := unfrozen_of mr 1
  go_wp2_with fail
  exact bodyPost_ret (v := .tuple #[(Value.agg #[.int .i64 16, .int .i64 5]), .int .i64 0]) (by simp [results, Tryz.results18, go_sem, r0, r1]) rfl
    ⟨rfl, hbb.grown (set2_grown _ _ _ _) hbb.size (fun k hk => by injection hk with hk; omega)⟩

end Go.Proofs.YtmahhmdodfimbaaGreatDoor
/- A quotient of two whole numbers, in lowest terms. -/
namespace Go.Proofs.YtmahhmdodfimbaaGreatDoor
open Go.RowKit

set_option maxRecDepth 100000 in
set_option maxHeartbeats 16000000 in
theorem newr_pos (s1 : Int) (neg1 : Bool) (A1 : Option Addr) (c1 : Nat) (l1 : List Nat) (s2 : Int) (neg2 : Bool) (A2 : Option Addr) (c2 : Nat) (l2 : List Nat) (z1 z2 g r1 r2 : Int) (w : World) (f1 : IntF w s1 neg1 A1 c1 l1 z1) (f2 : IntF w s2 neg2 A2 c2 l2 z2) (hs : ¬ z2 < 0)
    (hg : Op2 w 124 z1 z2 g) (hq1 : Op2 w 125 z1 g r1) (hq2 : Op2 w 125 z2 g r2) :
    Calls Tryz.prog 101 #[(Value.agg #[.int .i64 s1, .bool neg1, .slice A1 l1.length c1]), (Value.agg #[.int .i64 s2, .bool neg2, .slice A2 l2.length c2])] w fun e w' => PairR w r1 r2 e w' := by

  have H1 := hide f1
  have H2 := hide f2
  have HG := hide hg
  have HQ1 := hide hq1
  have HQ2 := hide hq2
  have hs' : decide (sgn z2 < 0) = false := decide_eq_false (by rw [sgn_neg]; exact hs)
  obtain ⟨o, ho⟩ : ∃ o, o = sgn z2 := ⟨_, rfl⟩
  have HS := hide (fun W (f : IntF W s2 neg2 A2 c2 l2 z2) => (show Calls Tryz.prog 128 #[(Value.agg #[.int .i64 s2, .bool neg2, .slice A2 l2.length c2])] W fun e w' => e = .returned (.int .i64 o) ∧ Below W.heap.size W w' by rw [ho]; exact sign_any s2 neg2 A2 c2 l2 z2 W f))
  rw [← ho] at hs'
  clear f1 f2 hg hq1 hq2 hs ho
  go_enter Tryz.func101, Tryz.ntmps101
  go_upto_region 1 with fail
  obtain ⟨n0, n1, n2, hsz, hw0⟩ := three_new w (.cells #[.int .i64 s1, .bool neg1, .slice A1 l1.length c1] 61) (.cells #[.int .i64 s2, .bool neg2, .slice A2 l2.length c2] 61) (.cells #[.int .i64 0, .bool false, .slice none 0 0, .int .i64 0, .bool false, .slice none 0 0] 63)
  generalize (((w.alloc (.cells #[.int .i64 s1, .bool neg1, .slice A1 l1.length c1] 61)).alloc (.cells #[.int .i64 s2, .bool neg2, .slice A2 l2.length c2] 61)).alloc (.cells #[.int .i64 0, .bool false, .slice none 0 0, .int .i64 0, .bool false, .slice none 0 0] 63)) = W0 at *
  have k0_0 : W0.cell? ⟨w.heap.size, 0, none⟩ = some (.int .i64 s1) := cells_of n0 0
  have k0_1 : W0.cell? ⟨w.heap.size, 1, none⟩ = some (.bool neg1) := cells_of n0 1
  have k0_2 : W0.cell? ⟨w.heap.size, 2, none⟩ = some (.slice A1 l1.length c1) := cells_of n0 2
  have q0 : w.heap.size < W0.heap.size := by omega
  have k1_0 : W0.cell? ⟨w.heap.size + 1, 0, none⟩ = some (.int .i64 s2) := cells_of n1 0
  have k1_1 : W0.cell? ⟨w.heap.size + 1, 1, none⟩ = some (.bool neg2) := cells_of n1 1
  have k1_2 : W0.cell? ⟨w.heap.size + 1, 2, none⟩ = some (.slice A2 l2.length c2) := cells_of n1 2
  have q1 : w.heap.size + 1 < W0.heap.size := by omega
  have k2_0 : W0.cell? ⟨w.heap.size + 1 + 1, 0, none⟩ = some (.int .i64 0) := cells_of n2 0
  have k2_1 : W0.cell? ⟨w.heap.size + 1 + 1, 1, none⟩ = some (.bool false) := cells_of n2 1
  have k2_2 : W0.cell? ⟨w.heap.size + 1 + 1, 2, none⟩ = some (.slice none 0 0) := cells_of n2 2
  have k2_3 : W0.cell? ⟨w.heap.size + 1 + 1, 3, none⟩ = some (.int .i64 0) := cells_of n2 3
  have k2_4 : W0.cell? ⟨w.heap.size + 1 + 1, 4, none⟩ = some (.bool false) := cells_of n2 4
  have k2_5 : W0.cell? ⟨w.heap.size + 1 + 1, 5, none⟩ = some (.slice none 0 0) := cells_of n2 5
  have q2 : w.heap.size + 1 + 1 < W0.heap.size := by omega
  have f2_0 := unfrozen_of n2 0
  have f2_1 := unfrozen_of n2 1
  have f2_2 := unfrozen_of n2 2
  have f2_3 := unfrozen_of n2 3
  have f2_4 := unfrozen_of n2 4
  have f2_5 := unfrozen_of n2 5
  have NR := Lib.hid n2
  clear hsz n0 n1 n2
  replace H1 := hide ((unhide H1).below hw0)
  replace H2 := hide ((unhide H2).below hw0)
  go_cut [5] (fun s5_ wx => ∃ b5 : Nat, s5_ = .pointer (some ⟨b5, 0, none⟩) ∧ BoxI wx b5 g ∧ Below W0.heap.size W0 wx ∧ W0.heap.size ≤ b5)
  case first =>
    go_wp2_with fail
    refine ((unhide HG) s1 neg1 A1 c1 l1 s2 neg2 A2 c2 l2 _ hw0 (unhide H1) (unhide H2)).mono ?_
    rintro e w' ⟨s5, neg5, A5, c5, l5, rfl, hf5, hb5⟩
    go_wp2_with fail
    go_meet
    exact ⟨_, rfl, put_n hf5 hb5 rfl⟩
  case rest =>
    revert hcut
    generalize wc = W1
    intro hcut
    obtain ⟨b5, rfl, ⟨s5, neg5, A5, c5, l5, n5, f5⟩, hB1, ob5⟩ := hcut
    have k5_0 : W1.cell? ⟨b5, 0, none⟩ = some (.int .i64 s5) := cells_of n5 0
    have k5_1 : W1.cell? ⟨b5, 1, none⟩ = some (.bool neg5) := cells_of n5 1
    have k5_2 : W1.cell? ⟨b5, 2, none⟩ = some (.slice A5 l5.length c5) := cells_of n5 2
    have y0 : W1.cell? ⟨w.heap.size + 1, 0, none⟩ = some (.int .i64 s2) := keep_cell hB1 q1 k1_0
    have y1 : W1.cell? ⟨w.heap.size + 1, 1, none⟩ = some (.bool neg2) := keep_cell hB1 q1 k1_1
    have y2 : W1.cell? ⟨w.heap.size + 1, 2, none⟩ = some (.slice A2 l2.length c2) := keep_cell hB1 q1 k1_2
    go_wp2_with fail
    refine ((unhide HS) W1 ((unhide H2).below hB1)).mono ?_
    rintro e W2 ⟨rfl, hb⟩
    have q5 := lt_of_block n5
    have n5' := (hb.block _ q5).trans n5
    have f5' := f5.below hb
    have hB := below_step' hB1 hb
    clear k5_0 k5_1 k5_2 y0 y1 y2 f5 n5 hB1
    have ng := n5'
    have fg := f5'
    clear n5' f5' hb
    have FG := hide fg
    clear fg
    have k0_0' : W2.cell? ⟨w.heap.size, 0, none⟩ = some (.int .i64 s1) := keep_cell hB q0 k0_0
    have k0_1' : W2.cell? ⟨w.heap.size, 1, none⟩ = some (.bool neg1) := keep_cell hB q0 k0_1
    have k0_2' : W2.cell? ⟨w.heap.size, 2, none⟩ = some (.slice A1 l1.length c1) := keep_cell hB q0 k0_2
    have q0' : w.heap.size < W2.heap.size := Nat.lt_of_lt_of_le q0 hB.size
    have k1_0' : W2.cell? ⟨w.heap.size + 1, 0, none⟩ = some (.int .i64 s2) := keep_cell hB q1 k1_0
    have k1_1' : W2.cell? ⟨w.heap.size + 1, 1, none⟩ = some (.bool neg2) := keep_cell hB q1 k1_1
    have k1_2' : W2.cell? ⟨w.heap.size + 1, 2, none⟩ = some (.slice A2 l2.length c2) := keep_cell hB q1 k1_2
    have q1' : w.heap.size + 1 < W2.heap.size := Nat.lt_of_lt_of_le q1 hB.size
    have k5_0' := cells_of ng 0
    have k5_1' := cells_of ng 1
    have k5_2' := cells_of ng 2
    have q5' := lt_of_block ng
    simp only [Array.getElem?_eq_getElem, three0, three1, three2] at k5_0' k5_1' k5_2'
    have kr_0 : W2.cell? ⟨w.heap.size + 1 + 1, 0, none⟩ = some (.int .i64 0) := keep_cell hB q2 k2_0
    have fr_0 : W2.frozen? ⟨w.heap.size + 1 + 1, 0, none⟩ = false := (hB.frozen (p := ⟨w.heap.size + 1 + 1, 0, none⟩) q2).trans f2_0
    have kr_1 : W2.cell? ⟨w.heap.size + 1 + 1, 1, none⟩ = some (.bool false) := keep_cell hB q2 k2_1
    have fr_1 : W2.frozen? ⟨w.heap.size + 1 + 1, 1, none⟩ = false := (hB.frozen (p := ⟨w.heap.size + 1 + 1, 1, none⟩) q2).trans f2_1
    have kr_2 : W2.cell? ⟨w.heap.size + 1 + 1, 2, none⟩ = some (.slice none 0 0) := keep_cell hB q2 k2_2
    have fr_2 : W2.frozen? ⟨w.heap.size + 1 + 1, 2, none⟩ = false := (hB.frozen (p := ⟨w.heap.size + 1 + 1, 2, none⟩) q2).trans f2_2
    have kr_3 : W2.cell? ⟨w.heap.size + 1 + 1, 3, none⟩ = some (.int .i64 0) := keep_cell hB q2 k2_3
    have fr_3 : W2.frozen? ⟨w.heap.size + 1 + 1, 3, none⟩ = false := (hB.frozen (p := ⟨w.heap.size + 1 + 1, 3, none⟩) q2).trans f2_3
    have kr_4 : W2.cell? ⟨w.heap.size + 1 + 1, 4, none⟩ = some (.bool false) := keep_cell hB q2 k2_4
    have fr_4 : W2.frozen? ⟨w.heap.size + 1 + 1, 4, none⟩ = false := (hB.frozen (p := ⟨w.heap.size + 1 + 1, 4, none⟩) q2).trans f2_4
    have kr_5 : W2.cell? ⟨w.heap.size + 1 + 1, 5, none⟩ = some (.slice none 0 0) := keep_cell hB q2 k2_5
    have fr_5 : W2.frozen? ⟨w.heap.size + 1 + 1, 5, none⟩ = false := (hB.frozen (p := ⟨w.heap.size + 1 + 1, 5, none⟩) q2).trans f2_5
    have qr : w.heap.size + 1 + 1 < W2.heap.size := Nat.lt_of_lt_of_le q2 hB.size
    have or5 : w.heap.size + 1 + 1 < b5 := Nat.lt_of_lt_of_le q2 ob5
    clear k0_0 k0_1 k0_2 k1_0 k1_1 k1_2 k2_0 k2_1 k2_2 k2_3 k2_4 k2_5 f2_0 f2_1 f2_2 f2_3 f2_4 f2_5 ng
    have KEEP := hide (show ∀ X, Below W2.heap.size W2 X → X.cell? ⟨w.heap.size, 0, none⟩ = some (.int .i64 s1) ∧ X.cell? ⟨w.heap.size, 1, none⟩ = some (.bool neg1) ∧ X.cell? ⟨w.heap.size, 2, none⟩ = some (.slice A1 l1.length c1) ∧ X.cell? ⟨w.heap.size + 1, 0, none⟩ = some (.int .i64 s2) ∧ X.cell? ⟨w.heap.size + 1, 1, none⟩ = some (.bool neg2) ∧ X.cell? ⟨w.heap.size + 1, 2, none⟩ = some (.slice A2 l2.length c2) ∧ X.cell? ⟨b5, 0, none⟩ = some (.int .i64 s5) ∧ X.cell? ⟨b5, 1, none⟩ = some (.bool neg5) ∧ X.cell? ⟨b5, 2, none⟩ = some (.slice A5 l5.length c5) from fun X hX => ⟨keep_cell hX q0' k0_0', keep_cell hX q0' k0_1', keep_cell hX q0' k0_2', keep_cell hX q1' k1_0', keep_cell hX q1' k1_1', keep_cell hX q1' k1_2', keep_cell hX q5' k5_0', keep_cell hX q5' k5_1', keep_cell hX q5' k5_2'⟩)
    go_wp2_with fail
    go_region_held3 (fun w' => w'.cell? ⟨w.heap.size, 0, none⟩ = some (.int .i64 s1) ∧ w'.cell? ⟨w.heap.size, 1, none⟩ = some (.bool neg1) ∧ w'.cell? ⟨w.heap.size, 2, none⟩ = some (.slice A1 l1.length c1) ∧ w'.cell? ⟨w.heap.size + 1, 0, none⟩ = some (.int .i64 s2) ∧ w'.cell? ⟨w.heap.size + 1, 1, none⟩ = some (.bool neg2) ∧ w'.cell? ⟨w.heap.size + 1, 2, none⟩ = some (.slice A2 l2.length c2) ∧ w'.cell? ⟨b5, 0, none⟩ = some (.int .i64 s5) ∧ w'.cell? ⟨b5, 1, none⟩ = some (.bool neg5) ∧ w'.cell? ⟨b5, 2, none⟩ = some (.slice A5 l5.length c5)) (first | with_reducible exact ⟨(cell_set6 _ _ _ _ _ _ _ _ (by omega)).trans (keep_cell hbw q0' k0_0'), (cell_set6 _ _ _ _ _ _ _ _ (by omega)).trans (keep_cell hbw q0' k0_1'), (cell_set6 _ _ _ _ _ _ _ _ (by omega)).trans (keep_cell hbw q0' k0_2'), (cell_set6 _ _ _ _ _ _ _ _ (by omega)).trans (keep_cell hbw q1' k1_0'), (cell_set6 _ _ _ _ _ _ _ _ (by omega)).trans (keep_cell hbw q1' k1_1'), (cell_set6 _ _ _ _ _ _ _ _ (by omega)).trans (keep_cell hbw q1' k1_2'), (cell_set6 _ _ _ _ _ _ _ _ (by omega)).trans (keep_cell hbw q5' k5_0'), (cell_set6 _ _ _ _ _ _ _ _ (by omega)).trans (keep_cell hbw q5' k5_1'), (cell_set6 _ _ _ _ _ _ _ _ (by omega)).trans (keep_cell hbw q5' k5_2')⟩ | with_reducible exact (unhide KEEP) _ (by (repeat (first | with_reducible exact Below.refl _ _ | with_reducible assumption | with_reducible refine Below.drew ?_ | with_reducible refine below_alloc ?_ _)))) (first | (go_at_call_of 125 (Value.agg #[.int .i64 s1, .bool neg1, .slice A1 l1.length c1]); refine ((unhide HQ1) s1 neg1 A1 c1 l1 s5 neg5 A5 c5 l5 _ (below_step' hw0 (below_step' hB (by (repeat (first | with_reducible exact Below.refl _ _ | with_reducible assumption | with_reducible refine Below.drew ?_ | with_reducible refine below_alloc ?_ _))))) (IntF.below (unhide H1) (below_step' hB (by (repeat (first | with_reducible exact Below.refl _ _ | with_reducible assumption | with_reducible refine Below.drew ?_ | with_reducible refine below_alloc ?_ _))))) (IntF.below (unhide FG) (by (repeat (first | with_reducible exact Below.refl _ _ | with_reducible assumption | with_reducible refine Below.drew ?_ | with_reducible refine below_alloc ?_ _))))).mono ?_; rintro e w' ⟨s8, neg8, A8, c8, l8, rfl, hf8, hb8⟩; have hbw := below_step (w := W2) (by (repeat (first | with_reducible exact Below.refl _ _ | with_reducible assumption | with_reducible refine Below.drew ?_ | with_reducible refine below_alloc ?_ _))) hb8; have hsw := hbw.size; obtain ⟨hc, hfz⟩ := bcell hbw) | (go_at_call_of 125 (Value.agg #[.int .i64 s2, .bool neg2, .slice A2 l2.length c2]); refine ((unhide HQ2) s2 neg2 A2 c2 l2 s5 neg5 A5 c5 l5 _ (below_step' hw0 (below_step' hB (by (repeat (first | with_reducible exact Below.refl _ _ | with_reducible assumption | with_reducible refine Below.drew ?_ | with_reducible refine below_alloc ?_ _))))) (IntF.below (unhide H2) (below_step' hB (by (repeat (first | with_reducible exact Below.refl _ _ | with_reducible assumption | with_reducible refine Below.drew ?_ | with_reducible refine below_alloc ?_ _))))) (IntF.below (unhide FG) (by (repeat (first | with_reducible exact Below.refl _ _ | with_reducible assumption | with_reducible refine Below.drew ?_ | with_reducible refine below_alloc ?_ _))))).mono ?_; rintro e w' ⟨s9, neg9, A9, c9, l9, rfl, hf9, hb9⟩; have hf8 := IntF.below (IntF.below hf8 (by (repeat (first | with_reducible exact Below.refl _ _ | with_reducible assumption | with_reducible refine Below.drew ?_ | with_reducible refine below_alloc ?_ _)))) hb9; have hbw := below_step (w := W2) (by (repeat (first | with_reducible exact Below.refl _ _ | with_reducible assumption | with_reducible refine Below.drew ?_ | with_reducible refine below_alloc ?_ _))) hb9; have hsw := hbw.size; obtain ⟨hc, hfz⟩ := bcell hbw))
    have hBB : Below W0.heap.size W0 w' := below_step' hB hbw
    have hblk : w'.heap[w.heap.size + 1 + 1]? = some (.cells #[.int .i64 0, .bool false, .slice none 0 0, .int .i64 0, .bool false, .slice none 0 0] 63 (0, 0)) := (hBB.block _ q2).trans NR.out
    have HBLK := Lib.hid hblk
    have hb9 : Below w.heap.size w w' := below_step' hw0 hBB
    clear hblk
    go_wp2_with fail
    exact bodyPost_ret (v := (Value.agg #[.int .i64 s8, .bool neg8, .slice A8 l8.length c8, .int .i64 s9, .bool neg9, .slice A9 l9.length c9])) (by simp [results, Tryz.results101, go_sem, hc, kr_0, kr_1, kr_2, kr_3, kr_4, kr_5, qr]) rfl
      ⟨s8, neg8, A8, c8, l8, s9, neg9, A9, c9, l9, rfl, (hf8).upto HBLK.out (noWord6 _ _ _ _ _ _ _ _ _ _) (set6_grown _ _ _ _ _ _ _ _), (hf9).upto HBLK.out (noWord6 _ _ _ _ _ _ _ _ _ _) (set6_grown _ _ _ _ _ _ _ _), hb9.grown (set6_grown _ _ _ _ _ _ _ _) hb9.size (fun k hk => by injection hk with hk; omega)⟩
set_option maxRecDepth 100000 in
set_option maxHeartbeats 16000000 in
theorem newr_neg (s1 : Int) (neg1 : Bool) (A1 : Option Addr) (c1 : Nat) (l1 : List Nat) (s2 : Int) (neg2 : Bool) (A2 : Option Addr) (c2 : Nat) (l2 : List Nat) (z1 z2 g gn r1 r2 : Int) (w : World) (f1 : IntF w s1 neg1 A1 c1 l1 z1) (f2 : IntF w s2 neg2 A2 c2 l2 z2) (hs : z2 < 0) (hgn : gn = -g)
    (hg : Op2 w 124 z1 z2 g) (hq1 : Op2 w 125 z1 gn r1) (hq2 : Op2 w 125 z2 gn r2) :
    Calls Tryz.prog 101 #[(Value.agg #[.int .i64 s1, .bool neg1, .slice A1 l1.length c1]), (Value.agg #[.int .i64 s2, .bool neg2, .slice A2 l2.length c2])] w fun e w' => PairR w r1 r2 e w' := by
  subst hgn
  have H1 := hide f1
  have H2 := hide f2
  have HG := hide hg
  have HQ1 := hide hq1
  have HQ2 := hide hq2
  have hs' : decide (sgn z2 < 0) = true := decide_eq_true (by rw [sgn_neg]; exact hs)
  obtain ⟨o, ho⟩ : ∃ o, o = sgn z2 := ⟨_, rfl⟩
  have HS := hide (fun W (f : IntF W s2 neg2 A2 c2 l2 z2) => (show Calls Tryz.prog 128 #[(Value.agg #[.int .i64 s2, .bool neg2, .slice A2 l2.length c2])] W fun e w' => e = .returned (.int .i64 o) ∧ Below W.heap.size W w' by rw [ho]; exact sign_any s2 neg2 A2 c2 l2 z2 W f))
  rw [← ho] at hs'
  clear f1 f2 hg hq1 hq2 hs ho
  go_enter Tryz.func101, Tryz.ntmps101
  go_upto_region 1 with fail
  obtain ⟨n0, n1, n2, hsz, hw0⟩ := three_new w (.cells #[.int .i64 s1, .bool neg1, .slice A1 l1.length c1] 61) (.cells #[.int .i64 s2, .bool neg2, .slice A2 l2.length c2] 61) (.cells #[.int .i64 0, .bool false, .slice none 0 0, .int .i64 0, .bool false, .slice none 0 0] 63)
  generalize (((w.alloc (.cells #[.int .i64 s1, .bool neg1, .slice A1 l1.length c1] 61)).alloc (.cells #[.int .i64 s2, .bool neg2, .slice A2 l2.length c2] 61)).alloc (.cells #[.int .i64 0, .bool false, .slice none 0 0, .int .i64 0, .bool false, .slice none 0 0] 63)) = W0 at *
  have k0_0 : W0.cell? ⟨w.heap.size, 0, none⟩ = some (.int .i64 s1) := cells_of n0 0
  have k0_1 : W0.cell? ⟨w.heap.size, 1, none⟩ = some (.bool neg1) := cells_of n0 1
  have k0_2 : W0.cell? ⟨w.heap.size, 2, none⟩ = some (.slice A1 l1.length c1) := cells_of n0 2
  have q0 : w.heap.size < W0.heap.size := by omega
  have k1_0 : W0.cell? ⟨w.heap.size + 1, 0, none⟩ = some (.int .i64 s2) := cells_of n1 0
  have k1_1 : W0.cell? ⟨w.heap.size + 1, 1, none⟩ = some (.bool neg2) := cells_of n1 1
  have k1_2 : W0.cell? ⟨w.heap.size + 1, 2, none⟩ = some (.slice A2 l2.length c2) := cells_of n1 2
  have q1 : w.heap.size + 1 < W0.heap.size := by omega
  have k2_0 : W0.cell? ⟨w.heap.size + 1 + 1, 0, none⟩ = some (.int .i64 0) := cells_of n2 0
  have k2_1 : W0.cell? ⟨w.heap.size + 1 + 1, 1, none⟩ = some (.bool false) := cells_of n2 1
  have k2_2 : W0.cell? ⟨w.heap.size + 1 + 1, 2, none⟩ = some (.slice none 0 0) := cells_of n2 2
  have k2_3 : W0.cell? ⟨w.heap.size + 1 + 1, 3, none⟩ = some (.int .i64 0) := cells_of n2 3
  have k2_4 : W0.cell? ⟨w.heap.size + 1 + 1, 4, none⟩ = some (.bool false) := cells_of n2 4
  have k2_5 : W0.cell? ⟨w.heap.size + 1 + 1, 5, none⟩ = some (.slice none 0 0) := cells_of n2 5
  have q2 : w.heap.size + 1 + 1 < W0.heap.size := by omega
  have f2_0 := unfrozen_of n2 0
  have f2_1 := unfrozen_of n2 1
  have f2_2 := unfrozen_of n2 2
  have f2_3 := unfrozen_of n2 3
  have f2_4 := unfrozen_of n2 4
  have f2_5 := unfrozen_of n2 5
  have NR := Lib.hid n2
  clear hsz n0 n1 n2
  replace H1 := hide ((unhide H1).below hw0)
  replace H2 := hide ((unhide H2).below hw0)
  go_cut [5] (fun s5_ wx => ∃ b5 : Nat, s5_ = .pointer (some ⟨b5, 0, none⟩) ∧ BoxI wx b5 g ∧ Below W0.heap.size W0 wx ∧ W0.heap.size ≤ b5)
  case first =>
    go_wp2_with fail
    refine ((unhide HG) s1 neg1 A1 c1 l1 s2 neg2 A2 c2 l2 _ hw0 (unhide H1) (unhide H2)).mono ?_
    rintro e w' ⟨s5, neg5, A5, c5, l5, rfl, hf5, hb5⟩
    go_wp2_with fail
    go_meet
    exact ⟨_, rfl, put_n hf5 hb5 rfl⟩
  case rest =>
    revert hcut
    generalize wc = W1
    intro hcut
    obtain ⟨b5, rfl, ⟨s5, neg5, A5, c5, l5, n5, f5⟩, hB1, ob5⟩ := hcut
    have k5_0 : W1.cell? ⟨b5, 0, none⟩ = some (.int .i64 s5) := cells_of n5 0
    have k5_1 : W1.cell? ⟨b5, 1, none⟩ = some (.bool neg5) := cells_of n5 1
    have k5_2 : W1.cell? ⟨b5, 2, none⟩ = some (.slice A5 l5.length c5) := cells_of n5 2
    have y0 : W1.cell? ⟨w.heap.size + 1, 0, none⟩ = some (.int .i64 s2) := keep_cell hB1 q1 k1_0
    have y1 : W1.cell? ⟨w.heap.size + 1, 1, none⟩ = some (.bool neg2) := keep_cell hB1 q1 k1_1
    have y2 : W1.cell? ⟨w.heap.size + 1, 2, none⟩ = some (.slice A2 l2.length c2) := keep_cell hB1 q1 k1_2
    go_wp2_with fail
    refine ((unhide HS) W1 ((unhide H2).below hB1)).mono ?_
    rintro e W2 ⟨rfl, hb⟩
    have q5 := lt_of_block n5
    have n5' := (hb.block _ q5).trans n5
    have f5' := f5.below hb
    have hB := below_step' hB1 hb
    clear k5_0 k5_1 k5_2 y0 y1 y2 f5 n5 hB1
    have k5_0 : W2.cell? ⟨b5, 0, none⟩ = some (.int .i64 s5) := cells_of n5' 0
    have k5_1 : W2.cell? ⟨b5, 1, none⟩ = some (.bool neg5) := cells_of n5' 1
    have k5_2 : W2.cell? ⟨b5, 2, none⟩ = some (.slice A5 l5.length c5) := cells_of n5' 2
    have F5 := hide f5'
    clear f5' hb
    go_wp2_with fail
    refine (neg_any s5 neg5 A5 c5 l5 g _ (unhide F5)).mono ?_
    rintro e W3 ⟨s7, neg7, A7, c7, l7, rfl, hf7, hb⟩
    have n5 := (hb.block _ (lt_of_block n5')).trans n5'
    replace hB := below_step' hB hb
    clear k5_0 k5_1 k5_2 n5' hb
    have k5_0 : W3.cell? ⟨b5, 0, none⟩ = some (.int .i64 s5) := cells_of n5 0
    have k5_1 : W3.cell? ⟨b5, 1, none⟩ = some (.bool neg5) := cells_of n5 1
    have k5_2 : W3.cell? ⟨b5, 2, none⟩ = some (.slice A5 l5.length c5) := cells_of n5 2
    have u5_0 := unfrozen_of n5 0
    have u5_1 := unfrozen_of n5 1
    have u5_2 := unfrozen_of n5 2
    have HF7 := hide hf7
    have N5 := hide n5
    clear hf7 n5
    go_upto_region 4 with fail
    have pb := set3_block (u0 := .int .i64 s7) (u1 := .bool neg7) (u2 := .slice A7 l7.length c7) (unhide N5)
    have g3 := set3_grown W3 b5 (.int .i64 s7) (.bool neg7) (.slice A7 l7.length c7)
    have fg := (unhide HF7).upto (unhide N5) (noWord3 _ _ _ _ _) g3
    replace hB := hB.grown g3 hB.size (fun k hk => by injection hk with hk; omega)
    have ng := pb
    clear pb g3 k5_0 k5_1 k5_2 u5_0 u5_1 u5_2
    generalize (((W3.setCell ⟨b5, 0, none⟩ (.int .i64 s7)).setCell ⟨b5, 1, none⟩ (.bool neg7)).setCell ⟨b5, 2, none⟩ (.slice A7 l7.length c7)) = W4 at *
    have FG := hide fg
    clear fg
    have k0_0' : W4.cell? ⟨w.heap.size, 0, none⟩ = some (.int .i64 s1) := keep_cell hB q0 k0_0
    have k0_1' : W4.cell? ⟨w.heap.size, 1, none⟩ = some (.bool neg1) := keep_cell hB q0 k0_1
    have k0_2' : W4.cell? ⟨w.heap.size, 2, none⟩ = some (.slice A1 l1.length c1) := keep_cell hB q0 k0_2
    have q0' : w.heap.size < W4.heap.size := Nat.lt_of_lt_of_le q0 hB.size
    have k1_0' : W4.cell? ⟨w.heap.size + 1, 0, none⟩ = some (.int .i64 s2) := keep_cell hB q1 k1_0
    have k1_1' : W4.cell? ⟨w.heap.size + 1, 1, none⟩ = some (.bool neg2) := keep_cell hB q1 k1_1
    have k1_2' : W4.cell? ⟨w.heap.size + 1, 2, none⟩ = some (.slice A2 l2.length c2) := keep_cell hB q1 k1_2
    have q1' : w.heap.size + 1 < W4.heap.size := Nat.lt_of_lt_of_le q1 hB.size
    have k5_0' := cells_of ng 0
    have k5_1' := cells_of ng 1
    have k5_2' := cells_of ng 2
    have q5' := lt_of_block ng
    simp only [Array.getElem?_eq_getElem, three0, three1, three2] at k5_0' k5_1' k5_2'
    have kr_0 : W4.cell? ⟨w.heap.size + 1 + 1, 0, none⟩ = some (.int .i64 0) := keep_cell hB q2 k2_0
    have fr_0 : W4.frozen? ⟨w.heap.size + 1 + 1, 0, none⟩ = false := (hB.frozen (p := ⟨w.heap.size + 1 + 1, 0, none⟩) q2).trans f2_0
    have kr_1 : W4.cell? ⟨w.heap.size + 1 + 1, 1, none⟩ = some (.bool false) := keep_cell hB q2 k2_1
    have fr_1 : W4.frozen? ⟨w.heap.size + 1 + 1, 1, none⟩ = false := (hB.frozen (p := ⟨w.heap.size + 1 + 1, 1, none⟩) q2).trans f2_1
    have kr_2 : W4.cell? ⟨w.heap.size + 1 + 1, 2, none⟩ = some (.slice none 0 0) := keep_cell hB q2 k2_2
    have fr_2 : W4.frozen? ⟨w.heap.size + 1 + 1, 2, none⟩ = false := (hB.frozen (p := ⟨w.heap.size + 1 + 1, 2, none⟩) q2).trans f2_2
    have kr_3 : W4.cell? ⟨w.heap.size + 1 + 1, 3, none⟩ = some (.int .i64 0) := keep_cell hB q2 k2_3
    have fr_3 : W4.frozen? ⟨w.heap.size + 1 + 1, 3, none⟩ = false := (hB.frozen (p := ⟨w.heap.size + 1 + 1, 3, none⟩) q2).trans f2_3
    have kr_4 : W4.cell? ⟨w.heap.size + 1 + 1, 4, none⟩ = some (.bool false) := keep_cell hB q2 k2_4
    have fr_4 : W4.frozen? ⟨w.heap.size + 1 + 1, 4, none⟩ = false := (hB.frozen (p := ⟨w.heap.size + 1 + 1, 4, none⟩) q2).trans f2_4
    have kr_5 : W4.cell? ⟨w.heap.size + 1 + 1, 5, none⟩ = some (.slice none 0 0) := keep_cell hB q2 k2_5
    have fr_5 : W4.frozen? ⟨w.heap.size + 1 + 1, 5, none⟩ = false := (hB.frozen (p := ⟨w.heap.size + 1 + 1, 5, none⟩) q2).trans f2_5
    have qr : w.heap.size + 1 + 1 < W4.heap.size := Nat.lt_of_lt_of_le q2 hB.size
    have or5 : w.heap.size + 1 + 1 < b5 := Nat.lt_of_lt_of_le q2 ob5
    clear k0_0 k0_1 k0_2 k1_0 k1_1 k1_2 k2_0 k2_1 k2_2 k2_3 k2_4 k2_5 f2_0 f2_1 f2_2 f2_3 f2_4 f2_5 ng
    have KEEP := hide (show ∀ X, Below W4.heap.size W4 X → X.cell? ⟨w.heap.size, 0, none⟩ = some (.int .i64 s1) ∧ X.cell? ⟨w.heap.size, 1, none⟩ = some (.bool neg1) ∧ X.cell? ⟨w.heap.size, 2, none⟩ = some (.slice A1 l1.length c1) ∧ X.cell? ⟨w.heap.size + 1, 0, none⟩ = some (.int .i64 s2) ∧ X.cell? ⟨w.heap.size + 1, 1, none⟩ = some (.bool neg2) ∧ X.cell? ⟨w.heap.size + 1, 2, none⟩ = some (.slice A2 l2.length c2) ∧ X.cell? ⟨b5, 0, none⟩ = some (.int .i64 s7) ∧ X.cell? ⟨b5, 1, none⟩ = some (.bool neg7) ∧ X.cell? ⟨b5, 2, none⟩ = some (.slice A7 l7.length c7) from fun X hX => ⟨keep_cell hX q0' k0_0', keep_cell hX q0' k0_1', keep_cell hX q0' k0_2', keep_cell hX q1' k1_0', keep_cell hX q1' k1_1', keep_cell hX q1' k1_2', keep_cell hX q5' k5_0', keep_cell hX q5' k5_1', keep_cell hX q5' k5_2'⟩)
    go_wp2_with fail
    go_region_held3 (fun w' => w'.cell? ⟨w.heap.size, 0, none⟩ = some (.int .i64 s1) ∧ w'.cell? ⟨w.heap.size, 1, none⟩ = some (.bool neg1) ∧ w'.cell? ⟨w.heap.size, 2, none⟩ = some (.slice A1 l1.length c1) ∧ w'.cell? ⟨w.heap.size + 1, 0, none⟩ = some (.int .i64 s2) ∧ w'.cell? ⟨w.heap.size + 1, 1, none⟩ = some (.bool neg2) ∧ w'.cell? ⟨w.heap.size + 1, 2, none⟩ = some (.slice A2 l2.length c2) ∧ w'.cell? ⟨b5, 0, none⟩ = some (.int .i64 s7) ∧ w'.cell? ⟨b5, 1, none⟩ = some (.bool neg7) ∧ w'.cell? ⟨b5, 2, none⟩ = some (.slice A7 l7.length c7)) (first | with_reducible exact ⟨(cell_set6 _ _ _ _ _ _ _ _ (by omega)).trans (keep_cell hbw q0' k0_0'), (cell_set6 _ _ _ _ _ _ _ _ (by omega)).trans (keep_cell hbw q0' k0_1'), (cell_set6 _ _ _ _ _ _ _ _ (by omega)).trans (keep_cell hbw q0' k0_2'), (cell_set6 _ _ _ _ _ _ _ _ (by omega)).trans (keep_cell hbw q1' k1_0'), (cell_set6 _ _ _ _ _ _ _ _ (by omega)).trans (keep_cell hbw q1' k1_1'), (cell_set6 _ _ _ _ _ _ _ _ (by omega)).trans (keep_cell hbw q1' k1_2'), (cell_set6 _ _ _ _ _ _ _ _ (by omega)).trans (keep_cell hbw q5' k5_0'), (cell_set6 _ _ _ _ _ _ _ _ (by omega)).trans (keep_cell hbw q5' k5_1'), (cell_set6 _ _ _ _ _ _ _ _ (by omega)).trans (keep_cell hbw q5' k5_2')⟩ | with_reducible exact (unhide KEEP) _ (by (repeat (first | with_reducible exact Below.refl _ _ | with_reducible assumption | with_reducible refine Below.drew ?_ | with_reducible refine below_alloc ?_ _)))) (first | (go_at_call_of 125 (Value.agg #[.int .i64 s1, .bool neg1, .slice A1 l1.length c1]); refine ((unhide HQ1) s1 neg1 A1 c1 l1 s7 neg7 A7 c7 l7 _ (below_step' hw0 (below_step' hB (by (repeat (first | with_reducible exact Below.refl _ _ | with_reducible assumption | with_reducible refine Below.drew ?_ | with_reducible refine below_alloc ?_ _))))) (IntF.below (unhide H1) (below_step' hB (by (repeat (first | with_reducible exact Below.refl _ _ | with_reducible assumption | with_reducible refine Below.drew ?_ | with_reducible refine below_alloc ?_ _))))) (IntF.below (unhide FG) (by (repeat (first | with_reducible exact Below.refl _ _ | with_reducible assumption | with_reducible refine Below.drew ?_ | with_reducible refine below_alloc ?_ _))))).mono ?_; rintro e w' ⟨s8, neg8, A8, c8, l8, rfl, hf8, hb8⟩; have hbw := below_step (w := W4) (by (repeat (first | with_reducible exact Below.refl _ _ | with_reducible assumption | with_reducible refine Below.drew ?_ | with_reducible refine below_alloc ?_ _))) hb8; have hsw := hbw.size; obtain ⟨hc, hfz⟩ := bcell hbw) | (go_at_call_of 125 (Value.agg #[.int .i64 s2, .bool neg2, .slice A2 l2.length c2]); refine ((unhide HQ2) s2 neg2 A2 c2 l2 s7 neg7 A7 c7 l7 _ (below_step' hw0 (below_step' hB (by (repeat (first | with_reducible exact Below.refl _ _ | with_reducible assumption | with_reducible refine Below.drew ?_ | with_reducible refine below_alloc ?_ _))))) (IntF.below (unhide H2) (below_step' hB (by (repeat (first | with_reducible exact Below.refl _ _ | with_reducible assumption | with_reducible refine Below.drew ?_ | with_reducible refine below_alloc ?_ _))))) (IntF.below (unhide FG) (by (repeat (first | with_reducible exact Below.refl _ _ | with_reducible assumption | with_reducible refine Below.drew ?_ | with_reducible refine below_alloc ?_ _))))).mono ?_; rintro e w' ⟨s9, neg9, A9, c9, l9, rfl, hf9, hb9⟩; have hf8 := IntF.below (IntF.below hf8 (by (repeat (first | with_reducible exact Below.refl _ _ | with_reducible assumption | with_reducible refine Below.drew ?_ | with_reducible refine below_alloc ?_ _)))) hb9; have hbw := below_step (w := W4) (by (repeat (first | with_reducible exact Below.refl _ _ | with_reducible assumption | with_reducible refine Below.drew ?_ | with_reducible refine below_alloc ?_ _))) hb9; have hsw := hbw.size; obtain ⟨hc, hfz⟩ := bcell hbw))
    have hBB : Below W0.heap.size W0 w' := below_step' hB hbw
    have hblk : w'.heap[w.heap.size + 1 + 1]? = some (.cells #[.int .i64 0, .bool false, .slice none 0 0, .int .i64 0, .bool false, .slice none 0 0] 63 (0, 0)) := (hBB.block _ q2).trans NR.out
    have HBLK := Lib.hid hblk
    have hb9 : Below w.heap.size w w' := below_step' hw0 hBB
    clear hblk
    go_wp2_with fail
    exact bodyPost_ret (v := (Value.agg #[.int .i64 s8, .bool neg8, .slice A8 l8.length c8, .int .i64 s9, .bool neg9, .slice A9 l9.length c9])) (by simp [results, Tryz.results101, go_sem, hc, kr_0, kr_1, kr_2, kr_3, kr_4, kr_5, qr]) rfl
      ⟨s8, neg8, A8, c8, l8, s9, neg9, A9, c9, l9, rfl, (hf8).upto HBLK.out (noWord6 _ _ _ _ _ _ _ _ _ _) (set6_grown _ _ _ _ _ _ _ _), (hf9).upto HBLK.out (noWord6 _ _ _ _ _ _ _ _ _ _) (set6_grown _ _ _ _ _ _ _ _), hb9.grown (set6_grown _ _ _ _ _ _ _ _) hb9.size (fun k hk => by injection hk with hk; omega)⟩
theorem newr_any {K : Nat} (s1 : Int) (neg1 : Bool) (A1 : Option Addr) (c1 : Nat) (l1 : List Nat) (s2 : Int) (neg2 : Bool) (A2 : Option Addr) (c2 : Nat) (l2 : List Nat) (z1 z2 : Int) (w : World) (hT : Tab w) (f1 : IntF w s1 neg1 A1 c1 l1 z1) (f2 : IntF w s2 neg2 A2 c2 l2 z2) (h0 : z2 ≠ 0) (hx : Wd.Sz B64 K z1) (hy : Wd.Sz B64 K z2) (hK : K ≤ lim) :
    Calls Tryz.prog 101 #[(Value.agg #[.int .i64 s1, .bool neg1, .slice A1 l1.length c1]), (Value.agg #[.int .i64 s2, .bool neg2, .slice A2 l2.length c2])] w fun e w' => PairR w (Rat.divInt z1 z2).num ((Rat.divInt z1 z2).den : Int) e w' := by
  have hp := Wd.divInt_parts z1 z2 h0
  have g0 : 0 < z1.natAbs.gcd z2.natAbs := Nat.gcd_pos_of_pos_right _ (by omega)
  have sg : Wd.Sz B64 K ((z1.natAbs.gcd z2.natAbs : Nat) : Int) := hy.gcd_right h0
  rw [hp.1, hp.2]
  by_cases hs : z2 < 0
  · have e : z2.sign * ((z1.natAbs.gcd z2.natAbs : Nat) : Int) = -((z1.natAbs.gcd z2.natAbs : Nat) : Int) := by rw [Int.sign_eq_neg_one_of_neg hs]; omega
    rw [e]
    exact newr_neg s1 neg1 A1 c1 l1 s2 neg2 A2 c2 l2 z1 z2 _ _ _ _ w f1 f2 hs rfl (op_gcd hT hx hy hK rfl) (op_quo hx sg.neg hK (by omega) rfl) (op_quo hy sg.neg hK (by omega) rfl)
  · have e : z2.sign * ((z1.natAbs.gcd z2.natAbs : Nat) : Int) = ((z1.natAbs.gcd z2.natAbs : Nat) : Int) := by rw [Int.sign_eq_one_of_pos (by omega)]; omega
    rw [e]
    exact newr_pos s1 neg1 A1 c1 l1 s2 neg2 A2 c2 l2 z1 z2 _ _ _ w f1 f2 hs (op_gcd hT hx hy hK rfl) (op_quo hx sg hK (by omega) rfl) (op_quo hy sg hK (by omega) rfl)

end Go.Proofs.YtmahhmdodfimbaaGreatDoor
/- The number of two ints. -/
namespace Go.Proofs.YtmahhmdodfimbaaGreatDoor
open Go.RowKit

/-- What Make tells. -/
def mkE (n d : Int) : Wd.Told := if d = 0 then ⟨0, 0, 1⟩ else Wd.told (Rat.divInt n d)
set_option maxRecDepth 100000 in
set_option maxHeartbeats 16000000 in
theorem make_zero (n : Int) (w : World) : Calls Tryz.prog 48 #[.int .i64 n, .int .i64 0] w fun e w' => TolR w ⟨0, 0, 1⟩ e w' := by
  go_enter Tryz.func48, Tryz.ntmps48
  go_wp2
  exact bodyPost_ret (v := .tuple #[.agg #[.int .i64 0, .int .i64 0], .int .i64 1]) (by simp [results, Tryz.results48, go_sem]) rfl
    ⟨rfl, (Below.refl _ _).alloc (Nat.le_refl _) _⟩
set_option maxRecDepth 100000 in
set_option maxHeartbeats 16000000 in
theorem make_any (n d : Int) (w : World) (hT : Tab w) (b1 : -9223372036854775808 ≤ n) (b2 : n ≤ 9223372036854775807) (b3 : -9223372036854775808 ≤ d) (b4 : d ≤ 9223372036854775807) :
    Calls Tryz.prog 48 #[.int .i64 n, .int .i64 d] w fun e w' => TolR w (mkE n d) e w' := by
  unfold mkE
  by_cases h0 : d = 0
  · subst h0; rw [if_pos rfl]; exact make_zero n w
  rw [if_neg h0]
  obtain ⟨q, hq⟩ : ∃ q, q = Rat.divInt n d := ⟨_, rfl⟩
  have B : (9223372036854775808 : Nat) < B64 := by rw [B64_eq]; omega
  have HN := hide (fun (s5 : Int) (neg5 : Bool) (A5 : Option Addr) (c5 : Nat) (l5 : List Nat) (s6 : Int) (neg6 : Bool) (A6 : Option Addr) (c6 : Nat) (l6 : List Nat) (W : World) (hW : Tab W) (f5 : IntF W s5 neg5 A5 c5 l5 n) (f6 : IntF W s6 neg6 A6 c6 l6 d) => newr_any (K := 1) s5 neg5 A5 c5 l5 s6 neg6 A6 c6 l6 n d W hW f5 f6 h0 (Wd.Sz.of_le (by omega) B64_pos (Nat.le_refl _)) (Wd.Sz.of_le (by omega) B64_pos (Nat.le_refl _)) (by unfold lim; omega))
  rw [← hq] at HN ⊢
  have HO1 := hide (fun W => newInt_any n b1 b2 W)
  have HO2 := hide (fun W => newInt_any d b3 b4 W)
  have hz : (d == 0) = false := beq_eq_false_iff_ne.2 h0
  have HT := hide hT
  have HRT := hide (fun (s9 : Int) (neg9 : Bool) (A9 : Option Addr) (c9 : Nat) (l9 : List Nat) (s10 : Int) (neg10 : Bool) (A10 : Option Addr) (c10 : Nat) (l10 : List Nat) (W : World) (f9 : IntF W s9 neg9 A9 c9 l9 q.num) (f10 : IntF W s10 neg10 A10 c10 l10 (q.den : Int)) => rrat_any s9 neg9 A9 c9 l9 q.num s10 neg10 A10 c10 l10 (q.den : Int) W f9 f10 q rfl rfl)
  obtain ⟨tn, htn⟩ : ∃ x, x = (Wd.told q).n := ⟨_, rfl⟩
  obtain ⟨td, htd⟩ : ∃ x, x = (Wd.told q).d := ⟨_, rfl⟩
  obtain ⟨te, hte⟩ : ∃ x, x = (Wd.told q).e := ⟨_, rfl⟩
  rw [← htn, ← htd, ← hte] at HRT
  have HTL := Lib.hid (show Wd.told q = ⟨tn, td, te⟩ by rw [htn, htd, hte])
  clear htn htd hte
  clear hT h0 b1 b2 b3 b4 hq
  go_enter Tryz.func48, Tryz.ntmps48
  go_wp2_with fail
  have nr := heap_alloc_new w (.cells #[.int .i64 0, .int .i64 0] 23)
  have hw0 : Below w.heap.size w (w.alloc (.cells #[.int .i64 0, .int .i64 0] 23)) := below_alloc (Below.refl _ _) _
  generalize w.alloc (.cells #[.int .i64 0, .int .i64 0] 23) = W0 at *
  have NR := Lib.hid nr
  clear nr
  refine ((unhide HO1) _).mono ?_
  rintro e W1 ⟨s5, neg5, A5, c5, l5, rfl, hf5, hb5⟩
  go_wp2_with fail
  refine ((unhide HO2) _).mono ?_
  rintro e W2 ⟨s6, neg6, A6, c6, l6, rfl, hf6, hb6⟩
  have hB := below_step' hb5 hb6
  go_wp2_with fail
  refine ((unhide HN) s5 neg5 A5 c5 l5 s6 neg6 A6 c6 l6 _ ((unhide HT).below (below_step' hw0 hB)) (hf5.below hb6) hf6).mono ?_
  rintro e W3 ⟨s9, neg9, A9, c9, l9, s10, neg10, A10, c10, l10, rfl, hf9, hf10, hb9⟩
  replace hB := below_step' hB hb9
  go_wp2_with fail
  refine ((unhide HRT) s9 neg9 A9 c9 l9 s10 neg10 A10 c10 l10 _ hf9 hf10).mono ?_
  rintro e W4 ⟨rfl, hb10⟩
  replace hB := below_step' hB hb10
  have nr4 := (hB.block _ (lt_of_block NR.out)).trans NR.out
  have k0 : W4.cell? ⟨w.heap.size, 0, none⟩ = some (.int .i64 0) := cells_of nr4 0
  have k1 : W4.cell? ⟨w.heap.size, 1, none⟩ = some (.int .i64 0) := cells_of nr4 1
  have u0 := unfrozen_of nr4 0
  have u1 := unfrozen_of nr4 1
  have hbn : Below w.heap.size w W4 := below_step' hw0 hB
  clear nr4
  go_wp2_with fail
  exact bodyPost_ret (v := .tuple #[.agg #[.int .i64 tn, .int .i64 td], .int .i64 te]) (by simp [results, Tryz.results48, go_sem, k0, k1]) rfl
    ⟨HTL.out ▸ rfl, hbn.grown (set2_grown _ _ _ _) hbn.size (fun k hk => by injection hk with hk; omega)⟩

end Go.Proofs.YtmahhmdodfimbaaGreatDoor
/- The document's examples. -/
namespace Go.Proofs.YtmahhmdodfimbaaGreatDoor
open Go.RowKit

theorem told_ext {t : Wd.Told} {a b c : Int} (h : t.n = a ∧ t.d = b ∧ t.e = c) : t = ⟨a, b, c⟩ := by
  cases t
  obtain ⟨rfl, rfl, rfl⟩ := h
  rfl
set_option maxRecDepth 100000 in
set_option maxHeartbeats 16000000 in
theorem known_any (w : World) (hT : Tab w) : Calls Tryz.prog 11 #[] w fun e w' => e = .returned (.bool true) ∧ Below w.heap.size w w' := by
  have HM := hide (fun W (hW : Tab W) => make_any (-6) 4 W hW (by omega) (by omega) (by omega) (by omega))
  rw [told_ext (t := mkE (-6) 4) (a := -3) (b := 2) (c := 0) (by decide +kernel)] at HM
  have HF := hide (floor_any (-3) 2)
  rw [show floorV (-3) 2 = -2 by decide, show valE (-3) 2 = 0 by decide] at HF
  have HN := hide near_known
  have HT := hide hT
  clear hT
  go_enter Tryz.func11, Tryz.ntmps11
  go_wp2_with fail
  refine ((unhide HM) _ (unhide HT)).mono ?_
  rintro e W1 ⟨rfl, hb1⟩
  go_wp2_with fail
  have nx := heap_alloc_new W1 (.cells #[.int .i64 (-3), .int .i64 2] 23)
  have hb2 := below_step' hb1 (below_alloc (Below.refl _ _) (.cells #[.int .i64 (-3), .int .i64 2] 23))
  generalize W1.alloc (.cells #[.int .i64 (-3), .int .i64 2] 23) = W2 at *
  obtain ⟨bx, hbx⟩ : ∃ b, b = W1.heap.size := ⟨_, rfl⟩
  rw [← hbx] at nx ⊢
  clear hb1 hbx
  refine ((unhide HF) _ ((unhide HT).below hb2)).mono ?_
  rintro e W3 ⟨rfl, hb⟩
  have nx3 := (hb.block _ (lt_of_block nx)).trans nx
  have hb3 := below_step' hb2 hb
  clear nx hb hb2
  go_wp2_with fail
  refine ((unhide HN) _ ((unhide HT).below hb3)).mono ?_
  rintro e W4 ⟨rfl, hb⟩
  have nx4 := (hb.block _ (lt_of_block nx3)).trans nx3
  have hb4 := below_step' hb3 hb
  have hlt := lt_of_block nx4
  have k0 : W4.cell? ⟨bx, 0, none⟩ = some (.int .i64 (-3)) := cells_of nx4 0
  have k1 : W4.cell? ⟨bx, 1, none⟩ = some (.int .i64 2) := cells_of nx4 1
  have hne : ¬ (bx = W4.heap.size) := by omega
  clear nx3 nx4 hb hb3
  go_wp2
  go_ret
  exact ⟨rfl, below_alloc hb4 _⟩

end Go.Proofs.YtmahhmdodfimbaaGreatDoor
/- The reference's amounts in words of 32 bits: their memory; trimming; order. -/
namespace Go.Proofs.YtmahhmdodfimbaaGreatDoor
open Go.RowKit

structure NatT (w : World) (A : Option Addr) (cap : Nat) (l : List Nat) (n : Nat) : Prop where
  ws : Ws .u32 w w.heap.size A l
  cap1 : l.length ≤ cap
  cap2 : cap ≤ 9223372036854775807
  lt : ∀ x ∈ l, x < B32
  norm : Wd.Norm l
  val : Wd.val B32 l = n

theorem NatT.below {w w' : World} {A : Option Addr} {cap : Nat} {l : List Nat} {n : Nat} (h : NatT w A cap l n) (hb : Below w.heap.size w w') : NatT w' A cap l n :=
  ⟨(h.ws.below hb).more hb.size, h.cap1, h.cap2, h.lt, h.norm, h.val⟩
theorem NatT.len {w : World} {A : Option Addr} {cap : Nat} {l : List Nat} {n k : Nat} (h : NatT w A cap l n) (hn : n < B32 ^ k) : l.length ≤ k :=
  Wd.norm_len B32_pos l h.norm k (by rw [h.val]; exact hn)
theorem NatT.nil_ (w : World) (cap : Nat) (hc : cap ≤ 9223372036854775807) : NatT w none cap [] 0 := ⟨Ws.nil_, by simp, hc, by simp, .inl rfl, rfl⟩
theorem NatT.lt_pow {w : World} {A : Option Addr} {cap : Nat} {l : List Nat} {n : Nat} (h : NatT w A cap l n) : n < B32 ^ l.length := by
  rw [← h.val]; exact Wd.val_lt l h.lt

/-- What a call hands back: a number in memory of its own; what was there is as it was. -/
def NatU (w : World) (n : Nat) (e : Ending) (w' : World) : Prop := ∃ A cap l, e = .returned (.slice A l.length cap) ∧ NatT w' A cap l n ∧ Below w.heap.size w w'

theorem NatT.of_trim {w : World} {b cap : Nat} {T : TypeId} {zs : List Nat} {k : Nat} (hz : ZB .u32 w b T zs) (hlt : ∀ x ∈ zs, x < B32) (ht : Wd.IsTrim zs (zs.take k)) (hk : k ≤ zs.length) (hc : zs.length ≤ cap) (hc2 : cap ≤ 9223372036854775807) :
    NatT w (some ⟨b, 0, none⟩) cap (zs.take k) (Wd.val B32 zs) :=
  ⟨(hz.ws0 _ hz.lt).take_ k, by simp; omega, hc2, fun x hx => hlt x (List.mem_of_mem_take hx), ht.norm, ht.val _⟩

set_option maxHeartbeats 400000 in
theorem ttrim_any (A : Option Addr) (cap : Nat) (l : List Nat) (B : Nat) (w : World) (hr : Ws .u32 w B A l) (hcap : l.length ≤ cap) (hm : cap ≤ 9223372036854775807) :
    Calls Tryz.prog 142 #[.slice A l.length cap] w fun e w' => (∃ k, e = .returned (.slice A k cap) ∧ Wd.IsTrim l (l.take k) ∧ k ≤ l.length) ∧ w' = w := by
  go_enter Tryz.func142, Tryz.ntmps142
  go_wp2
  go_loop [0] (fun v => ∃ k : Nat, k ≤ l.length ∧ v = .slice A k cap ∧ ∀ i, k ≤ i → i < l.length → l.getD i 0 = 0) (fun v => slen v)
  case atStart => exact ⟨l.length, Nat.le_refl _, rfl, fun i h1 h2 => by omega⟩
  case round =>
    obtain ⟨k, hk, rfl, hz⟩ := hrel
    have HZ := Lib.hid hz
    clear hz
    by_cases h0 : k = 0
    · subst h0
      go_wp2
      go_ret
      exact ⟨⟨0, rfl, ⟨0, Nat.zero_le _, rfl, HZ.out, .inl rfl⟩, Nat.zero_le _⟩, rfl⟩
    · obtain ⟨b, off, rfl, hb, hc⟩ := hr (by omega)
      have hck := hc (k - 1) (by omega)
      clear hc
      go_wp2
      · have ht : (((Wd.g l (k - 1) : Nat) : Int) == 0) = true := by assumption
        go_round
        case rel =>
          refine ⟨k - 1, by omega, rfl, fun i h1 h2 => ?_⟩
          by_cases hi : i = k - 1
          · subst hi; have := beq_iff_eq.1 ht; rw [Wd.g_def] at this; omega
          · exact HZ.out i (by omega) h2
        case measure => simp [slen]; omega
      · have ht : (((Wd.g l (k - 1) : Nat) : Int) == 0) = false := by assumption
        go_ret
        refine ⟨⟨k, rfl, ⟨k, hk, rfl, HZ.out, .inr ?_⟩, hk⟩, rfl⟩
        have := beq_eq_false_iff_ne.1 ht; rw [Wd.g_def] at this; omega

theorem drewE {w w1 : World} (h : ∃ t, w1 = w.drewN t) (k : Nat) : ∃ t, w1.drewN k = w.drewN t := by
  obtain ⟨t, rfl⟩ := h
  exact ⟨t + k, by simp [World.drewN, Nat.add_assoc]⟩
theorem World.drewN_drewN (w : World) (a b : Nat) : (w.drewN a).drewN b = w.drewN (a + b) := by
  simp [World.drewN, Nat.add_assoc]
set_option maxRecDepth 100000 in
set_option maxHeartbeats 2000000 in
theorem torder_any (Ax Ay : Option Addr) (cx cy : Nat) (xl yl : List Nat) (n m : Nat) (w : World) (hx : NatT w Ax cx xl n) (hy : NatT w Ay cy yl m) :
    Calls Tryz.prog 144 #[.slice Ax xl.length cx, .slice Ay yl.length cy] w fun e w' => e = .returned (.int .i64 (ord3 n m)) ∧ ∃ k, w' = w.drewN k := by
  have hx1 := hx.cap1; have hx2 := hx.cap2; have hy1 := hy.cap1; have hy2 := hy.cap2
  by_cases hl : xl.length = yl.length
  · have hb : (((xl.length : Nat) : Int) != ((yl.length : Nat) : Int)) = false := by simp; omega
    go_enter Tryz.func144, Tryz.ntmps144
    go_wp2
    go_loopw [5] (fun iv wr => ∃ i : Int, -1 ≤ i ∧ i < xl.length ∧ iv = .int .i64 i ∧ Hid (∀ j : Nat, i < j → j < xl.length → xl.getD j 0 = yl.getD j 0) ∧ Hid (∃ t, wr = w.drewN t)) (fun iv _ => (intOf iv + 1).toNat)
    case atStart => exact ⟨(xl.length : Int) - 1, by omega, by omega, by go_num, fun j h1 h2 => by omega, ⟨0, rfl⟩⟩
    case round =>
      obtain ⟨i, hi1, hi2, rfl, hall, ht⟩ := hrel
      by_cases h0 : i < 0
      · have hv : ord3 n m = 0 := by
          have : xl = yl := Wd.list_ext_getD xl yl hl (fun j hj => hall.out j (by omega) hj)
          rw [← hx.val, ← hy.val, this]
          unfold ord3
          rw [if_neg (by omega), if_neg (by omega)]
        have HV := Lib.hid hv
        clear hv hl
        go_wp2
        go_ret
        exact ⟨ret_int HV.out.symm, ht.out⟩
      · obtain ⟨j, rfl⟩ := Int.eq_ofNat_of_zero_le (show 0 ≤ i by omega)
        have hjx : j < xl.length := by omega
        have hjy : j < yl.length := by omega
        obtain ⟨bx, ox, rfl, hbx, hcx⟩ := hx.ws (by omega)
        obtain ⟨by', oy, rfl, hby, hcy⟩ := hy.ws (by omega)
        have hsame : ∀ p, wr.cell? p = w.cell? p := fun p => by obtain ⟨t, rfl⟩ := ht.out; rfl
        have hxc := (hsame _).trans (hcx j hjx)
        have hyc := (hsame _).trans (hcy j hjy)
        clear hcx hcy hsame
        obtain ⟨xj, hxj⟩ : ∃ xj, xj = Wd.g xl j := ⟨_, rfl⟩
        obtain ⟨yj, hyj⟩ : ∃ yj, yj = Wd.g yl j := ⟨_, rfl⟩
        rw [← hxj] at hxc
        rw [← hyj] at hyc
        by_cases hlt : xj < yj
        · have d1 : decide ((xj : Int) < (yj : Int)) = true := decide_eq_true (by omega)
          have d1' : decide (xj < yj) = true := decide_eq_true hlt
          have hv : ord3 n m = -1 := by
            rw [← hx.val, ← hy.val]
            unfold ord3
            rw [if_pos (Wd.val_lt_of_word xl yl hx.lt hl j hjx (fun t h1 h2 => hall.out t (by omega) h2) (by show Wd.g xl j < Wd.g yl j; omega))]
          have HV := Lib.hid hv
          clear hv hxj hyj hl hlt
          go_wp2_with fail
          go_quiet (fail)
          go_wp2_with fail
          go_ret
          exact ⟨ret_int HV.out.symm, by first | exact drewE (drewE ht.out _) _ | exact drewE ht.out _⟩
        · have d1 : decide ((xj : Int) < (yj : Int)) = false := decide_eq_false (by omega)
          have d1' : decide (xj < yj) = false := decide_eq_false hlt
          by_cases hgt : yj < xj
          · have d2 : decide ((yj : Int) < (xj : Int)) = true := decide_eq_true (by omega)
            have d2' : decide (yj < xj) = true := decide_eq_true hgt
            have hv : ord3 n m = 1 := by
              rw [← hx.val, ← hy.val]
              unfold ord3
              have := Wd.val_lt_of_word yl xl hy.lt hl.symm j hjy (fun t h1 h2 => (hall.out t (by omega) (by omega)).symm) (by show Wd.g yl j < Wd.g xl j; omega)
              rw [if_neg (by omega), if_pos this]
            have HV := Lib.hid hv
            clear hv hxj hyj hl hlt hgt
            go_wp2_with fail
            go_quiet (fail)
            go_wp2_with fail
            go_quiet (fail)
            go_wp2_with fail
            go_ret
            exact ⟨ret_int HV.out.symm, by first | exact drewE (drewE ht.out _) _ | exact drewE ht.out _⟩
          · have d2 : decide ((yj : Int) < (xj : Int)) = false := decide_eq_false (by omega)
            have d2' : decide (yj < xj) = false := decide_eq_false hgt
            have hnext : ∀ t : Nat, ((j : Int) - 1 < t) → t < xl.length → xl.getD t 0 = yl.getD t 0 := fun t h1 h2 => by
              by_cases ht : t = j
              · subst ht; exact hxj.symm.trans ((show xj = yj by omega).trans hyj)
              · exact hall.out t (by omega) h2
            have HN := hide hnext
            clear hnext hxj hyj hl hlt hgt
            go_wp2_with fail
            go_quiet (fail)
            go_wp2_with fail
            go_quiet (fail)
            go_wp2_with fail
            go_roundw
            case rel => exact ⟨(j : Int) - 1, by omega, by omega, by go_num, HN, by first | exact drewE (drewE ht.out _) _ | exact drewE ht.out _⟩
            case measure => simp [intOf] <;> omega
  · have hb : (((xl.length : Nat) : Int) != ((yl.length : Nat) : Int)) = true := by simp; omega
    have ho : ord3 n m = if xl.length < yl.length then -1 else 1 := by
      unfold ord3
      rw [← hx.val, ← hy.val]
      by_cases h : xl.length < yl.length
      · rw [if_pos h, if_pos (Wd.val_lt_of_length B32_pos xl yl hx.lt hy.norm h)]
      · have := Wd.val_lt_of_length B32_pos yl xl hy.lt hx.norm (by omega)
        rw [if_neg h, if_neg (by omega), if_pos this]
    have HO := Lib.hid ho
    clear ho
    go_enter Tryz.func144, Tryz.ntmps144
    go_wp2
    all_goals
      go_ret
      refine ⟨ret_int ?_, ⟨0, rfl⟩⟩
      rw [HO.out]
    · rw [if_pos (by omega)]
    · rw [if_neg (by omega)]
end Go.Proofs.YtmahhmdodfimbaaGreatDoor
/- The reference: products of amounts. -/
namespace Go.Proofs.YtmahhmdodfimbaaGreatDoor
open Go.RowKit

theorem info32 : (Tryz.prog.info? 136).map (fun i => (i.zero, i.size, i.bytes)) = some (some (.int .u32 0), 1, 4) := by kernel_rfl
theorem make32 (n : Nat) (h : n ≤ 35184372088832) (w : World) : (Instr.makeSlice 48 (.int .i64 (n : Int)) (.int .i64 (n : Int))).run Tryz.prog w =
    .ok (.slice (some ⟨w.heap.size, 0, none⟩) n n) (w.alloc (.cells (wcells .u32 (List.replicate n 0)) 136)) := by
  obtain ⟨i0, hi, hz0, hz1, hz2⟩ := info_parts info32
  have hr := run_make (P := Tryz.prog) w 48 136 i0 (.int .u32 0) Tryz.underlying48 hi hz0 .i64 .i64 n n (by omega) (Int.le_refl _) (by rw [hz2]; omega) (by omega)
  simp only [Int.toNat_natCast] at hr
  rw [hr, hz1, madeCells_words]

theorem wrap64_nat {a : Int} {c : Nat} (h : a = (c : Int)) (hc : c < B64) : IntKind.u64.wrap a = ((c : Nat) : Int) := by
  rw [IntKind.wrap_u64, h]; rw [B64_eq] at hc; omega
theorem wrap32_nat (c : Nat) : IntKind.u32.wrap (c : Int) = ((c % B32 : Nat) : Int) := by
  rw [IntKind.wrap_u32, B32_eq]; omega

set_option maxRecDepth 100000 in
set_option maxHeartbeats 2000000 in
theorem ttimes_any (Ax Ay : Option Addr) (cx cy : Nat) (xl yl : List Nat) (n m : Nat) (w : World) (hx : NatT w Ax cx xl n) (hy : NatT w Ay cy yl m) (hk : xl.length + yl.length ≤ 35184372088832) :
    Calls Tryz.prog 146 #[.slice Ax xl.length cx, .slice Ay yl.length cy] w fun e w' => NatU w (n * m) e w' := by
  have hmk := make32 (xl.length + yl.length) hk
  simp only [Int.natCast_add] at hmk
  have hx1 := hx.cap1; have hx2 := hx.cap2; have hy1 := hy.cap1; have hy2 := hy.cap2
  go_enter Tryz.func146, Tryz.ntmps146
  go_wp2
  go_loopw [6] (fun iv wr => ∃ (i : Nat) (zr : List Nat), i ≤ xl.length ∧ iv = .int .i64 ((i : Nat) : Int) ∧ Wd.RowInv B32 xl yl zr i ∧ ZB .u32 wr w.heap.size 136 zr ∧ Below w.heap.size w wr) (fun iv _ => xl.length - (intOf iv).toNat)
  case atStart => exact ⟨0, List.replicate (xl.length + yl.length) 0, Nat.zero_le _, rfl, Wd.RowInv.start _ _ _ (by rw [B32_eq]; omega) (by simp) (zeros_getD _), heap_alloc_new w _, (Below.refl _ _).alloc (Nat.le_refl _) _⟩
  case round =>
    obtain ⟨i, zr, hi, rfl, hinv, hzr, hg⟩ := hrel
    obtain ⟨wo, rfl⟩ : ∃ wo : World, wo = wr := ⟨_, rfl⟩
    have hlen := hinv.len
    have HI := Lib.hid hinv
    clear hinv
    by_cases hlt : i < xl.length
    · obtain ⟨bx, ox, rfl, hbx, hcx⟩ := hx.ws (by omega)
      have hxc0 := hcx i hlt
      have HX := hide (And.intro hbx hxc0)
      clear hcx hxc0
      obtain ⟨xi, hxi⟩ : ∃ xi, xi = Wd.g xl i := ⟨_, rfl⟩
      rw [← hxi] at HX
      have hxB : xi < B32 := by rw [hxi]; exact Wd.getD_lt (by rw [B32_eq]; omega) _ hx.lt i
      have HXI := Lib.hid hxi
      have HXB := hide hxB
      clear hxi hxB
      go_wp2_with fail
      go_loopw [7, 8] (fun cv jv wr => ∃ (j c : Nat) (zc : List Nat), j ≤ yl.length ∧ cv = .int .u64 ((c : Nat) : Int) ∧ jv = .int .i64 ((j : Nat) : Int) ∧ Wd.MulInv B32 zr yl zc i (Wd.g xl i) j c ∧ ZB .u32 wr w.heap.size 136 zc ∧ Below w.heap.size w wr) (fun _ jv _ => yl.length - (intOf jv).toNat)
      case atStart => exact ⟨0, 0, zr, Nat.zero_le _, rfl, rfl, Wd.MulInv.start _ _ _ _ (by rw [B32_eq]; omega) HI.out.lt, hzr, hg⟩
      case round =>
        obtain ⟨j, c, zc, hj, rfl, rfl, hminv, hzc, hgc⟩ := hrel
        have hlen2 := hminv.len
        have HM := Lib.hid hminv
        clear hminv
        have hxc := (hgc.cell (p := ⟨bx, ox + i, none⟩) (unhide HX).1).trans (unhide HX).2
        by_cases hjl : j < yl.length
        · obtain ⟨by', oy, rfl, hby, hcy⟩ := hy.ws (by omega)
          have hyc := (hgc.cell (p := ⟨by', oy + j, none⟩) hby).trans (hcy j hjl)
          clear hcy
          have hzcell := hzc.cell (i + j) (by omega)
          have hzf := hzc.frozen (i + j)
          obtain ⟨yj, hyj⟩ : ∃ yj, yj = Wd.g yl j := ⟨_, rfl⟩
          obtain ⟨z, hz⟩ : ∃ z, z = Wd.g zc (i + j) := ⟨_, rfl⟩
          rw [← hyj] at hyc
          rw [← hz] at hzcell
          have hyB : yj < B32 := by rw [hyj]; exact Wd.getD_lt (by rw [B32_eq]; omega) _ hy.lt j
          have hzB : z < B32 := by rw [hz]; exact Wd.getD_lt (by rw [B32_eq]; omega) _ HM.out.lt _
          have hbd := Wd.mul_bound (unhide HXB) hyB HM.out.c1 hzB
          have hBB : B32 * B32 = B64 := by rw [B32_eq, B64_eq]
          rw [hBB] at hbd
          obtain ⟨p, hp⟩ : ∃ t, t = xi * yj := ⟨_, rfl⟩
          obtain ⟨s, hs⟩ : ∃ t, t = p + z := ⟨_, rfl⟩
          obtain ⟨r, hr⟩ : ∃ t, t = c + s := ⟨_, rfl⟩
          obtain ⟨d, hd⟩ : ∃ t, t = r % B32 := ⟨_, rfl⟩
          obtain ⟨q, hq⟩ : ∃ t, t = r / B32 := ⟨_, rfl⟩
          rw [← hp] at hbd
          have e1 : IntKind.u64.wrap ((xi : Int) * (yj : Int)) = (p : Int) := wrap64_nat (by rw [hp]; simp) (by omega)
          have e2 : IntKind.u64.wrap ((p : Int) + (z : Int)) = (s : Int) := wrap64_nat (by rw [hs]; simp) (by omega)
          have e3 : IntKind.u64.wrap ((c : Int) + (s : Int)) = (r : Int) := wrap64_nat (by rw [hr]; simp) (by omega)
          have e4 : IntKind.u32.wrap (r : Int) = (d : Int) := by rw [wrap32_nat, hd]
          have e4' : (r : Int) % 4294967296 = (d : Int) := by rw [hd, B32_eq]; omega
          have b64 : ∀ t : Nat, t < B32 → t < B64 := fun t ht => by rw [B32_eq] at ht; rw [B64_eq]; omega
          have e6 : IntKind.u64.wrap (xi : Int) = (xi : Int) := wrap64_nat rfl (b64 _ (unhide HXB))
          have e7 : IntKind.u64.wrap (yj : Int) = (yj : Int) := wrap64_nat rfl (b64 _ hyB)
          have e8 : IntKind.u64.wrap (z : Int) = (z : Int) := wrap64_nat rfl (b64 _ hzB)
          have e5 : (r : Int) / 4294967296 = (q : Int) := by rw [hq, B32_eq]; omega
          have hfin : ∀ t W, W = (wr.drewN t).setCell ⟨w.heap.size, i + j, none⟩ (.int .u32 (d : Int)) → Wd.MulInv B32 zr yl (zc.set (i + j) d) i (Wd.g xl i) (j + 1) q ∧ ZB .u32 W w.heap.size 136 (zc.set (i + j) d) ∧ Below w.heap.size w W := by
            rintro t W rfl
            refine ⟨?_, (hzc.drewN t).set_ _ _, (belowN hgc t).setCell (by simp) _⟩
            have := HM.out.step B32_pos (by rw [← HXI.out]; exact unhide HXB) hy.lt (by omega)
            have e : r = Wd.g xl i * yl.getD j 0 + c + zc.getD (i + j) 0 := by
              rw [hr, hs, hp, HXI.out, hyj, hz]; show c + (Wd.g xl i * yl.getD j 0 + zc.getD (i + j) 0) = _; omega
            rw [hd, hq, e]
            exact this
          have HF := hide hfin
          clear hfin b64 hbd hBB hp hs hr hd hq hyj hz hyB hzB hzc hgc hzr hg hlen hlen2
          go_wp2_with fail
          go_quiet (fail)
          go_wp2_with fail
          go_roundw
          case rel =>
            obtain ⟨r1, r2, r3⟩ := (unhide HF) _ _ rfl
            exact ⟨j + 1, q, zc.set (i + j) d, by omega, rfl, by go_num, r1, r2, r3⟩
          case measure => simp [intOf]; omega
        · have e : j = yl.length := by omega
          subst e
          have hzcell := hzc.cell (i + yl.length) (by omega)
          have hzf := hzc.frozen (i + yl.length)
          have hrow := HI.out.step hlt HM.out
          have HR := Lib.hid hrow
          have hc32 : (c : Int) % 4294967296 = (c : Int) := by have := HM.out.c1; rw [B32_eq] at this; omega
          have hc33 : IntKind.u32.wrap (c : Int) = (c : Int) := by rw [IntKind.wrap_u32]; exact hc32
          clear hrow
          have hfin : ∀ W, W = wr.setCell ⟨w.heap.size, i + yl.length, none⟩ (.int .u32 (c : Int)) → ZB .u32 W w.heap.size 136 (zc.set (i + yl.length) c) ∧ Below w.heap.size w W := by
            rintro W rfl
            exact ⟨hzc.set_ _ _, hgc.setCell (by simp) _⟩
          have HF := hide hfin
          clear hfin hzc hgc hzr hg hlen hlen2 hxc
          go_wp2_with fail
          go_roundw
          case rel =>
            obtain ⟨r2, r3⟩ := (unhide HF) _ rfl
            exact ⟨i + 1, zc.set (i + yl.length) c, by omega, by go_num, HR.out, r2, r3⟩
          case measure => simp [intOf]; omega
    · have e : i = xl.length := by omega
      subst e
      have hlt2 := HI.out.lt
      have hv := HI.out.done
      rw [hx.val, hy.val] at hv
      have HV := Lib.hid hv
      have HLT := hide hlt2
      clear hv hlt2
      go_wp2_with fail
      have htr := ttrim_any (some ⟨w.heap.size, 0, none⟩) zr.length zr (wo.heap.size) wo (hzr.ws0 _ hzr.lt) (Nat.le_refl _) (by omega)
      rw [hlen] at htr
      refine htr.mono ?_
      rintro e w' ⟨⟨k, rfl, ht, hk2⟩, rfl⟩
      go_wp2_with fail
      go_ret
      have hk3 : k = (zr.take k).length := by simp; omega
      refine ⟨some ⟨w.heap.size, 0, none⟩, xl.length + yl.length, zr.take k, ret_slice hk3, ?_, hg⟩
      have := NatT.of_trim (cap := xl.length + yl.length) hzr (unhide HLT) ht (by omega) (by omega) (by omega)
      rwa [HV.out] at this
end Go.Proofs.YtmahhmdodfimbaaGreatDoor
/- The reference: sums and differences of amounts: what a round leaves, and slices that grow within their capacity. -/
namespace Go.Proofs.YtmahhmdodfimbaaGreatDoor
open Go.RowKit

namespace Wd
/-- Behind i rounds of a sum: the words so far, and what is carried. -/
structure PlusInv (B : Nat) (xl yl l : List Nat) (i c : Nat) : Prop where
  len : l.length = i
  lt : ∀ x ∈ l, x < B
  c1 : c ≤ 1
  eq : Wd.val B l + B ^ i * c = Wd.val B (xl.take i) + Wd.val B (yl.take i)
theorem PlusInv.start (B : Nat) (xl yl : List Nat) : PlusInv B xl yl [] 0 0 := ⟨rfl, by simp, by omega, by simp [val]⟩
theorem lt_snoc' {B : Nat} {l : List Nat} {d : Nat} (h : ∀ x ∈ l, x < B) (hd : d < B) : ∀ x ∈ l ++ [d], x < B := by
  intro t ht
  rw [List.mem_append] at ht
  rcases ht with h1 | h1
  · exact h t h1
  · rw [List.mem_singleton] at h1; subst h1; exact hd
theorem PlusInv.step {B : Nat} {xl yl l : List Nat} {i c x y s : Nat} (hB : 1 < B) (h : PlusInv B xl yl l i c) (hx : x = xl.getD i 0) (hxB : x < B) (hy : y = yl.getD i 0) (hyB : y < B) (hs : s = c + x + y) :
    PlusInv B xl yl (l ++ [s % B]) (i + 1) (s / B) := by
  have hc := h.c1
  refine ⟨by simp [h.len], lt_snoc' h.lt (Nat.mod_lt _ (by omega)), ?_, ?_⟩
  · exact Nat.lt_succ_iff.1 ((Nat.div_lt_iff_lt_mul (by omega)).2 (by omega))
  · rw [val_snoc, h.len, Nat.pow_succ, val_take_succ', val_take_succ', ← hx, ← hy]
    have e := Nat.mod_add_div s B
    have h1 := h.eq
    have e2 : B ^ i * (s % B) + B ^ i * B * (s / B) = B ^ i * c + B ^ i * x + B ^ i * y := by
      rw [Nat.mul_assoc, ← Nat.mul_add, e, hs, Nat.mul_add, Nat.mul_add]
    omega
theorem PlusInv.done {B : Nat} {xl yl l : List Nat} {i c : Nat} (h : PlusInv B xl yl l i c) (hx : xl.length ≤ i) (hy : yl.length ≤ i) : Wd.val B (l ++ [c]) = Wd.val B xl + Wd.val B yl := by
  have h1 := h.eq
  rw [val_take_all _ _ _ hx, val_take_all _ _ _ hy] at h1
  rw [val_snoc, h.len, h1]
/-- Behind i rounds of a difference. -/
structure LessInv (B : Nat) (xl yl l : List Nat) (i b : Nat) : Prop where
  len : l.length = i
  lt : ∀ x ∈ l, x < B
  b1 : b ≤ 1
  eq : Wd.val B l + Wd.val B (yl.take i) = Wd.val B (xl.take i) + B ^ i * b
theorem LessInv.start (B : Nat) (xl yl : List Nat) : LessInv B xl yl [] 0 0 := ⟨rfl, by simp, by omega, by simp [val]⟩
theorem LessInv.step {B : Nat} {xl yl l : List Nat} {i b x y d b' : Nat} (h : LessInv B xl yl l i b) (hx : x = xl.getD i 0) (hy : y = yl.getD i 0) (hd : d < B) (hb : b' ≤ 1) (hs : d + y + b = x + B * b') :
    LessInv B xl yl (l ++ [d]) (i + 1) b' := by
  refine ⟨by simp [h.len], lt_snoc' h.lt hd, hb, ?_⟩
  rw [val_snoc, h.len, Nat.pow_succ, val_take_succ', val_take_succ', ← hx, ← hy]
  have h1 := h.eq
  have e2 : B ^ i * d + B ^ i * y + B ^ i * b = B ^ i * x + B ^ i * B * b' := by
    rw [← Nat.mul_add, ← Nat.mul_add, hs, Nat.mul_add, Nat.mul_assoc]
  omega
theorem LessInv.done {B : Nat} {xl yl l : List Nat} {i b : Nat} (h : LessInv B xl yl l i b) (hx : xl.length = i) (hy : yl.length ≤ i) (hle : Wd.val B yl ≤ Wd.val B xl) : Wd.val B l = Wd.val B xl - Wd.val B yl := by
  have h1 := h.eq
  rw [val_take_all B xl i (by omega), val_take_all B yl i hy] at h1
  have h2 := val_lt l h.lt
  rw [h.len] at h2
  have hb := h.b1
  rcases (show b = 0 ∨ b = 1 by omega) with rfl | rfl
  · omega
  · rw [Nat.mul_one] at h1; omega
end Wd

/-- A slice of the call's own, with room behind it. -/
theorem own_ws {w : World} {base g cap B : Nat} {T : TypeId} {l : List Nat} {n : Nat} (hn : n = l.length) (h : w.ownsRow base T 1 (.slice (some ⟨g, 0, none⟩) n cap) n (wvals .u32 l)) (hB : g < B) :
    Ws .u32 w B (some ⟨g, 0, none⟩) l ∧ l.length ≤ cap ∧ cap ≤ maxLen := by
  subst hn
  obtain ⟨_, ⟨h1, _⟩ | ⟨g', cap', cur, he, hb, hh, hn, hc, hs, ht⟩⟩ := h
  · injection h1 with h2; cases h2
  · injection he with e1 _ e2
    injection e1 with e1; injection e1 with e1
    subst e1 e2
    refine ⟨fun hl => ⟨g, 0, rfl, hB, fun j hj => ?_⟩, hn, hc⟩
    have hj2 : (cur.toList.take (l.length * 1))[j]? = some (.int .u32 ((Wd.g l j : Nat) : Int)) := by
      rw [ht]
      simp [wvals, Wd.g, List.getD, hj]
    rw [List.getElem?_take] at hj2
    simp only [World.cell?, hh, Option.isSome_none, Bool.false_eq_true, if_false]
    rw [if_pos (by omega)] at hj2
    simpa using hj2
theorem own_lt {w : World} {base g cap : Nat} {T : TypeId} {l : List Value} {n : Nat} (h : w.ownsRow base T 1 (.slice (some ⟨g, 0, none⟩) n cap) n l) : g < w.heap.size := by
  obtain ⟨_, ⟨h1, _⟩ | ⟨g', cap', cur, he, hb, hh, hn, hc, hs, ht⟩⟩ := h
  · injection h1 with h2; cases h2
  · injection he with e1 _ e2
    injection e1 with e1; injection e1 with e1
    subst e1
    exact lt_of_block hh
theorem make32cap (n : Nat) (h : n ≤ 35184372088832) (w : World) : (Instr.makeSlice 48 (.int .i64 0) (.int .i64 (n : Int))).run Tryz.prog w =
    .ok (.slice (some ⟨w.heap.size, 0, none⟩) 0 n) (w.alloc (.cells (wcells .u32 (List.replicate n 0)) 136)) := by
  obtain ⟨i0, hi, hz0, hz1, hz2⟩ := info_parts info32
  have hr := run_make (P := Tryz.prog) w 48 136 i0 (.int .u32 0) Tryz.underlying48 hi hz0 .i64 .i64 0 n (by omega) (by omega) (by rw [hz2]; omega) (by omega)
  simp only [Int.toNat_natCast, Int.toNat_zero] at hr
  rw [hr, hz1, madeCells_words]
theorem own_made (w : World) (n : Nat) (h : n ≤ 35184372088832) (T : TypeId) : (w.alloc (.cells (wcells .u32 (List.replicate n 0)) T)).ownsRow w.heap.size T 1 (.slice (some ⟨w.heap.size, 0, none⟩) 0 n) 0 (wvals .u32 []) :=
  ⟨by simp [wvals], .inr ⟨w.heap.size, n, _, rfl, Nat.le_refl _, heap_alloc_new w _, Nat.zero_le _, by unfold maxLen; omega, by simp [wcells], by simp [wvals]⟩⟩
theorem own_snoc {w : World} {base g n C d : Nat} {T : TypeId} {l : List Nat} (h : w.ownsRow base T 1 (.slice (some ⟨g, 0, none⟩) n C) n (wvals .u32 l ++ [.int .u32 (d : Int)])) : w.ownsRow base T 1 (.slice (some ⟨g, 0, none⟩) n C) n (wvals .u32 (l ++ [d])) := by
  simpa [wvals] using h
theorem NatT.of_trim_ws {w : World} {A : Option Addr} {cap : Nat} {zs : List Nat} {k : Nat} (hz : Ws .u32 w w.heap.size A zs) (hlt : ∀ x ∈ zs, x < B32) (ht : Wd.IsTrim zs (zs.take k)) (hk : k ≤ zs.length) (hc : zs.length ≤ cap) (hc2 : cap ≤ 9223372036854775807) :
    NatT w A cap (zs.take k) (Wd.val B32 zs) :=
  ⟨hz.take_ k, by simp; omega, hc2, fun x hx => hlt x (List.mem_of_mem_take hx), ht.norm, ht.val _⟩
theorem one_cell (w : World) (v : Value) (T : TypeId) : ∀ j u, [v][j]? = some u → (w.alloc (.cells #[v] T)).cell? ((⟨w.heap.size, 0, none⟩ : Addr).add j) = some u := by
  intro j u hj
  match j, hj with
  | 0, hj => simp at hj; subst hj; simp [Addr.add]
  | j + 1, hj => simp at hj
theorem one_u32 (d : Nat) : ∀ u ∈ [Value.int .u32 (d : Int)], u.oneCell' = true := by
  intro u hu
  rw [List.mem_singleton] at hu; subst hu; rfl
/-- Behind an append: the words and what lies below. -/
theorem behind_append {w X w1 : World} {n C d : Nat} {l : List Nat} {W0 : Nat} (hW : W0 = w.heap.size) (hb : Below W0 w X) (hlt : W0 ≤ X.heap.size)
    (hown1 : w1.ownsRow W0 136 1 (.slice (some ⟨W0, 0, none⟩) n C) n (wvals .u32 l ++ [.int .u32 ((d : Nat) : Int)])) (hgrow1 : X.grownBy w1 (some W0)) :
    w1.ownsRow W0 136 1 (.slice (some ⟨W0, 0, none⟩) n C) n (wvals .u32 (l ++ [d])) ∧ Below W0 w w1 :=
  ⟨own_snoc hown1, hb.grown hgrow1 hlt (fun k hk => by injection hk with hk; omega)⟩
end Go.Proofs.YtmahhmdodfimbaaGreatDoor
/- The simplest number between two: on natural numbers. -/
namespace Go.Proofs.YtmahhmdodfimbaaGreatDoor
namespace Wd

/-- Numerator and denominator of the simplest number from a/b to c/d. -/
def simp : Nat → Nat → Nat → Nat → Nat → Nat × Nat
  | 0, _, _, _, _ => (0, 1)
  | f + 1, a, b, c, d => if b = 1 then (a, 1) else if a / b < c / d then (a / b + 1, 1)
    else (a / b * (simp f d (c - a / b * d) b (a - a / b * b)).1 + (simp f d (c - a / b * d) b (a - a / b * b)).2, (simp f d (c - a / b * d) b (a - a / b * b)).1)

structure SimpOk (a b c d : Nat) : Prop where
  pa : 0 < a
  pb : 0 < b
  pc : 0 < c
  pd : 0 < d
  co : a.Coprime b
  co2 : c.Coprime d
  le : a * d ≤ c * b

theorem sub_div_mul (a b : Nat) : a - a / b * b = a % b := by
  have := Nat.div_add_mod a b
  rw [Nat.mul_comm] at this
  omega
theorem SimpOk.step {a b c d : Nat} (h : SimpOk a b c d) (hb : b ≠ 1) (hk : ¬ a / b < c / d) :
    SimpOk d (c - a / b * d) b (a - a / b * b) ∧ c / d = a / b ∧ c - a / b * d = c % d ∧ c - a / b * d < d ∧ a - a / b * b < b := by
  have ha := h.pa; have hb0 := h.pb; have hc := h.pc; have hd := h.pd
  have e1 := Nat.div_add_mod a b
  have r0 : a % b ≠ 0 := fun e => by
    have hdv := Nat.dvd_of_mod_eq_zero e
    have := Nat.Coprime.eq_one_of_dvd h.co.symm hdv
    exact hb this
  have hkd : a / b ≤ c / d := by
    rw [Nat.le_div_iff_mul_le hd]
    have h2 : a / b * b * d ≤ c * b := Nat.le_trans (Nat.mul_le_mul_right _ (Nat.div_mul_le_self a b)) h.le
    rw [Nat.mul_right_comm] at h2
    exact Nat.le_of_mul_le_mul_right h2 hb0
  have hq : c / d = a / b := by omega
  have e2 : c - a / b * d = c % d := by rw [← hq]; exact sub_div_mul c d
  have e3 := sub_div_mul a b
  have e4 := Nat.div_add_mod c d
  have hle : a % b * d ≤ c % d * b := by
    have hle := h.le
    rw [hq] at e4
    generalize a / b = k at *
    generalize a % b = r at *
    generalize c % d = s at *
    subst e1 e4
    rw [Nat.add_mul, Nat.add_mul] at hle
    have : b * k * d = d * k * b := by rw [Nat.mul_comm b k, Nat.mul_assoc, Nat.mul_comm b d, ← Nat.mul_assoc, Nat.mul_comm k d]
    omega
  have s0 : 0 < c % d := by
    rcases Nat.eq_zero_or_pos (c % d) with e | e
    · rw [e, Nat.zero_mul] at hle
      have := Nat.mul_pos (Nat.pos_of_ne_zero r0) hd
      omega
    · exact e
  rw [e2, e3]
  refine ⟨⟨hd, s0, hb0, Nat.pos_of_ne_zero r0, ?_, ?_, ?_⟩, hq, rfl, Nat.mod_lt _ hd, Nat.mod_lt _ hb0⟩
  · have := h.co2
    unfold Nat.Coprime at *
    rw [Nat.gcd_comm, ← Nat.gcd_rec, Nat.gcd_comm]; exact this
  · have := h.co
    unfold Nat.Coprime at *
    rw [Nat.gcd_comm, ← Nat.gcd_rec, Nat.gcd_comm]; exact this
  · rw [Nat.mul_comm, Nat.mul_comm b]; exact hle
/-- A fraction of natural numbers. -/
def fr (n d : Nat) : Rat := Rat.divInt (n : Int) (d : Int)
end Wd
end Go.Proofs.YtmahhmdodfimbaaGreatDoor
/- Continued fractions, on ints. -/
namespace Go.Proofs.YtmahhmdodfimbaaGreatDoor
namespace Wd

/-- The continued fraction of n/d. -/
def cf : Nat → Int → Int → List Int
  | 0, _, _ => []
  | f + 1, n, d => if d = 0 then [] else n / d :: cf f d (n % d)
theorem cf_len : ∀ (f : Nat) (n d : Int), (cf f n d).length ≤ f
  | 0, _, _ => Nat.le_refl _
  | f + 1, n, d => by
    unfold cf
    split
    · exact Nat.zero_le _
    · have := cf_len f d (n % d)
      rw [List.length_cons]; omega
theorem cf_zero (f : Nat) (n : Int) : cf f n 0 = [] := by
  cases f with
  | zero => rfl
  | succ f => simp [cf]
/-- Ahead of a round: what has been told and what is left. -/
structure CfInv (L l : List Int) (n d : Int) : Prop where
  ok : ∃ f : Nat, d < f ∧ l ++ cf f n d = L ∧ L.length ≤ l.length + f
  d0 : 0 ≤ d
  nb : -1000000000000 ≤ n ∧ n ≤ 1000000000000
  db : d ≤ 1000000000000
theorem CfInv.start {n d : Int} (h : okR n d) : CfInv (cf (d.toNat + 1) n d) [] n d := by
  obtain ⟨h1, h2, h3, h4, _⟩ := h
  exact ⟨⟨d.toNat + 1, by omega, rfl, by have := cf_len (d.toNat + 1) n d; simpa using this⟩, by omega, ⟨by omega, by omega⟩, by omega⟩
theorem CfInv.step {L l : List Int} {n d : Int} (h : CfInv L l n d) (hd : 0 < d) : CfInv L (l ++ [n / d]) d (n % d) ∧ n - n / d * d = n % d ∧ -1000000000000 ≤ n / d ∧ n / d ≤ 1000000000000 ∧ -2000000000000 ≤ n / d * d ∧ n / d * d ≤ 2000000000000 := by
  obtain ⟨⟨f, h1, h2, h3⟩, h4, h5, h6⟩ := h
  have e1 := Int.emod_nonneg n (show d ≠ 0 by omega)
  have e2 := Int.emod_lt_of_pos n hd
  have e3 := Int.mul_ediv_add_emod n d
  rw [Int.mul_comm] at e3
  have lo : -1000000000000 ≤ n / d := by
    rw [Int.le_ediv_iff_mul_le hd]
    omega
  have hi : n / d ≤ 1000000000000 := by
    rcases Int.lt_or_le n 0 with hn | hn
    · have : n / d < 0 := Int.ediv_neg_of_neg_of_pos hn hd
      omega
    · have := Int.ediv_le_self d hn
      omega
  have e4 : n - n / d * d = n % d ∧ -2000000000000 ≤ n / d * d ∧ n / d * d ≤ 2000000000000 := by
    generalize n / d * d = t at *
    generalize n % d = r at *
    exact ⟨by omega, by omega, by omega⟩
  refine ⟨⟨?_, e1, by omega, by omega⟩, e4.1, lo, hi, e4.2.1, e4.2.2⟩
  cases f with
  | zero => omega
  | succ f =>
    refine ⟨f, by omega, ?_, by simp; omega⟩
    rw [← h2]
    simp only [cf, if_neg (show ¬ d = 0 by omega), List.append_assoc, List.cons_append, List.nil_append]
theorem CfInv.done {L l : List Int} {n : Int} (h : CfInv L l n 0) : l = L := by
  obtain ⟨⟨f, h1, h2, h3⟩, _, _, _⟩ := h
  rw [cf_zero, List.append_nil] at h2
  exact h2
theorem CfInv.len {L l : List Int} {n d : Int} (h : CfInv L l n d) (hL : L.length ≤ 1000000000001) : l.length ≤ 1000000000001 := by
  obtain ⟨⟨f, h1, h2, h3⟩, _, _, _⟩ := h
  rw [← h2, List.length_append] at hL
  omega
end Wd
end Go.Proofs.YtmahhmdodfimbaaGreatDoor
/- Continued fractions: lists of ints in memory. -/
namespace Go.Proofs.YtmahhmdodfimbaaGreatDoor
open Go.RowKit

/-- The ints of a list, as cells. -/
def ivals (l : List Int) : List Value := l.map fun (x : Int) => Value.int .i64 x
theorem infoInt : (Tryz.prog.info? 3).map (fun i => (i.zero, i.size, i.bytes)) = some (some (.int .i64 0), 1, 8) := by kernel_rfl
/-- What a continued fraction is handed back as: ints in memory of their own, and an error. -/
def IntsR (w : World) (L : List Int) (r : Int) (e : Ending) (w' : World) : Prop := ∃ v, e = .returned (.tuple #[v, .int .i64 r]) ∧ w'.ownsRow w.heap.size 3 1 v L.length (ivals L) ∧ Below w.heap.size w w'
theorem own_block_ge {w : World} {base : Nat} {T : TypeId} {v : Value} {n : Nat} {xs : List Value} (h : w.ownsRow base T 1 v n xs) : ∀ g, v.ownBlock = some g → base ≤ g := by
  intro g hg
  obtain ⟨_, ⟨rfl, _⟩ | ⟨g', cap, cur, rfl, hb, _⟩⟩ := h
  · simp [Value.ownBlock] at hg
  · simp [Value.ownBlock] at hg; omega
theorem ione_cell (x : Int) : ∀ u ∈ [Value.int .i64 x], u.oneCell' = true := by
  intro u hu
  rw [List.mem_singleton] at hu; subst hu; rfl
theorem behind_grow {w X w1 : World} {v v' : Value} {l : List Int} {a : Int} {T : TypeId} {wr : World} (hown : wr.ownsRow w.heap.size T 1 v l.length (ivals l)) (hb : Below w.heap.size w X) (hlt : w.heap.size ≤ X.heap.size)
    (hown1 : w1.ownsRow w.heap.size T 1 v' (l.length + 1) (ivals l ++ [.int .i64 a])) (hgrow1 : X.grownBy w1 v.ownBlock) :
    w1.ownsRow w.heap.size T 1 v' (l ++ [a]).length (ivals (l ++ [a])) ∧ Below w.heap.size w w1 := by
  refine ⟨?_, hb.grown hgrow1 hlt (own_block_ge hown)⟩
  have e : (l ++ [a]).length = l.length + 1 := by simp
  rw [e]
  simpa [ivals] using hown1
/-- The cells of the ints that a slice owns. -/
theorem own_cell {w : World} {base : Nat} {T : TypeId} {v : Value} {L : List Int} (h : w.ownsRow base T 1 v L.length (ivals L)) : (L = [] ∧ v = .slice none 0 0) ∨ ∃ g cap, v = .slice (some ⟨g, 0, none⟩) L.length cap ∧ base ≤ g ∧ L.length ≤ cap ∧ cap ≤ maxLen ∧ g < w.heap.size ∧ ∀ j, j < L.length → w.cell? ⟨g, j, none⟩ = some (.int .i64 (L.getD j 0)) := by
  obtain ⟨_, ⟨h1, h2⟩ | ⟨g', cap', cur, he, hb, hh, hn, hc, hs, ht⟩⟩ := h
  · exact .inl ⟨List.length_eq_zero_iff.1 h2, h1⟩
  · refine .inr ⟨g', cap', he, hb, hn, hc, lt_of_block hh, fun j hj => ?_⟩
    have hj2 : (cur.toList.take (L.length * 1))[j]? = some (.int .i64 (L.getD j 0)) := by
      rw [ht]
      simp [ivals, List.getD, hj]
    rw [List.getElem?_take] at hj2
    simp only [World.cell?, hh, Option.isSome_none, Bool.false_eq_true, if_false]
    rw [if_pos (by omega)] at hj2
    simpa using hj2
/-- What the continued fraction of two ints is, and its error. -/
def cfL (n d : Int) : List Int := if Wd.okR n d then Wd.cf (d.toNat + 1) n d else []

end Go.Proofs.YtmahhmdodfimbaaGreatDoor
/- The program: the continued fraction of a number. -/
namespace Go.Proofs.YtmahhmdodfimbaaGreatDoor
open Go.RowKit

set_option maxRecDepth 100000 in
set_option maxHeartbeats 16000000 in
theorem pfrac_ok (n0 d0 : Int) (w : World) (hT : Tab w) (ok : Wd.okR n0 d0) :
    Calls Tryz.prog 30 #[(Value.agg #[.int .i64 n0, .int .i64 d0])] w fun e w' => IntsR w (Wd.cf (d0.toNat + 1) n0 d0) 0 e w' := by
  have hv : valE n0 d0 = 0 := if_pos ok
  have HV := hide (val_any n0 d0)
  rw [hv] at HV
  have hst := Wd.CfInv.start ok
  have hLl : (Wd.cf (d0.toNat + 1) n0 d0).length ≤ 1000000000001 := by
    have := Wd.cf_len (d0.toNat + 1) n0 d0
    have := ok.2.1
    omega
  generalize Wd.cf (d0.toNat + 1) n0 d0 = L at *
  have HST := hide hst; have HT := hide hT; have HLL := hide hLl
  obtain ⟨i0, hi0, hz0, hz1, hz2⟩ := info_parts infoInt
  clear hv hst hT ok hLl
  go_enter Tryz.func30, Tryz.ntmps30
  go_upto_region 1 with fail
  obtain ⟨n0_, hsz, hw0⟩ := one_new w (.cells #[.int .i64 n0, .int .i64 d0] 23)
  generalize w.alloc (.cells #[.int .i64 n0, .int .i64 d0] 23) = W0 at *
  have k0 : W0.cell? ⟨w.heap.size, 0, none⟩ = some (.int .i64 n0) := cells_of n0_ 0
  have k1 : W0.cell? ⟨w.heap.size, 1, none⟩ = some (.int .i64 d0) := cells_of n0_ 1
  have q0 := lt_of_block n0_
  clear n0_ hsz
  go_wp2_with fail
  refine ((unhide HV) _ ((unhide HT).below hw0)).mono ?_
  rintro e W1 ⟨rfl, hb⟩
  obtain ⟨hc, hfz⟩ := bcell hb
  replace k0 := (hc _ _ q0).trans k0
  replace k1 := (hc _ _ q0).trans k1
  replace hw0 := below_step' hw0 hb
  clear hb hc hfz q0
  go_wp2_with fail
  go_quiet (fail)
  go_wp2_with fail
  go_loopw [5, 6, 7] (fun lv nv dv wr => ∃ (l : List Int) (n d : Int), nv = .int .i64 n ∧ dv = .int .i64 d ∧ Hid (Wd.CfInv L l n d) ∧ wr.ownsRow w.heap.size 3 1 lv l.length (ivals l) ∧ Below w.heap.size w wr) (fun _ _ dv _ => (intOf dv).toNat)
  case atStart => exact ⟨[], n0, d0, rfl, rfl, unhide HST, World.ownsRow_nil _ _ _ _, by first | exact hw0 | exact hw0.drew | exact belowN hw0 _⟩
  case round =>
    obtain ⟨l, n, d, rfl, rfl, HI, hown, hg⟩ := hrel
    have hsz := hg.size
    clear k0 k1
    by_cases hd : 0 < d
    · obtain ⟨h1, h2, h3, h4, h5, h6⟩ := HI.out.step hd
      have hdb := HI.out.db
      have hnb := HI.out.nb
      have hll := HI.out.len (unhide HLL)
      have HF := hide (fun W => fdiv_any n d W (by omega) (by omega) hd (by omega))
      have hr2 := Int.emod_lt_of_pos n hd
      have hr1 := Int.emod_nonneg n (show d ≠ 0 by omega)
      have d1 : decide (0 < d) = true := decide_eq_true hd
      obtain ⟨a, ha⟩ : ∃ a, a = n / d := ⟨_, rfl⟩
      obtain ⟨r, hr⟩ : ∃ r, r = n % d := ⟨_, rfl⟩
      rw [← ha] at HF h1 h2 h3 h4 h5 h6
      rw [← hr] at h1 h2 hr1 hr2
      obtain ⟨p, hp⟩ : ∃ p, p = a * d := ⟨_, rfl⟩
      rw [← hp] at h2 h5 h6
      have e1 : wrap64 (a * d) = p := by rw [← hp]; exact IntWalk.wrap64_in _ (by omega)
      have e2 : IntKind.i64.wrap (a * d) = p := by rw [← hp]; exact IntWalk.i64_in _ (by omega)
      have e3 : wrap64 (n - p) = r := by rw [h2]; exact IntWalk.wrap64_in _ (by omega)
      have e4 : IntKind.i64.wrap (n - p) = r := by rw [h2]; exact IntWalk.i64_in _ (by omega)
      have H1 := hide h1
      have HM := hide (show r.toNat < d.toNat by omega)
      clear h1 h2 h3 h4 h5 h6 ha hr hp hdb hnb hr1 hr2 hd
      go_wp2_with fail
      refine ((unhide HF) _).mono ?_
      rintro e W2 ⟨rfl, hW2⟩
      obtain rfl : wr = W2 := hW2.symm
      clear hW2
      dsimp only
      go_wp2_with (first | (at_builtin; refine wpList_append_own _ rfl _ _ 40 rfl w.heap.size 3 i0 (.int .i64 0) 1 8 Tryz.underlying40 hi0 hz0 hz1 hz2 rfl (by decide) _ _ _ rfl (hown.alloc _) ⟨_, 0, none⟩ 1 1 [.int .i64 a] rfl rfl (one_cell _ _ _) (ione_cell _) (by unfold maxLen; omega) (by omega) (by simp <;> omega) ?_; intro v' w1 hown1 hgrow1 _) | fail)
      obtain ⟨r1, r2⟩ := behind_grow hown (hg.alloc hsz _) (by simp <;> omega) hown1 hgrow1
      clear hown1 hgrow1 hown hg
      go_wp2_with fail
      go_roundw
      case rel => exact ⟨l ++ [a], d, r, rfl, rfl, unhide H1, r1, r2⟩
      case measure => exact unhide HM
    · have d1 : decide (0 < d) = false := decide_eq_false hd
      have hd0 := HI.out.d0
      obtain rfl : d = 0 := by omega
      have hL := HI.out.done
      subst hL
      clear hd0 hd
      go_wp2_with fail
      go_ret2
      exact ⟨_, rfl, hown, hg⟩

set_option maxRecDepth 100000 in
set_option maxHeartbeats 16000000 in
theorem pfrac_bad (n0 d0 : Int) (w : World) (hT : Tab w) (ok : ¬ Wd.okR n0 d0) :
    Calls Tryz.prog 30 #[(Value.agg #[.int .i64 n0, .int .i64 d0])] w fun e w' => IntsR w [] 1 e w' := by
  have hv : valE n0 d0 = 1 := if_neg ok
  have HV := hide (val_any n0 d0)
  rw [hv] at HV
  have HT := hide hT
  clear hv hT ok
  go_enter Tryz.func30, Tryz.ntmps30
  go_wp2_with fail
  have hw0 : Below w.heap.size w (w.alloc (.cells #[.int .i64 n0, .int .i64 d0] 23)) := below_alloc (Below.refl _ _) _
  refine ((unhide HV) _ ((unhide HT).below hw0)).mono ?_
  rintro e W1 ⟨rfl, hb⟩
  have hb9 := below_step' hw0 hb
  clear hb
  go_wp2_with fail
  go_ret2
  exact ⟨_, rfl, World.ownsRow_nil _ _ _ _, hb9⟩

end Go.Proofs.YtmahhmdodfimbaaGreatDoor
/- Ints appended to a list of the call's own. -/
namespace Go.Proofs.YtmahhmdodfimbaaGreatDoor
open Go.RowKit

/-- Ints that a slice of the call's own holds: its block holds ints only, up to its capacity. -/
def OwnI (w : World) (B : Nat) (v : Value) (l : List Int) : Prop :=
  w.ownsRow B 3 1 v l.length (ivals l) ∧ ∀ g cs T f, v.ownBlock = some g → w.heap[g]? = some (.cells cs T f) → ∀ (j : Nat) c, cs[j]? = some c → ∃ z, c = .int .i64 z
theorem OwnI.nil_ (w : World) (B : Nat) : OwnI w B (.slice none 0 0) [] := ⟨World.ownsRow_nil _ _ _ _, fun g _ _ _ h => by simp [Value.ownBlock] at h⟩
theorem OwnI.ge {w : World} {B : Nat} {v : Value} {l : List Int} (h : OwnI w B v l) : ∀ g, v.ownBlock = some g → B ≤ g := own_block_ge h.1
theorem OwnI.kept {w w' : World} {B : Nat} {v : Value} {l : List Int} (h : OwnI w B v l) (hk : ∀ g, v.ownBlock = some g → w'.heap[g]? = w.heap[g]?) : OwnI w' B v l := by
  refine ⟨?_, fun g cs T f hg hc => h.2 g cs T f hg (by rw [← hk g hg]; exact hc)⟩
  obtain ⟨h1, h2 | ⟨g, cap, cur, e, h3, h4, h5⟩⟩ := h.1
  · exact ⟨h1, .inl h2⟩
  · exact ⟨h1, .inr ⟨g, cap, cur, e, h3, (hk g (by rw [e]; rfl)).trans h4, h5⟩⟩
theorem OwnI.lt {w : World} {B : Nat} {v : Value} {l : List Int} (h : OwnI w B v l) : ∀ g, v.ownBlock = some g → g < w.heap.size := fun g hg => (h.1.lt g hg).2
theorem OwnI.below {w w' : World} {B : Nat} {v : Value} {l : List Int} (h : OwnI w B v l) (hb : Below w.heap.size w w') : OwnI w' B v l := h.kept fun g hg => hb.block g (h.lt g hg)
theorem ints_one (x : Int) : ∀ (j : Nat) c, [Value.int .i64 x][j]? = some c → ∃ z, c = .int .i64 z := by
  intro j c h
  rw [List.getElem?_eq_some_iff] at h
  obtain ⟨hj, rfl⟩ := h
  have : j = 0 := by simpa using hj
  subst this
  exact ⟨x, rfl⟩
theorem zero_ints (n : Nat) (j : Nat) (c : Value) (h : (Builtin.zeroCells (Value.int .i64 0).cells n)[j]? = some c) : ∃ z, c = .int .i64 z := by
  have hm : c ∈ (Builtin.zeroCells (Value.int .i64 0).cells n).toList := by
    rw [Array.getElem?_eq_some_iff] at h
    obtain ⟨hj, rfl⟩ := h
    simp
  simp [Builtin.zeroCells, Value.cells] at hm
  obtain ⟨k, _, h2⟩ := hm
  rw [Nat.mod_one] at h2
  exact ⟨0, h2.symm⟩
theorem ival_ints (l : List Int) (j : Nat) (c : Value) (h : (ivals l)[j]? = some c) : ∃ z, c = .int .i64 z := by
  simp only [ivals, List.getElem?_map, Option.map_eq_some_iff] at h
  obtain ⟨x, _, rfl⟩ := h
  exact ⟨x, rfl⟩
theorem app_ints {a b : Array Value} (ha : ∀ (j : Nat) c, a[j]? = some c → ∃ z, c = Value.int .i64 z) (hb : ∀ (j : Nat) c, b[j]? = some c → ∃ z, c = Value.int .i64 z) : ∀ (j : Nat) c, (a ++ b)[j]? = some c → ∃ z, c = Value.int .i64 z := by
  intro j c h
  rw [Array.getElem?_append] at h
  split at h
  · exact ha _ _ h
  · exact hb _ _ h
theorem arr_ints {l : List Value} (h : ∀ (j : Nat) c, l[j]? = some c → ∃ z, c = Value.int .i64 z) : ∀ (j : Nat) c, l.toArray[j]? = some c → ∃ z, c = Value.int .i64 z := by
  intro j c hc
  exact h j c (by simpa using hc)
theorem run_append_int (w : World) (B : Nat) (v : Value) (l : List Int) (h : OwnI w B v l) (a : Addr) (c : Nat) (x : Int) (ty : TypeId) (hx : ∀ j u, [Value.int .i64 x][j]? = some u → w.cell? (a.add j) = some u) (hl : l.length ≤ 1000000000002) (hB : B ≤ w.heap.size) :
    ∃ v' w', (Builtin.append_ #[40, 40] ty #[v, .slice (some a) 1 c]).run Tryz.prog w = .ok v' w' ∧ OwnI w' B v' (l ++ [x]) ∧ w.grownBy w' v.ownBlock := by
  obtain ⟨i0, hi0, hz0, hz1, hz2⟩ := info_parts infoInt
  have hlx : (l ++ [x]).length = l.length + 1 := by simp
  have hvx : ivals (l ++ [x]) = ivals l ++ [.int .i64 x] := by simp [ivals]
  have hvl : (ivals l).length = l.length := by simp [ivals]
  have hln : (ivals l ++ [Value.int .i64 x]).length = (l.length + 1) * 1 := by simp [ivals]
  obtain ⟨h1, ⟨rfl, h2⟩ | ⟨g, cap, cur, rfl, h3, h4, h5, h6, h7, h8⟩⟩ := h.1
  · have hnil : l = [] := List.length_eq_zero_iff.1 h2
    subst hnil
    have hr := run_append_nil (P := Tryz.prog) w 40 ty 3 i0 (.int .i64 0) Tryz.underlying40 hi0 hz0 a 1 c [.int .i64 x] (by rw [hz1]; rfl) hx (by omega) (by omega) (by rw [hz2]; omega)
    have hge := grownCap_ge w 1 0 3
    have hle := grownCap_le_maxLen w 1 0 3 (by simp [maxLen])
    refine ⟨_, _, hr, ⟨⟨by simp [ivals], .inr ⟨w.heap.size, _, _, rfl, hB, heap_alloc_new w.drew _, hge, hle, ?_, by simp [ivals]⟩⟩, ?_⟩, grown_trans' (grown_drew (grown_refl w _)) (World.grownBy_alloc w.drew _ _)⟩
    · simp [Builtin.zeroCells, Value.cells]; omega
    · intro g cs T f hg hh
      simp only [Value.ownBlock, Option.some.injEq] at hg
      subst hg
      have hn := heap_alloc_new w.drew (.cells (#[Value.int .i64 x] ++ Builtin.zeroCells (Value.int .i64 0).cells (grownCap w 1 0 3 - 1)) 3)
      rw [show w.drew.heap.size = w.heap.size from rfl] at hn
      have hh2 := hn.symm.trans hh
      injection hh2 with hh2; injection hh2 with hh2 _ _
      subst hh2
      exact app_ints (arr_ints (l := [Value.int .i64 x]) (ints_one x)) (fun j c => zero_ints _ j c)
  · have hint := h.2 g cur 3 (0, 0) rfl h4
    by_cases hroom : l.length + 1 ≤ cap
    · have hr := run_append_room (P := Tryz.prog) w 40 ty 3 i0 Tryz.underlying40 hi0 g l.length cap cur h4 a 1 c [.int .i64 x] (by rw [hz1]; rfl) hx (ione_cell x) hroom (by rw [hz1, h7]; simp; omega)
      rw [hz1] at hr
      have hsz : (cur.toList.take (l.length * 1)).length = l.length := by rw [h8, hvl]
      refine ⟨_, _, hr, ⟨⟨by rw [hvx, hlx]; simp [ivals], .inr ⟨g, cap, _, by rw [hlx], h3, setRow_heap w g cur _ 3 _ h4, by rw [hlx]; exact hroom, h6, ?_, ?_⟩⟩, ?_⟩, ⟨rfl, rfl, rfl, by simp, fun k _ hk => setRow_other w g k _ (fun e => hk (by simp [Value.ownBlock, e]))⟩⟩
      · simp only [List.size_toArray, List.length_append, hsz, List.length_drop, Array.length_toList, List.length_singleton, h7]
        omega
      · rw [hvx, hlx, h8, ← hln]
        exact List.take_left
      · intro g' cs T f hg hh
        simp only [Value.ownBlock, Option.some.injEq] at hg
        subst hg
        have hh2 := (setRow_heap w g cur _ 3 _ h4).symm.trans hh
        injection hh2 with hh2; injection hh2 with hh2 _ _
        subst hh2
        have hlist : ∀ (j : Nat) c, cur.toList[j]? = some c → ∃ z, c = Value.int .i64 z := fun j c hc => hint j c (by simpa using hc)
        refine arr_ints ?_
        intro j c hc
        rcases List.mem_append.1 (List.mem_of_getElem? hc) with hm | hm
        · rcases List.mem_append.1 hm with hm | hm
          · obtain ⟨j', hj'⟩ := List.getElem?_of_mem (List.mem_of_mem_take hm)
            exact hlist j' c hj'
          · rw [List.mem_singleton] at hm; exact ⟨x, hm⟩
        · obtain ⟨j', hj'⟩ := List.getElem?_of_mem (List.mem_of_mem_drop hm)
          exact hlist j' c hj'
    · have holds : ∀ j u, (ivals l)[j]? = some u → w.cell? ((⟨g, 0, none⟩ : Addr).add j) = some u := h.1.cells (g := g) rfl
      have hr := run_append_grow (P := Tryz.prog) w 40 ty 3 i0 (.int .i64 0) Tryz.underlying40 hi0 hz0 ⟨g, 0, none⟩ l.length cap (ivals l) (by rw [hz1, hvl]; omega) holds a 1 c [.int .i64 x] (by rw [hz1]; rfl) hx (by omega) (by omega) (growslice_fits (by omega) (by rw [hz2]; omega))
      have hge := grownCap_ge w (l.length + 1) cap 3
      have hle := grownCap_le_maxLen w (l.length + 1) cap 3 (by unfold maxLen; omega)
      refine ⟨_, _, hr, ⟨⟨by rw [hvx, hlx]; simp [ivals], .inr ⟨w.heap.size, _, _, by rw [hlx], hB, heap_alloc_new w.drew _, by rw [hlx]; exact hge, hle, ?_, ?_⟩⟩, ?_⟩, grown_trans' (grown_drew (grown_refl w _)) (World.grownBy_alloc w.drew _ _)⟩
      · simp [Builtin.zeroCells, Value.cells, hvl]; omega
      · rw [hvx, hlx]
        simp only [Array.toList_append, List.append_assoc]
        rw [← List.append_assoc, ← hln]
        exact List.take_left
      · intro g' cs T f hg hh
        simp only [Value.ownBlock, Option.some.injEq] at hg
        subst hg
        have hn := heap_alloc_new w.drew (.cells ((ivals l).toArray ++ [Value.int .i64 x].toArray ++ Builtin.zeroCells (Value.int .i64 0).cells (grownCap w (l.length + 1) cap 3 - (l.length + 1))) 3)
        rw [show w.drew.heap.size = w.heap.size from rfl] at hn
        have hh2 := hn.symm.trans hh
        injection hh2 with hh2; injection hh2 with hh2 _ _
        subst hh2
        exact app_ints (app_ints (arr_ints (fun j c => ival_ints l j c)) (arr_ints (ints_one x))) (fun j c => zero_ints _ j c)
theorem wpList_append_int (w : World) {ops : Array Oper} {rest : List Oper} {o : Oper} {a : Act} {Q : Exit → Act → World → Prop} (hgd : o.guard = none) (s x : Operand)
    (ho : o.op = .call { callee := .builtin .append, args := #[s, x], argTypes := #[40, 40] }) (B : Nat) (v : Value) (l : List Int) (hs : a.eval s = v) (hown : OwnI w B v l) (ad : Addr) (c : Nat) (k : Int) (hx : a.eval x = .slice (some ad) 1 c)
    (hnews : ∀ j u, [Value.int .i64 k][j]? = some u → w.cell? (ad.add j) = some u) (hl : l.length ≤ 1000000000002) (hB : B ≤ w.heap.size)
    (h : ∀ v' w', OwnI w' B v' (l ++ [k]) → w.grownBy w' v.ownBlock → wpList Tryz.prog ops Q rest (a.put o.dst v') w') : wpList Tryz.prog ops Q (o :: rest) a w := by
  refine wpList_plain hgd fun K hK => ?_
  obtain ⟨v', w', hr, h2, h3⟩ := run_append_int w B v l hown ad c k o.type hnews hl hB
  unfold Oper.wp execOp
  simp only [ho, resolve, invoke, builtin, Sem.run_bind, Sem.run_pure, Result.andThen_ok, List.map_toArray, List.map_cons, List.map_nil, hs, hx, hr]
  exact hK _ _ (h v' w' h2 h3)

end Go.Proofs.YtmahhmdodfimbaaGreatDoor
/- The reference: an amount by some bits to the left. -/
namespace Go.Proofs.YtmahhmdodfimbaaGreatDoor
open Go.RowKit

theorem bits_or_u32_nat (a b : Nat) (ha : a < B32) (hb : b < B32) : Go.bits .or .u32 (a : Int) (b : Int) = ((a ||| b : Nat) : Int) := by
  rw [B32_eq] at ha hb
  have hx : a ||| b < 2 ^ 32 := Nat.or_lt_two_pow (by omega) (by omega)
  have h1 : (BitVec.ofInt 32 (a : Int)).toNat = a := by
    rw [BitVec.ofInt_natCast, BitVec.toNat_ofNat]; exact Nat.mod_eq_of_lt (by omega)
  have h2 : (BitVec.ofInt 32 (b : Int)).toNat = b := by
    rw [BitVec.ofInt_natCast, BitVec.toNat_ofNat]; exact Nat.mod_eq_of_lt (by omega)
  show IntKind.u32.wrap ((BitVec.ofInt 32 (a : Int) ||| BitVec.ofInt 32 (b : Int)).toNat : Int) = _
  rw [BitVec.toNat_or, h1, h2, IntKind.wrap_u32]
  omega
theorem pow_split32 (s : Nat) (hs : s ≤ 32) : 2 ^ s * 2 ^ (32 - s) = B32 := by
  rw [← Nat.pow_add, show s + (32 - s) = 32 by omega]; rfl
theorem shl_lt {m s : Nat} (hm : m < B32) (hs : s < 32) : m * 2 ^ s < B64 := by
  have h1 : 2 ^ s < 2 ^ 32 := Nat.pow_lt_pow_right (by omega) hs
  have h2 : m * 2 ^ s ≤ m * 2 ^ 32 := Nat.mul_le_mul_left _ (by omega)
  rw [B32_eq] at hm; rw [B64_eq]; omega
theorem shl_parts {m s : Nat} (hs : s < 32) : m * 2 ^ s % B32 = m % 2 ^ (32 - s) * 2 ^ s ∧ m * 2 ^ s / B32 = m / 2 ^ (32 - s) := by
  rw [← pow_split32 s (by omega), Nat.mul_comm (2 ^ s), Nat.mul_mod_mul_right]
  exact ⟨rfl, Nat.mul_div_mul_right _ _ (Nat.pow_pos (by omega))⟩

/-- What a shift to the left hands back: a block of its own, with a word more. -/
def ShlU (w : World) (xl : List Nat) (v : Nat) (e : Ending) (w' : World) : Prop :=
  ∃ zr, e = .returned (.slice (some ⟨w.heap.size, 0, none⟩) (xl.length + 1) (xl.length + 1)) ∧ zr.length = xl.length + 1 ∧ (∀ x ∈ zr, x < B32) ∧ Wd.val B32 zr = v ∧ ZB .u32 w' w.heap.size 136 zr ∧ Below w.heap.size w w'

set_option maxRecDepth 100000 in
set_option maxHeartbeats 1000000 in
theorem shifted_any (Ax : Option Addr) (cx : Nat) (xl : List Nat) (n s : Nat) (w : World) (hx : NatT w Ax cx xl n) (hs : s < 32) (hk : xl.length + 1 ≤ 35184372088832) :
    Calls Tryz.prog 169 #[.slice Ax xl.length cx, .int .u64 ((s : Nat) : Int)] w fun e w' => ShlU w xl (n * 2 ^ s) e w' := by
  have hmk := make32 (xl.length + 1) hk
  simp only [Int.natCast_add, Int.cast_ofNat_Int] at hmk
  have hx1 := hx.cap1; have hx2 := hx.cap2
  go_enter Tryz.func169, Tryz.ntmps169
  go_wp2
  go_loopw [6] (fun iv wr => ∃ (i : Nat) (zr : List Nat), i ≤ xl.length ∧ iv = .int .i64 ((i : Nat) : Int) ∧ Hid (Wd.ShlInv B32 (2 ^ s) xl zr i) ∧ ZB .u32 wr w.heap.size 136 zr ∧ Below w.heap.size w wr) (fun iv _ => xl.length - (intOf iv).toNat)
  case atStart => exact ⟨0, List.replicate (xl.length + 1) 0, Nat.zero_le _, rfl, Wd.ShlInv.start _ _ (Nat.pow_pos (by omega)) (by rw [B32_eq]; omega) (by simp) (zeros_getD _), heap_alloc_new w _, (Below.refl _ _).alloc (Nat.le_refl _) _⟩
  case round =>
    obtain ⟨i, zr, hi, rfl, HI, hzr, hg⟩ := hrel
    have hlen := HI.out.len
    by_cases hlt : i < xl.length
    · obtain ⟨bx, ox, rfl, hbx, hcx⟩ := hx.ws (by omega)
      have hxc := (hg.cell (p := ⟨bx, ox + i, none⟩) hbx).trans (hcx i hlt)
      clear hcx
      have hzc := hzr.cell i (by omega)
      have hzf := hzr.frozen i
      have hzc1 := hzr.cell (i + 1) (by omega)
      have hzf1 := hzr.frozen (i + 1)
      obtain ⟨m, hm⟩ : ∃ m, m = Wd.g xl i := ⟨_, rfl⟩
      obtain ⟨z, hz⟩ : ∃ z, z = Wd.g zr i := ⟨_, rfl⟩
      rw [← hm] at hxc
      rw [← hz] at hzc
      have hmB : m < B32 := by rw [hm]; exact Wd.getD_lt (by rw [B32_eq]; omega) _ hx.lt i
      have hzB : z < B32 := by rw [hz]; exact Wd.getD_lt (by rw [B32_eq]; omega) _ HI.out.lt i
      have hzS : z < 2 ^ s := by rw [hz]; exact HI.out.low
      obtain ⟨x, hxx⟩ : ∃ x, x = m * 2 ^ s := ⟨_, rfl⟩
      obtain ⟨p, hp⟩ : ∃ p, p = x % B32 := ⟨_, rfl⟩
      obtain ⟨r, hr⟩ : ∃ r, r = z + p := ⟨_, rfl⟩
      obtain ⟨q, hq⟩ : ∃ q, q = x / B32 := ⟨_, rfl⟩
      have hpp := shl_parts (m := m) hs
      rw [← hxx, ← hp, ← hq] at hpp
      have hpB : p < B32 := by rw [hp]; exact Nat.mod_lt _ (by rw [B32_eq]; omega)
      have hqB : q < B32 := by rw [hq, Nat.div_lt_iff_lt_mul (by rw [B32_eq]; omega)]; have := shl_lt hmB hs; rw [hxx, B32_eq]; rw [B64_eq] at this; omega
      have e0 : IntKind.u64.wrap (m : Int) = (m : Int) := wrap64_nat rfl (by rw [B32_eq] at hmB; rw [B64_eq]; omega)
      have e1 : IntKind.u64.wrap ((m : Int) * 2 ^ s) = (x : Int) := wrap64_nat (by rw [hxx]; simp) (by rw [hxx]; exact shl_lt hmB hs)
      have e2 : Go.bits .or .u32 (z : Int) (p : Int) = (r : Int) := by
        rw [bits_or_u32_nat z p hzB hpB, hr, hpp.1, or_word hzS]
      have e3 : (x : Int) / 4294967296 = (q : Int) := by rw [hq, B32_eq]; omega
      have e4 : (x : Int) % 4294967296 = (p : Int) := by rw [hp, B32_eq]; omega
      have e5 : (q : Int) % 4294967296 = (q : Int) := by rw [B32_eq] at hqB; omega
      have e6 : IntKind.u32.wrap (x : Int) = (p : Int) := by rw [wrap32_nat, hp]
      have e7 : IntKind.u32.wrap (q : Int) = (q : Int) := by rw [IntKind.wrap_u32]; exact e5
      have hfin : ∀ W, W = (wr.setCell ⟨w.heap.size, i, none⟩ (.int .u32 (r : Int))).setCell ⟨w.heap.size, i + 1, none⟩ (.int .u32 (q : Int)) → Hid (Wd.ShlInv B32 (2 ^ s) xl ((zr.set i r).set (i + 1) q) (i + 1)) ∧ ZB .u32 W w.heap.size 136 ((zr.set i r).set (i + 1) q) ∧ Below w.heap.size w W := by
        rintro W rfl
        refine ⟨?_, (hzr.set_ _ _).set_ _ _, (hg.setCell (by simp) _).setCell (by simp) _⟩
        have := HI.out.step (pow_split32 s (by omega)) (Nat.pow_pos (by omega)) hlt (by rw [← Wd.g_def, ← hm]; exact hmB)
        rw [hr, hpp.1, hpp.2, hm, hz]
        exact this
      have HF := hide hfin
      clear hfin hpp hp hr hq hm hz hzS hzr hg hxx hpB hqB hmB hzB
      go_wp2_with fail
      go_roundw
      case rel =>
        obtain ⟨r1, r2, r3⟩ := (unhide HF) _ rfl
        exact ⟨i + 1, _, by omega, by go_num, r1, r2, r3⟩
      case measure => simp [intOf] <;> omega
    · have e : i = xl.length := by omega
      subst e
      have hv := HI.out.done
      rw [hx.val] at hv
      have HV := Lib.hid hv
      clear hv
      go_wp2_with fail
      go_ret
      exact ⟨zr, rfl, hlen, HI.out.lt, HV.out, hzr, hg⟩
end Go.Proofs.YtmahhmdodfimbaaGreatDoor
