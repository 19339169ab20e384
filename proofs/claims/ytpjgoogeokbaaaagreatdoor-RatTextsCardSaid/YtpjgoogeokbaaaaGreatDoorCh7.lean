/- Part 7 of the texts beneath a law of layer 1: RtSub, RatV, RatF, RtOf, RtRat, RatC, Med, RatFl, RtCmp, RatD, NbK, NearK. -/
import Derived.Test.YtpjgoogeokbaaaaGreatDoorCh6
import Derived.BigQuiet
/- Differences and quotients of quotients. -/
namespace Go.Proofs.YtpjgoogeokbaaaaGreatDoor
open Go.RowKit

set_option maxRecDepth 100000 in
set_option maxHeartbeats 16000000 in
theorem opq_sub_of {w : World} {x y v q : Rat} (g1 : OpQ1 w 87 y v) (g2 : OpQ2 w 82 x v q) : OpQ2 w 61 x y q := by
  intro s1 neg1 A1 c1 l1 s2 neg2 A2 c2 l2 s3 neg3 A3 c3 l3 s4 neg4 A4 c4 l4 W hW f1 f2 f3 f4
  replace g1 := g1.mono hW
  replace g2 := g2.mono hW
  clear hW w
  revert W
  intro w f1 f2 f3 f4 g1 g2
  have H1 := hide f1
  have H2 := hide f2
  have H3 := hide f3
  have H4 := hide f4
  clear f1 f2 f3 f4
  have HG1 := hide g1
  have HG2 := hide g2
  clear g1 g2
  go_enter Tryz.func61, Tryz.ntmps61
  go_upto_region 1 with fail
  obtain ⟨n0, n1, n2, hsz, hw0⟩ := three_new w (.cells #[.int .i64 s1, .bool neg1, .slice A1 l1.length c1, .int .i64 s2, .bool neg2, .slice A2 l2.length c2] 63) (.cells #[.int .i64 s3, .bool neg3, .slice A3 l3.length c3, .int .i64 s4, .bool neg4, .slice A4 l4.length c4] 63) (.cells #[.int .i64 0, .bool false, .slice none 0 0, .int .i64 0, .bool false, .slice none 0 0] 63)
  generalize (((w.alloc (.cells #[.int .i64 s1, .bool neg1, .slice A1 l1.length c1, .int .i64 s2, .bool neg2, .slice A2 l2.length c2] 63)).alloc (.cells #[.int .i64 s3, .bool neg3, .slice A3 l3.length c3, .int .i64 s4, .bool neg4, .slice A4 l4.length c4] 63)).alloc (.cells #[.int .i64 0, .bool false, .slice none 0 0, .int .i64 0, .bool false, .slice none 0 0] 63)) = W0 at *
  have k0_0 : W0.cell? ⟨w.heap.size, 0, none⟩ = some (.int .i64 s1) := cells_of n0 0
  have k0_1 : W0.cell? ⟨w.heap.size, 1, none⟩ = some (.bool neg1) := cells_of n0 1
  have k0_2 : W0.cell? ⟨w.heap.size, 2, none⟩ = some (.slice A1 l1.length c1) := cells_of n0 2
  have k0_3 : W0.cell? ⟨w.heap.size, 3, none⟩ = some (.int .i64 s2) := cells_of n0 3
  have k0_4 : W0.cell? ⟨w.heap.size, 4, none⟩ = some (.bool neg2) := cells_of n0 4
  have k0_5 : W0.cell? ⟨w.heap.size, 5, none⟩ = some (.slice A2 l2.length c2) := cells_of n0 5
  have q0 : w.heap.size < W0.heap.size := by omega
  have k1_0 : W0.cell? ⟨w.heap.size + 1, 0, none⟩ = some (.int .i64 s3) := cells_of n1 0
  have k1_1 : W0.cell? ⟨w.heap.size + 1, 1, none⟩ = some (.bool neg3) := cells_of n1 1
  have k1_2 : W0.cell? ⟨w.heap.size + 1, 2, none⟩ = some (.slice A3 l3.length c3) := cells_of n1 2
  have k1_3 : W0.cell? ⟨w.heap.size + 1, 3, none⟩ = some (.int .i64 s4) := cells_of n1 3
  have k1_4 : W0.cell? ⟨w.heap.size + 1, 4, none⟩ = some (.bool neg4) := cells_of n1 4
  have k1_5 : W0.cell? ⟨w.heap.size + 1, 5, none⟩ = some (.slice A4 l4.length c4) := cells_of n1 5
  have q1 : w.heap.size + 1 < W0.heap.size := by omega
  have k2_0 : W0.cell? ⟨w.heap.size + 1 + 1, 0, none⟩ = some (.int .i64 0) := cells_of n2 0
  have k2_1 : W0.cell? ⟨w.heap.size + 1 + 1, 1, none⟩ = some (.bool false) := cells_of n2 1
  have k2_2 : W0.cell? ⟨w.heap.size + 1 + 1, 2, none⟩ = some (.slice none 0 0) := cells_of n2 2
  have k2_3 : W0.cell? ⟨w.heap.size + 1 + 1, 3, none⟩ = some (.int .i64 0) := cells_of n2 3
  have k2_4 : W0.cell? ⟨w.heap.size + 1 + 1, 4, none⟩ = some (.bool false) := cells_of n2 4
  have k2_5 : W0.cell? ⟨w.heap.size + 1 + 1, 5, none⟩ = some (.slice none 0 0) := cells_of n2 5
  have q2 : w.heap.size + 1 + 1 < W0.heap.size := by omega
  have f2_0 := unfrozen_of n2 0
  have f2_1 := unfrozen_of n2 1
  have f2_2 := unfrozen_of n2 2
  have f2_3 := unfrozen_of n2 3
  have f2_4 := unfrozen_of n2 4
  have f2_5 := unfrozen_of n2 5
  have NR := Lib.hid n2
  clear hsz n0 n1 n2
  replace H1 := hide ((unhide H1).below hw0)
  replace H2 := hide ((unhide H2).below hw0)
  replace H3 := hide ((unhide H3).below hw0)
  replace H4 := hide ((unhide H4).below hw0)
  have KEEP := hide (show ∀ X, Below W0.heap.size W0 X → X.cell? ⟨w.heap.size, 0, none⟩ = some (.int .i64 s1) ∧ X.cell? ⟨w.heap.size, 1, none⟩ = some (.bool neg1) ∧ X.cell? ⟨w.heap.size, 2, none⟩ = some (.slice A1 l1.length c1) ∧ X.cell? ⟨w.heap.size, 3, none⟩ = some (.int .i64 s2) ∧ X.cell? ⟨w.heap.size, 4, none⟩ = some (.bool neg2) ∧ X.cell? ⟨w.heap.size, 5, none⟩ = some (.slice A2 l2.length c2) ∧ X.cell? ⟨w.heap.size + 1, 0, none⟩ = some (.int .i64 s3) ∧ X.cell? ⟨w.heap.size + 1, 1, none⟩ = some (.bool neg3) ∧ X.cell? ⟨w.heap.size + 1, 2, none⟩ = some (.slice A3 l3.length c3) ∧ X.cell? ⟨w.heap.size + 1, 3, none⟩ = some (.int .i64 s4) ∧ X.cell? ⟨w.heap.size + 1, 4, none⟩ = some (.bool neg4) ∧ X.cell? ⟨w.heap.size + 1, 5, none⟩ = some (.slice A4 l4.length c4) from fun X hB => ⟨keep_cell hB q0 k0_0, keep_cell hB q0 k0_1, keep_cell hB q0 k0_2, keep_cell hB q0 k0_3, keep_cell hB q0 k0_4, keep_cell hB q0 k0_5, keep_cell hB q1 k1_0, keep_cell hB q1 k1_1, keep_cell hB q1 k1_2, keep_cell hB q1 k1_3, keep_cell hB q1 k1_4, keep_cell hB q1 k1_5⟩)
  go_region_held3 (fun w' => w'.cell? ⟨w.heap.size, 0, none⟩ = some (.int .i64 s1) ∧ w'.cell? ⟨w.heap.size, 1, none⟩ = some (.bool neg1) ∧ w'.cell? ⟨w.heap.size, 2, none⟩ = some (.slice A1 l1.length c1) ∧ w'.cell? ⟨w.heap.size, 3, none⟩ = some (.int .i64 s2) ∧ w'.cell? ⟨w.heap.size, 4, none⟩ = some (.bool neg2) ∧ w'.cell? ⟨w.heap.size, 5, none⟩ = some (.slice A2 l2.length c2) ∧ w'.cell? ⟨w.heap.size + 1, 0, none⟩ = some (.int .i64 s3) ∧ w'.cell? ⟨w.heap.size + 1, 1, none⟩ = some (.bool neg3) ∧ w'.cell? ⟨w.heap.size + 1, 2, none⟩ = some (.slice A3 l3.length c3) ∧ w'.cell? ⟨w.heap.size + 1, 3, none⟩ = some (.int .i64 s4) ∧ w'.cell? ⟨w.heap.size + 1, 4, none⟩ = some (.bool neg4) ∧ w'.cell? ⟨w.heap.size + 1, 5, none⟩ = some (.slice A4 l4.length c4)) (first | with_reducible exact ⟨(cell_set6 _ _ _ _ _ _ _ _ (by omega)).trans (keep_cell hbw q0 k0_0), (cell_set6 _ _ _ _ _ _ _ _ (by omega)).trans (keep_cell hbw q0 k0_1), (cell_set6 _ _ _ _ _ _ _ _ (by omega)).trans (keep_cell hbw q0 k0_2), (cell_set6 _ _ _ _ _ _ _ _ (by omega)).trans (keep_cell hbw q0 k0_3), (cell_set6 _ _ _ _ _ _ _ _ (by omega)).trans (keep_cell hbw q0 k0_4), (cell_set6 _ _ _ _ _ _ _ _ (by omega)).trans (keep_cell hbw q0 k0_5), (cell_set6 _ _ _ _ _ _ _ _ (by omega)).trans (keep_cell hbw q1 k1_0), (cell_set6 _ _ _ _ _ _ _ _ (by omega)).trans (keep_cell hbw q1 k1_1), (cell_set6 _ _ _ _ _ _ _ _ (by omega)).trans (keep_cell hbw q1 k1_2), (cell_set6 _ _ _ _ _ _ _ _ (by omega)).trans (keep_cell hbw q1 k1_3), (cell_set6 _ _ _ _ _ _ _ _ (by omega)).trans (keep_cell hbw q1 k1_4), (cell_set6 _ _ _ _ _ _ _ _ (by omega)).trans (keep_cell hbw q1 k1_5)⟩ | with_reducible exact (unhide KEEP) _ (by (repeat (first | with_reducible exact Below.refl _ _ | with_reducible assumption | with_reducible refine Below.drew ?_ | with_reducible refine below_alloc ?_ _)))) (first | (go_at_call_of 87 (Value.agg #[.int .i64 s3, .bool neg3, .slice A3 l3.length c3, .int .i64 s4, .bool neg4, .slice A4 l4.length c4]); refine ((unhide HG1) s3 neg3 A3 c3 l3 s4 neg4 A4 c4 l4 _ (below_step' hw0 (by (repeat (first | with_reducible exact Below.refl _ _ | with_reducible assumption | with_reducible refine Below.drew ?_ | with_reducible refine below_alloc ?_ _)))) (IntF.below (unhide H3) (by (repeat (first | with_reducible exact Below.refl _ _ | with_reducible assumption | with_reducible refine Below.drew ?_ | with_reducible refine below_alloc ?_ _)))) (IntF.below (unhide H4) (by (repeat (first | with_reducible exact Below.refl _ _ | with_reducible assumption | with_reducible refine Below.drew ?_ | with_reducible refine below_alloc ?_ _))))).mono ?_; rintro e w' ⟨s5, neg5, A5, c5, l5, s6, neg6, A6, c6, l6, rfl, hf5, hf6, hb5⟩; have hbw := below_step (w := W0) (by (repeat (first | with_reducible exact Below.refl _ _ | with_reducible assumption | with_reducible refine Below.drew ?_ | with_reducible refine below_alloc ?_ _))) hb5; have hsw := hbw.size; obtain ⟨hc, hfz⟩ := bcell hbw) | (go_at_call_of 82 (Value.agg #[.int .i64 s1, .bool neg1, .slice A1 l1.length c1, .int .i64 s2, .bool neg2, .slice A2 l2.length c2]); refine ((unhide HG2) s1 neg1 A1 c1 l1 s2 neg2 A2 c2 l2 s5 neg5 A5 c5 l5 s6 neg6 A6 c6 l6 _ (below_step' hw0 (by (repeat (first | with_reducible exact Below.refl _ _ | with_reducible assumption | with_reducible refine Below.drew ?_ | with_reducible refine below_alloc ?_ _)))) (IntF.below (unhide H1) (by (repeat (first | with_reducible exact Below.refl _ _ | with_reducible assumption | with_reducible refine Below.drew ?_ | with_reducible refine below_alloc ?_ _)))) (IntF.below (unhide H2) (by (repeat (first | with_reducible exact Below.refl _ _ | with_reducible assumption | with_reducible refine Below.drew ?_ | with_reducible refine below_alloc ?_ _)))) (IntF.below hf5 (by (repeat (first | with_reducible exact Below.refl _ _ | with_reducible assumption | with_reducible refine Below.drew ?_ | with_reducible refine below_alloc ?_ _)))) (IntF.below hf6 (by (repeat (first | with_reducible exact Below.refl _ _ | with_reducible assumption | with_reducible refine Below.drew ?_ | with_reducible refine below_alloc ?_ _))))).mono ?_; rintro e w' ⟨s7, neg7, A7, c7, l7, s8, neg8, A8, c8, l8, rfl, hf7, hf8, hb7⟩; have hbw := below_step (w := W0) (by (repeat (first | with_reducible exact Below.refl _ _ | with_reducible assumption | with_reducible refine Below.drew ?_ | with_reducible refine below_alloc ?_ _))) hb7; have hsw := hbw.size; obtain ⟨hc, hfz⟩ := bcell hbw))
  have hblk : w'.heap[w.heap.size + 1 + 1]? = some (.cells #[.int .i64 0, .bool false, .slice none 0 0, .int .i64 0, .bool false, .slice none 0 0] 63 (0, 0)) := (hbw.block _ q2).trans NR.out
  have HBLK := Lib.hid hblk
  have hb9 : Below w.heap.size w w' := below_step' hw0 hbw
  clear hblk
  go_wp2_with fail
  exact bodyPost_ret (v := (Value.agg #[.int .i64 s7, .bool neg7, .slice A7 l7.length c7, .int .i64 s8, .bool neg8, .slice A8 l8.length c8])) (by simp [results, Tryz.results61, go_sem, hc, k2_0, k2_1, k2_2, k2_3, k2_4, k2_5, q2]) rfl
    ⟨s7, neg7, A7, c7, l7, s8, neg8, A8, c8, l8, rfl, (hf7).upto HBLK.out (noWord6 _ _ _ _ _ _ _ _ _ _) (set6_grown _ _ _ _ _ _ _ _), (hf8).upto HBLK.out (noWord6 _ _ _ _ _ _ _ _ _ _) (set6_grown _ _ _ _ _ _ _ _), hb9.grown (set6_grown _ _ _ _ _ _ _ _) hb9.size (fun k hk => by injection hk with hk; omega)⟩
theorem opq_sub {w : World} {K : Nat} (hT : Tab w) (x y : Rat) (hx : SzQ K x) (hy : SzQ K y) (hK : K + K + 1 ≤ lim) : OpQ2 w 61 x y (x - y) ∧ SzQ (K + K + 1) (x - y) := by
  obtain ⟨a, b⟩ := opq_add hT x (-y) hx hy.neg hK
  rw [Rat.sub_eq_add_neg]
  exact ⟨opq_sub_of (opq_neg w y) a, b⟩
end Go.Proofs.YtpjgoogeokbaaaaGreatDoor
/- Which numbers there are: the program's own check. -/
namespace Go.Proofs.YtpjgoogeokbaaaaGreatDoor
open Go.RowKit

/-- What the check tells. -/
def valE (n d : Int) : Int := if Wd.okR n d then 0 else 1

set_option maxRecDepth 100000 in
set_option maxHeartbeats 2000000 in
theorem val_bad1 (n d : Int) (h1 : d < 1) (w : World) :
    Calls Tryz.prog 49 #[.agg #[.int .i64 n, .int .i64 d]] w fun e w' => e = .returned (.int .i64 1) ∧ Below w.heap.size w w' := by
  have d1 : decide (d < 1) = true := decide_eq_true (by omega)
  clear h1
  go_enter Tryz.func49, Tryz.ntmps49
  go_wp2
  go_ret
  exact ⟨rfl, (Below.refl _ _).alloc (Nat.le_refl _) _⟩
set_option maxRecDepth 100000 in
set_option maxHeartbeats 2000000 in
theorem val_bad2 (n d : Int) (h1 : ¬ d < 1) (h2 : 1000000000000 < d) (w : World) :
    Calls Tryz.prog 49 #[.agg #[.int .i64 n, .int .i64 d]] w fun e w' => e = .returned (.int .i64 1) ∧ Below w.heap.size w w' := by
  have d1 : decide (d < 1) = false := decide_eq_false (by omega)
  have d2 : decide (1000000000000 < d) = true := decide_eq_true (by omega)
  clear h1 h2
  go_enter Tryz.func49, Tryz.ntmps49
  go_wp2
  go_ret
  exact ⟨rfl, (Below.refl _ _).alloc (Nat.le_refl _) _⟩
set_option maxRecDepth 100000 in
set_option maxHeartbeats 2000000 in
theorem val_bad3 (n d : Int) (h1 : ¬ d < 1) (h2 : ¬ 1000000000000 < d) (h3 : n < -1000000000000) (w : World) :
    Calls Tryz.prog 49 #[.agg #[.int .i64 n, .int .i64 d]] w fun e w' => e = .returned (.int .i64 1) ∧ Below w.heap.size w w' := by
  have d1 : decide (d < 1) = false := decide_eq_false (by omega)
  have d2 : decide (1000000000000 < d) = false := decide_eq_false (by omega)
  have d3 : decide (n < -1000000000000) = true := decide_eq_true (by omega)
  clear h1 h2 h3
  go_enter Tryz.func49, Tryz.ntmps49
  go_wp2
  go_ret
  exact ⟨rfl, (Below.refl _ _).alloc (Nat.le_refl _) _⟩
set_option maxRecDepth 100000 in
set_option maxHeartbeats 2000000 in
theorem val_bad4 (n d : Int) (h1 : ¬ d < 1) (h2 : ¬ 1000000000000 < d) (h3 : ¬ n < -1000000000000) (h4 : 1000000000000 < n) (w : World) :
    Calls Tryz.prog 49 #[.agg #[.int .i64 n, .int .i64 d]] w fun e w' => e = .returned (.int .i64 1) ∧ Below w.heap.size w w' := by
  have d1 : decide (d < 1) = false := decide_eq_false (by omega)
  have d2 : decide (1000000000000 < d) = false := decide_eq_false (by omega)
  have d3 : decide (n < -1000000000000) = false := decide_eq_false (by omega)
  have d4 : decide (1000000000000 < n) = true := decide_eq_true (by omega)
  clear h1 h2 h3 h4
  go_enter Tryz.func49, Tryz.ntmps49
  go_wp2
  go_ret
  exact ⟨rfl, (Below.refl _ _).alloc (Nat.le_refl _) _⟩
set_option maxRecDepth 100000 in
set_option maxHeartbeats 2000000 in
theorem val_ok (n d : Int) (h1 : ¬ d < 1) (h2 : ¬ 1000000000000 < d) (h3 : ¬ n < -1000000000000) (h4 : ¬ 1000000000000 < n) (h5 : n.natAbs.gcd d.natAbs = 1) (w : World) (hT : Tab w) :
    Calls Tryz.prog 49 #[.agg #[.int .i64 n, .int .i64 d]] w fun e w' => e = .returned (.int .i64 0) ∧ Below w.heap.size w w' := by
  have d1 : decide (d < 1) = false := decide_eq_false (by omega)
  have d2 : decide (1000000000000 < d) = false := decide_eq_false (by omega)
  have d3 : decide (n < -1000000000000) = false := decide_eq_false (by omega)
  have d4 : decide (1000000000000 < n) = false := decide_eq_false (by omega)
  have e1 : wrap64 (-n) = -n := IntWalk.wrap64_in _ (by omega)
  have e1' : IntKind.i64.wrap (-n) = -n := IntWalk.i64_in _ (by omega)
  obtain ⟨a, ha⟩ : ∃ a, a = n.natAbs := ⟨_, rfl⟩
  obtain ⟨b, hb⟩ : ∃ b, b = d.natAbs := ⟨_, rfl⟩
  have e2 : max n (-n) = ((a : Nat) : Int) := by omega
  have e3 : IntKind.u64.wrap ((a : Nat) : Int) = ((a : Nat) : Int) := by rw [IntKind.wrap_u64]; omega
  have e4 : IntKind.u64.wrap d = ((b : Nat) : Int) := by rw [IntKind.wrap_u64]; omega
  rw [← ha, ← hb] at h5
  have HG := hide (fun W (hW : Tab W) => gcd64_any a b (by rw [B64_eq]; omega) (by rw [B64_eq]; omega) W hW)
  have HT := hide hT
  obtain ⟨g, hg⟩ : ∃ g, g = a.gcd b := ⟨_, rfl⟩
  rw [← hg] at h5 HG
  have d5 : ((g : Int) == 1) = true := beq_iff_eq.2 (by omega)
  have d6 : ((g : Int) != 1) = false := by simp [bne, d5]
  clear h1 h2 h3 h4 h5 ha hb hg hT
  go_enter Tryz.func49, Tryz.ntmps49
  go_wp2_with fail
  refine ((unhide HG) _ ((unhide HT).alloc _)).mono ?_
  rintro e w' ⟨rfl, rfl⟩
  go_wp2
  go_ret
  exact ⟨rfl, (Below.refl _ _).alloc (Nat.le_refl _) _⟩
set_option maxRecDepth 100000 in
set_option maxHeartbeats 2000000 in
theorem val_bad5 (n d : Int) (h1 : ¬ d < 1) (h2 : ¬ 1000000000000 < d) (h3 : ¬ n < -1000000000000) (h4 : ¬ 1000000000000 < n) (h5 : ¬ n.natAbs.gcd d.natAbs = 1) (w : World) (hT : Tab w) :
    Calls Tryz.prog 49 #[.agg #[.int .i64 n, .int .i64 d]] w fun e w' => e = .returned (.int .i64 1) ∧ Below w.heap.size w w' := by
  have d1 : decide (d < 1) = false := decide_eq_false (by omega)
  have d2 : decide (1000000000000 < d) = false := decide_eq_false (by omega)
  have d3 : decide (n < -1000000000000) = false := decide_eq_false (by omega)
  have d4 : decide (1000000000000 < n) = false := decide_eq_false (by omega)
  have e1 : wrap64 (-n) = -n := IntWalk.wrap64_in _ (by omega)
  have e1' : IntKind.i64.wrap (-n) = -n := IntWalk.i64_in _ (by omega)
  obtain ⟨a, ha⟩ : ∃ a, a = n.natAbs := ⟨_, rfl⟩
  obtain ⟨b, hb⟩ : ∃ b, b = d.natAbs := ⟨_, rfl⟩
  have e2 : max n (-n) = ((a : Nat) : Int) := by omega
  have e3 : IntKind.u64.wrap ((a : Nat) : Int) = ((a : Nat) : Int) := by rw [IntKind.wrap_u64]; omega
  have e4 : IntKind.u64.wrap d = ((b : Nat) : Int) := by rw [IntKind.wrap_u64]; omega
  rw [← ha, ← hb] at h5
  have HG := hide (fun W (hW : Tab W) => gcd64_any a b (by rw [B64_eq]; omega) (by rw [B64_eq]; omega) W hW)
  have HT := hide hT
  obtain ⟨g, hg⟩ : ∃ g, g = a.gcd b := ⟨_, rfl⟩
  rw [← hg] at h5 HG
  have d5 : ((g : Int) == 1) = false := beq_eq_false_iff_ne.2 (by omega)
  have d6 : ((g : Int) != 1) = true := by simp [bne, d5]
  clear h1 h2 h3 h4 h5 ha hb hg hT
  go_enter Tryz.func49, Tryz.ntmps49
  go_wp2_with fail
  refine ((unhide HG) _ ((unhide HT).alloc _)).mono ?_
  rintro e w' ⟨rfl, rfl⟩
  go_wp2
  go_ret
  exact ⟨rfl, (Below.refl _ _).alloc (Nat.le_refl _) _⟩
theorem val_any (n d : Int) (w : World) (hT : Tab w) :
    Calls Tryz.prog 49 #[.agg #[.int .i64 n, .int .i64 d]] w fun e w' => e = .returned (.int .i64 (valE n d)) ∧ Below w.heap.size w w' := by
  unfold valE
  by_cases h1 : d < 1
  · rw [if_neg (by unfold Wd.okR; omega)]; exact val_bad1 n d h1 w
  by_cases h2 : 1000000000000 < d
  · rw [if_neg (by unfold Wd.okR; omega)]; exact val_bad2 n d h1 h2 w
  by_cases h3 : n < -1000000000000
  · rw [if_neg (by unfold Wd.okR; omega)]; exact val_bad3 n d h1 h2 h3 w
  by_cases h4 : 1000000000000 < n
  · rw [if_neg (by unfold Wd.okR; omega)]; exact val_bad4 n d h1 h2 h3 h4 w
  by_cases h5 : n.natAbs.gcd d.natAbs = 1
  · rw [if_pos (by unfold Wd.okR; omega)]; exact val_ok n d h1 h2 h3 h4 h5 w hT
  · rw [if_neg (by unfold Wd.okR; omega)]; exact val_bad5 n d h1 h2 h3 h4 h5 w hT
end Go.Proofs.YtpjgoogeokbaaaaGreatDoor
/- The first error of two numbers. -/
namespace Go.Proofs.YtpjgoogeokbaaaaGreatDoor
open Go.RowKit

end Go.Proofs.YtpjgoogeokbaaaaGreatDoor
/- A number as a quotient. -/
namespace Go.Proofs.YtpjgoogeokbaaaaGreatDoor
open Go.RowKit

set_option maxRecDepth 100000 in
set_option maxHeartbeats 8000000 in
theorem rof_any (n d : Int) (w : World) (b1 : -9223372036854775808 ≤ n) (b2 : n ≤ 9223372036854775807) (b3 : -9223372036854775808 ≤ d) (b4 : d ≤ 9223372036854775807) :
    Calls Tryz.prog 50 #[(.agg #[.int .i64 n, .int .i64 d])] w fun e w' => PairR w n d e w' := by
  have HN1 := hide (fun W => newInt_any n b1 b2 W)
  have HN2 := hide (fun W => newInt_any d b3 b4 W)
  clear b1 b2 b3 b4
  go_enter Tryz.func50, Tryz.ntmps50
  go_wp2_with fail
  obtain ⟨n0, n1, hsz, hw0⟩ := two_new w (.cells #[.int .i64 n, .int .i64 d] 23) (.cells #[.int .i64 0, .bool false, .slice none 0 0, .int .i64 0, .bool false, .slice none 0 0] 63)
  generalize ((w.alloc (.cells #[.int .i64 n, .int .i64 d] 23)).alloc (.cells #[.int .i64 0, .bool false, .slice none 0 0, .int .i64 0, .bool false, .slice none 0 0] 63)) = W0 at *
  have k0_0 : W0.cell? ⟨w.heap.size, 0, none⟩ = some (.int .i64 n) := cells_of n0 0
  have k0_1 : W0.cell? ⟨w.heap.size, 1, none⟩ = some (.int .i64 d) := cells_of n0 1
  have q0 : w.heap.size < W0.heap.size := by omega
  have k1_0 : W0.cell? ⟨w.heap.size + 1, 0, none⟩ = some (.int .i64 0) := cells_of n1 0
  have k1_1 : W0.cell? ⟨w.heap.size + 1, 1, none⟩ = some (.bool false) := cells_of n1 1
  have k1_2 : W0.cell? ⟨w.heap.size + 1, 2, none⟩ = some (.slice none 0 0) := cells_of n1 2
  have k1_3 : W0.cell? ⟨w.heap.size + 1, 3, none⟩ = some (.int .i64 0) := cells_of n1 3
  have k1_4 : W0.cell? ⟨w.heap.size + 1, 4, none⟩ = some (.bool false) := cells_of n1 4
  have k1_5 : W0.cell? ⟨w.heap.size + 1, 5, none⟩ = some (.slice none 0 0) := cells_of n1 5
  have q1 : w.heap.size + 1 < W0.heap.size := by omega
  have f1_0 := unfrozen_of n1 0
  have f1_1 := unfrozen_of n1 1
  have f1_2 := unfrozen_of n1 2
  have f1_3 := unfrozen_of n1 3
  have f1_4 := unfrozen_of n1 4
  have f1_5 := unfrozen_of n1 5
  have NR := Lib.hid n1
  clear n0 n1
  go_region_held3 (fun w' => w'.cell? ⟨w.heap.size, 0, none⟩ = some (.int .i64 n) ∧ w'.cell? ⟨w.heap.size, 1, none⟩ = some (.int .i64 d)) ((first | with_reducible exact ⟨(hc _ _ q0).trans k0_0, (hc _ _ q0).trans k0_1⟩ | with_reducible exact ⟨k0_0, k0_1⟩ | with_reducible exact ⟨(cell_set6 _ _ _ _ _ _ _ _ (by omega)).trans ((hc _ _ q0).trans k0_0), (cell_set6 _ _ _ _ _ _ _ _ (by omega)).trans ((hc _ _ q0).trans k0_1)⟩ | exact ⟨(hc _ _ q0).trans k0_0, (hc _ _ q0).trans k0_1⟩ | exact ⟨k0_0, k0_1⟩ | exact ⟨(cell_set6 _ _ _ _ _ _ _ _ (by omega)).trans ((hc _ _ q0).trans k0_0), (cell_set6 _ _ _ _ _ _ _ _ (by omega)).trans ((hc _ _ q0).trans k0_1)⟩)) (first | (go_at_call 102; refine ((unhide HN1) _).mono ?_; clear HN1; rintro e w' ⟨s5, neg5, A5, c5, l5, rfl, hf5, hb⟩; have hbw := below_step (w := W0) (by (first | assumption | (repeat (first | exact Below.refl _ _ | assumption | refine Below.drew ?_ | (refine Below.alloc ?_ (by simp <;> omega) _))))) hb; obtain ⟨hc, hfz⟩ := bcell hbw) | (go_at_call 102; refine ((unhide HN2) _).mono ?_; rintro e w' ⟨s6, neg6, A6, c6, l6, rfl, hf6, hb⟩; have hf5 := hf5.below hb; have hbw := below_step (w := W0) (by (first | assumption | (repeat (first | exact Below.refl _ _ | assumption | refine Below.drew ?_ | (refine Below.alloc ?_ (by simp <;> omega) _))))) hb; obtain ⟨hc, hfz⟩ := bcell hbw))
  have hblk : w'.heap[w.heap.size + 1]? = some (.cells #[.int .i64 0, .bool false, .slice none 0 0, .int .i64 0, .bool false, .slice none 0 0] 63 (0, 0)) := (hbw.block _ q1).trans NR.out
  have HBLK := Lib.hid hblk
  have hb9 : Below w.heap.size w w' := below_step' hw0 hbw
  clear hblk
  go_wp2_with fail
  exact bodyPost_ret (v := (Value.agg #[.int .i64 s5, .bool neg5, .slice A5 l5.length c5, .int .i64 s6, .bool neg6, .slice A6 l6.length c6])) (by simp [results, Tryz.results50, go_sem, hc, k1_0, k1_1, k1_2, k1_3, k1_4, k1_5, q1]) rfl
    ⟨s5, neg5, A5, c5, l5, s6, neg6, A6, c6, l6, rfl, (hf5).upto HBLK.out (noWord6 _ _ _ _ _ _ _ _ _ _) (set6_grown _ _ _ _ _ _ _ _), (hf6).upto HBLK.out (noWord6 _ _ _ _ _ _ _ _ _ _) (set6_grown _ _ _ _ _ _ _ _), hb9.grown (set6_grown _ _ _ _ _ _ _ _) hb9.size (fun k hk => by injection hk with hk; omega)⟩

end Go.Proofs.YtpjgoogeokbaaaaGreatDoor
/- What is told of a quotient. -/
namespace Go.Proofs.YtpjgoogeokbaaaaGreatDoor
open Go.RowKit

set_option maxRecDepth 100000 in
set_option maxHeartbeats 8000000 in
theorem rrat_big1 (s1 : Int) (neg1 : Bool) (A1 : Option Addr) (c1 : Nat) (l1 : List Nat) (z1 : Int) (s2 : Int) (neg2 : Bool) (A2 : Option Addr) (c2 : Nat) (l2 : List Nat) (z2 : Int) (w : World) (h1 : IntF w s1 neg1 A1 c1 l1 z1) (h2 : IntF w s2 neg2 A2 c2 l2 z2) (a1 : ¬ l1.length = 0) :
    Calls Tryz.prog 52 #[(Value.agg #[.int .i64 s1, .bool neg1, .slice A1 l1.length c1, .int .i64 s2, .bool neg2, .slice A2 l2.length c2])] w fun e w' => e = .returned (.tuple #[.agg #[.int .i64 0, .int .i64 0], .int .i64 3]) ∧ Below w.heap.size w w' := by
  have HS1 := hide (fun W => small_any s1 neg1 A1 c1 l1.length W)
  have HS2 := hide (fun W => small_any s2 neg2 A2 c2 l2.length W)
  rw [decide_eq_false a1] at HS1
  obtain ⟨B2, hB2⟩ : ∃ b, b = decide (l2.length = 0) := ⟨_, rfl⟩
  rw [← hB2] at HS2
  clear hB2
  clear a1 h1 h2
  go_enter Tryz.func52, Tryz.ntmps52
  go_wp2_with fail
  obtain ⟨n0, n1, hsz, hw0⟩ := two_new w (.cells #[.int .i64 s1, .bool neg1, .slice A1 l1.length c1, .int .i64 s2, .bool neg2, .slice A2 l2.length c2] 63) (.cells #[.int .i64 0, .int .i64 0] 23)
  generalize ((w.alloc (.cells #[.int .i64 s1, .bool neg1, .slice A1 l1.length c1, .int .i64 s2, .bool neg2, .slice A2 l2.length c2] 63)).alloc (.cells #[.int .i64 0, .int .i64 0] 23)) = W0 at *
  have k0_0 : W0.cell? ⟨w.heap.size, 0, none⟩ = some (.int .i64 s1) := cells_of n0 0
  have k0_1 : W0.cell? ⟨w.heap.size, 1, none⟩ = some (.bool neg1) := cells_of n0 1
  have k0_2 : W0.cell? ⟨w.heap.size, 2, none⟩ = some (.slice A1 l1.length c1) := cells_of n0 2
  have k0_3 : W0.cell? ⟨w.heap.size, 3, none⟩ = some (.int .i64 s2) := cells_of n0 3
  have k0_4 : W0.cell? ⟨w.heap.size, 4, none⟩ = some (.bool neg2) := cells_of n0 4
  have k0_5 : W0.cell? ⟨w.heap.size, 5, none⟩ = some (.slice A2 l2.length c2) := cells_of n0 5
  have q0 : w.heap.size < W0.heap.size := by omega
  have k1_0 : W0.cell? ⟨w.heap.size + 1, 0, none⟩ = some (.int .i64 0) := cells_of n1 0
  have k1_1 : W0.cell? ⟨w.heap.size + 1, 1, none⟩ = some (.int .i64 0) := cells_of n1 1
  have q1 : w.heap.size + 1 < W0.heap.size := by omega
  have f1_0 := unfrozen_of n1 0
  have f1_1 := unfrozen_of n1 1
  have NR := Lib.hid n1
  clear n0 n1
  refine ((unhide HS1) _).mono ?_
  rintro e w3 ⟨rfl, hb⟩
  have hbw := below_step (w := W0) (by (first | assumption | (repeat (first | exact Below.refl _ _ | assumption | refine Below.drew ?_ | (refine Below.alloc ?_ (by simp <;> omega) _))))) hb
  obtain ⟨hc, hfz⟩ := bcell hbw
  go_wp2_with fail
  refine ((unhide HS2) _).mono ?_
  rintro e w4 ⟨rfl, hb⟩
  have hbw := below_step (w := W0) (by (first | assumption | (repeat (first | exact Below.refl _ _ | assumption | refine Below.drew ?_ | (refine Below.alloc ?_ (by simp <;> omega) _))))) hb
  obtain ⟨hc, hfz⟩ := bcell hbw
  have hb9 : Below w.heap.size w w4 := below_step' hw0 hbw
  go_wp2_with fail
  exact bodyPost_ret (v := .tuple #[.agg #[.int .i64 0, .int .i64 0], .int .i64 3]) (by simp [results, Tryz.results52, go_sem, hc, k1_0, k1_1, q1]) rfl
    ⟨rfl, hb9.grown (set2_grown _ _ _ _) hb9.size (fun k hk => by injection hk with hk; omega)⟩
set_option maxRecDepth 100000 in
set_option maxHeartbeats 8000000 in
theorem rrat_big2 (s1 : Int) (neg1 : Bool) (A1 : Option Addr) (c1 : Nat) (l1 : List Nat) (z1 : Int) (s2 : Int) (neg2 : Bool) (A2 : Option Addr) (c2 : Nat) (l2 : List Nat) (z2 : Int) (w : World) (h1 : IntF w s1 neg1 A1 c1 l1 z1) (h2 : IntF w s2 neg2 A2 c2 l2 z2) (a1 : l1.length = 0) (a2 : ¬ l2.length = 0) :
    Calls Tryz.prog 52 #[(Value.agg #[.int .i64 s1, .bool neg1, .slice A1 l1.length c1, .int .i64 s2, .bool neg2, .slice A2 l2.length c2])] w fun e w' => e = .returned (.tuple #[.agg #[.int .i64 0, .int .i64 0], .int .i64 3]) ∧ Below w.heap.size w w' := by
  have HS1 := hide (fun W => small_any s1 neg1 A1 c1 l1.length W)
  have HS2 := hide (fun W => small_any s2 neg2 A2 c2 l2.length W)
  rw [decide_eq_true a1] at HS1
  rw [decide_eq_false a2] at HS2
  clear a1 a2 h1 h2
  go_enter Tryz.func52, Tryz.ntmps52
  go_wp2_with fail
  obtain ⟨n0, n1, hsz, hw0⟩ := two_new w (.cells #[.int .i64 s1, .bool neg1, .slice A1 l1.length c1, .int .i64 s2, .bool neg2, .slice A2 l2.length c2] 63) (.cells #[.int .i64 0, .int .i64 0] 23)
  generalize ((w.alloc (.cells #[.int .i64 s1, .bool neg1, .slice A1 l1.length c1, .int .i64 s2, .bool neg2, .slice A2 l2.length c2] 63)).alloc (.cells #[.int .i64 0, .int .i64 0] 23)) = W0 at *
  have k0_0 : W0.cell? ⟨w.heap.size, 0, none⟩ = some (.int .i64 s1) := cells_of n0 0
  have k0_1 : W0.cell? ⟨w.heap.size, 1, none⟩ = some (.bool neg1) := cells_of n0 1
  have k0_2 : W0.cell? ⟨w.heap.size, 2, none⟩ = some (.slice A1 l1.length c1) := cells_of n0 2
  have k0_3 : W0.cell? ⟨w.heap.size, 3, none⟩ = some (.int .i64 s2) := cells_of n0 3
  have k0_4 : W0.cell? ⟨w.heap.size, 4, none⟩ = some (.bool neg2) := cells_of n0 4
  have k0_5 : W0.cell? ⟨w.heap.size, 5, none⟩ = some (.slice A2 l2.length c2) := cells_of n0 5
  have q0 : w.heap.size < W0.heap.size := by omega
  have k1_0 : W0.cell? ⟨w.heap.size + 1, 0, none⟩ = some (.int .i64 0) := cells_of n1 0
  have k1_1 : W0.cell? ⟨w.heap.size + 1, 1, none⟩ = some (.int .i64 0) := cells_of n1 1
  have q1 : w.heap.size + 1 < W0.heap.size := by omega
  have f1_0 := unfrozen_of n1 0
  have f1_1 := unfrozen_of n1 1
  have NR := Lib.hid n1
  clear n0 n1
  refine ((unhide HS1) _).mono ?_
  rintro e w3 ⟨rfl, hb⟩
  have hbw := below_step (w := W0) (by (first | assumption | (repeat (first | exact Below.refl _ _ | assumption | refine Below.drew ?_ | (refine Below.alloc ?_ (by simp <;> omega) _))))) hb
  obtain ⟨hc, hfz⟩ := bcell hbw
  go_wp2_with fail
  refine ((unhide HS2) _).mono ?_
  rintro e w4 ⟨rfl, hb⟩
  have hbw := below_step (w := W0) (by (first | assumption | (repeat (first | exact Below.refl _ _ | assumption | refine Below.drew ?_ | (refine Below.alloc ?_ (by simp <;> omega) _))))) hb
  obtain ⟨hc, hfz⟩ := bcell hbw
  have hb9 : Below w.heap.size w w4 := below_step' hw0 hbw
  go_wp2_with fail
  exact bodyPost_ret (v := .tuple #[.agg #[.int .i64 0, .int .i64 0], .int .i64 3]) (by simp [results, Tryz.results52, go_sem, hc, k1_0, k1_1, q1]) rfl
    ⟨rfl, hb9.grown (set2_grown _ _ _ _) hb9.size (fun k hk => by injection hk with hk; omega)⟩
set_option maxRecDepth 100000 in
set_option maxHeartbeats 8000000 in
theorem rrat_lo (s1 : Int) (neg1 : Bool) (A1 : Option Addr) (c1 : Nat) (l1 : List Nat) (z1 : Int) (s2 : Int) (neg2 : Bool) (A2 : Option Addr) (c2 : Nat) (l2 : List Nat) (z2 : Int) (w : World) (h1 : IntF w s1 neg1 A1 c1 l1 z1) (h2 : IntF w s2 neg2 A2 c2 l2 z2) (a1 : l1.length = 0) (a2 : l2.length = 0) (g1 : s1 < -1000000000000) :
    Calls Tryz.prog 52 #[(Value.agg #[.int .i64 s1, .bool neg1, .slice A1 l1.length c1, .int .i64 s2, .bool neg2, .slice A2 l2.length c2])] w fun e w' => e = .returned (.tuple #[.agg #[.int .i64 0, .int .i64 0], .int .i64 3]) ∧ Below w.heap.size w w' := by
  have HS1 := hide (fun W => small_any s1 neg1 A1 c1 l1.length W)
  have HS2 := hide (fun W => small_any s2 neg2 A2 c2 l2.length W)
  rw [decide_eq_true a1] at HS1
  rw [decide_eq_true a2] at HS2
  have d1 : decide (s1 < -1000000000000) = true := decide_eq_true (by omega)
  clear a1 a2 h1 h2 g1
  go_enter Tryz.func52, Tryz.ntmps52
  go_wp2_with fail
  obtain ⟨n0, n1, hsz, hw0⟩ := two_new w (.cells #[.int .i64 s1, .bool neg1, .slice A1 l1.length c1, .int .i64 s2, .bool neg2, .slice A2 l2.length c2] 63) (.cells #[.int .i64 0, .int .i64 0] 23)
  generalize ((w.alloc (.cells #[.int .i64 s1, .bool neg1, .slice A1 l1.length c1, .int .i64 s2, .bool neg2, .slice A2 l2.length c2] 63)).alloc (.cells #[.int .i64 0, .int .i64 0] 23)) = W0 at *
  have k0_0 : W0.cell? ⟨w.heap.size, 0, none⟩ = some (.int .i64 s1) := cells_of n0 0
  have k0_1 : W0.cell? ⟨w.heap.size, 1, none⟩ = some (.bool neg1) := cells_of n0 1
  have k0_2 : W0.cell? ⟨w.heap.size, 2, none⟩ = some (.slice A1 l1.length c1) := cells_of n0 2
  have k0_3 : W0.cell? ⟨w.heap.size, 3, none⟩ = some (.int .i64 s2) := cells_of n0 3
  have k0_4 : W0.cell? ⟨w.heap.size, 4, none⟩ = some (.bool neg2) := cells_of n0 4
  have k0_5 : W0.cell? ⟨w.heap.size, 5, none⟩ = some (.slice A2 l2.length c2) := cells_of n0 5
  have q0 : w.heap.size < W0.heap.size := by omega
  have k1_0 : W0.cell? ⟨w.heap.size + 1, 0, none⟩ = some (.int .i64 0) := cells_of n1 0
  have k1_1 : W0.cell? ⟨w.heap.size + 1, 1, none⟩ = some (.int .i64 0) := cells_of n1 1
  have q1 : w.heap.size + 1 < W0.heap.size := by omega
  have f1_0 := unfrozen_of n1 0
  have f1_1 := unfrozen_of n1 1
  have NR := Lib.hid n1
  clear n0 n1
  refine ((unhide HS1) _).mono ?_
  rintro e w3 ⟨rfl, hb⟩
  have hbw := below_step (w := W0) (by (first | assumption | (repeat (first | exact Below.refl _ _ | assumption | refine Below.drew ?_ | (refine Below.alloc ?_ (by simp <;> omega) _))))) hb
  obtain ⟨hc, hfz⟩ := bcell hbw
  go_wp2_with fail
  refine ((unhide HS2) _).mono ?_
  rintro e w4 ⟨rfl, hb⟩
  have hbw := below_step (w := W0) (by (first | assumption | (repeat (first | exact Below.refl _ _ | assumption | refine Below.drew ?_ | (refine Below.alloc ?_ (by simp <;> omega) _))))) hb
  obtain ⟨hc, hfz⟩ := bcell hbw
  have hb9 : Below w.heap.size w w4 := below_step' hw0 hbw
  go_wp2_with fail
  exact bodyPost_ret (v := .tuple #[.agg #[.int .i64 0, .int .i64 0], .int .i64 3]) (by simp [results, Tryz.results52, go_sem, hc, k1_0, k1_1, q1]) rfl
    ⟨rfl, hb9.grown (set2_grown _ _ _ _) hb9.size (fun k hk => by injection hk with hk; omega)⟩
set_option maxRecDepth 100000 in
set_option maxHeartbeats 8000000 in
theorem rrat_hi (s1 : Int) (neg1 : Bool) (A1 : Option Addr) (c1 : Nat) (l1 : List Nat) (z1 : Int) (s2 : Int) (neg2 : Bool) (A2 : Option Addr) (c2 : Nat) (l2 : List Nat) (z2 : Int) (w : World) (h1 : IntF w s1 neg1 A1 c1 l1 z1) (h2 : IntF w s2 neg2 A2 c2 l2 z2) (a1 : l1.length = 0) (a2 : l2.length = 0) (g1 : 1000000000000 < s1) :
    Calls Tryz.prog 52 #[(Value.agg #[.int .i64 s1, .bool neg1, .slice A1 l1.length c1, .int .i64 s2, .bool neg2, .slice A2 l2.length c2])] w fun e w' => e = .returned (.tuple #[.agg #[.int .i64 0, .int .i64 0], .int .i64 3]) ∧ Below w.heap.size w w' := by
  have HS1 := hide (fun W => small_any s1 neg1 A1 c1 l1.length W)
  have HS2 := hide (fun W => small_any s2 neg2 A2 c2 l2.length W)
  rw [decide_eq_true a1] at HS1
  rw [decide_eq_true a2] at HS2
  have d1 : decide (s1 < -1000000000000) = false := decide_eq_false (by omega)
  have d2 : decide (1000000000000 < s1) = true := decide_eq_true (by omega)
  clear a1 a2 h1 h2 g1
  go_enter Tryz.func52, Tryz.ntmps52
  go_wp2_with fail
  obtain ⟨n0, n1, hsz, hw0⟩ := two_new w (.cells #[.int .i64 s1, .bool neg1, .slice A1 l1.length c1, .int .i64 s2, .bool neg2, .slice A2 l2.length c2] 63) (.cells #[.int .i64 0, .int .i64 0] 23)
  generalize ((w.alloc (.cells #[.int .i64 s1, .bool neg1, .slice A1 l1.length c1, .int .i64 s2, .bool neg2, .slice A2 l2.length c2] 63)).alloc (.cells #[.int .i64 0, .int .i64 0] 23)) = W0 at *
  have k0_0 : W0.cell? ⟨w.heap.size, 0, none⟩ = some (.int .i64 s1) := cells_of n0 0
  have k0_1 : W0.cell? ⟨w.heap.size, 1, none⟩ = some (.bool neg1) := cells_of n0 1
  have k0_2 : W0.cell? ⟨w.heap.size, 2, none⟩ = some (.slice A1 l1.length c1) := cells_of n0 2
  have k0_3 : W0.cell? ⟨w.heap.size, 3, none⟩ = some (.int .i64 s2) := cells_of n0 3
  have k0_4 : W0.cell? ⟨w.heap.size, 4, none⟩ = some (.bool neg2) := cells_of n0 4
  have k0_5 : W0.cell? ⟨w.heap.size, 5, none⟩ = some (.slice A2 l2.length c2) := cells_of n0 5
  have q0 : w.heap.size < W0.heap.size := by omega
  have k1_0 : W0.cell? ⟨w.heap.size + 1, 0, none⟩ = some (.int .i64 0) := cells_of n1 0
  have k1_1 : W0.cell? ⟨w.heap.size + 1, 1, none⟩ = some (.int .i64 0) := cells_of n1 1
  have q1 : w.heap.size + 1 < W0.heap.size := by omega
  have f1_0 := unfrozen_of n1 0
  have f1_1 := unfrozen_of n1 1
  have NR := Lib.hid n1
  clear n0 n1
  refine ((unhide HS1) _).mono ?_
  rintro e w3 ⟨rfl, hb⟩
  have hbw := below_step (w := W0) (by (first | assumption | (repeat (first | exact Below.refl _ _ | assumption | refine Below.drew ?_ | (refine Below.alloc ?_ (by simp <;> omega) _))))) hb
  obtain ⟨hc, hfz⟩ := bcell hbw
  go_wp2_with fail
  refine ((unhide HS2) _).mono ?_
  rintro e w4 ⟨rfl, hb⟩
  have hbw := below_step (w := W0) (by (first | assumption | (repeat (first | exact Below.refl _ _ | assumption | refine Below.drew ?_ | (refine Below.alloc ?_ (by simp <;> omega) _))))) hb
  obtain ⟨hc, hfz⟩ := bcell hbw
  have hb9 : Below w.heap.size w w4 := below_step' hw0 hbw
  go_wp2_with fail
  exact bodyPost_ret (v := .tuple #[.agg #[.int .i64 0, .int .i64 0], .int .i64 3]) (by simp [results, Tryz.results52, go_sem, hc, k1_0, k1_1, q1]) rfl
    ⟨rfl, hb9.grown (set2_grown _ _ _ _) hb9.size (fun k hk => by injection hk with hk; omega)⟩
set_option maxRecDepth 100000 in
set_option maxHeartbeats 8000000 in
theorem rrat_den (s1 : Int) (neg1 : Bool) (A1 : Option Addr) (c1 : Nat) (l1 : List Nat) (z1 : Int) (s2 : Int) (neg2 : Bool) (A2 : Option Addr) (c2 : Nat) (l2 : List Nat) (z2 : Int) (w : World) (h1 : IntF w s1 neg1 A1 c1 l1 z1) (h2 : IntF w s2 neg2 A2 c2 l2 z2) (a1 : l1.length = 0) (a2 : l2.length = 0) (g1 : ¬ s1 < -1000000000000) (g2 : ¬ 1000000000000 < s1) (g3 : 1000000000000 < s2) :
    Calls Tryz.prog 52 #[(Value.agg #[.int .i64 s1, .bool neg1, .slice A1 l1.length c1, .int .i64 s2, .bool neg2, .slice A2 l2.length c2])] w fun e w' => e = .returned (.tuple #[.agg #[.int .i64 0, .int .i64 0], .int .i64 3]) ∧ Below w.heap.size w w' := by
  have HS1 := hide (fun W => small_any s1 neg1 A1 c1 l1.length W)
  have HS2 := hide (fun W => small_any s2 neg2 A2 c2 l2.length W)
  rw [decide_eq_true a1] at HS1
  rw [decide_eq_true a2] at HS2
  have d1 : decide (s1 < -1000000000000) = false := decide_eq_false (by omega)
  have d2 : decide (1000000000000 < s1) = false := decide_eq_false (by omega)
  have d3 : decide (1000000000000 < s2) = true := decide_eq_true (by omega)
  clear a1 a2 h1 h2 g1 g2 g3
  go_enter Tryz.func52, Tryz.ntmps52
  go_wp2_with fail
  obtain ⟨n0, n1, hsz, hw0⟩ := two_new w (.cells #[.int .i64 s1, .bool neg1, .slice A1 l1.length c1, .int .i64 s2, .bool neg2, .slice A2 l2.length c2] 63) (.cells #[.int .i64 0, .int .i64 0] 23)
  generalize ((w.alloc (.cells #[.int .i64 s1, .bool neg1, .slice A1 l1.length c1, .int .i64 s2, .bool neg2, .slice A2 l2.length c2] 63)).alloc (.cells #[.int .i64 0, .int .i64 0] 23)) = W0 at *
  have k0_0 : W0.cell? ⟨w.heap.size, 0, none⟩ = some (.int .i64 s1) := cells_of n0 0
  have k0_1 : W0.cell? ⟨w.heap.size, 1, none⟩ = some (.bool neg1) := cells_of n0 1
  have k0_2 : W0.cell? ⟨w.heap.size, 2, none⟩ = some (.slice A1 l1.length c1) := cells_of n0 2
  have k0_3 : W0.cell? ⟨w.heap.size, 3, none⟩ = some (.int .i64 s2) := cells_of n0 3
  have k0_4 : W0.cell? ⟨w.heap.size, 4, none⟩ = some (.bool neg2) := cells_of n0 4
  have k0_5 : W0.cell? ⟨w.heap.size, 5, none⟩ = some (.slice A2 l2.length c2) := cells_of n0 5
  have q0 : w.heap.size < W0.heap.size := by omega
  have k1_0 : W0.cell? ⟨w.heap.size + 1, 0, none⟩ = some (.int .i64 0) := cells_of n1 0
  have k1_1 : W0.cell? ⟨w.heap.size + 1, 1, none⟩ = some (.int .i64 0) := cells_of n1 1
  have q1 : w.heap.size + 1 < W0.heap.size := by omega
  have f1_0 := unfrozen_of n1 0
  have f1_1 := unfrozen_of n1 1
  have NR := Lib.hid n1
  clear n0 n1
  refine ((unhide HS1) _).mono ?_
  rintro e w3 ⟨rfl, hb⟩
  have hbw := below_step (w := W0) (by (first | assumption | (repeat (first | exact Below.refl _ _ | assumption | refine Below.drew ?_ | (refine Below.alloc ?_ (by simp <;> omega) _))))) hb
  obtain ⟨hc, hfz⟩ := bcell hbw
  go_wp2_with fail
  refine ((unhide HS2) _).mono ?_
  rintro e w4 ⟨rfl, hb⟩
  have hbw := below_step (w := W0) (by (first | assumption | (repeat (first | exact Below.refl _ _ | assumption | refine Below.drew ?_ | (refine Below.alloc ?_ (by simp <;> omega) _))))) hb
  obtain ⟨hc, hfz⟩ := bcell hbw
  have hb9 : Below w.heap.size w w4 := below_step' hw0 hbw
  go_wp2_with fail
  exact bodyPost_ret (v := .tuple #[.agg #[.int .i64 0, .int .i64 0], .int .i64 3]) (by simp [results, Tryz.results52, go_sem, hc, k1_0, k1_1, q1]) rfl
    ⟨rfl, hb9.grown (set2_grown _ _ _ _) hb9.size (fun k hk => by injection hk with hk; omega)⟩
set_option maxRecDepth 100000 in
set_option maxHeartbeats 8000000 in
theorem rrat_ok (s1 : Int) (neg1 : Bool) (A1 : Option Addr) (c1 : Nat) (l1 : List Nat) (z1 : Int) (s2 : Int) (neg2 : Bool) (A2 : Option Addr) (c2 : Nat) (l2 : List Nat) (z2 : Int) (w : World) (h1 : IntF w s1 neg1 A1 c1 l1 z1) (h2 : IntF w s2 neg2 A2 c2 l2 z2) (a1 : l1.length = 0) (a2 : l2.length = 0) (g1 : ¬ s1 < -1000000000000) (g2 : ¬ 1000000000000 < s1) (g3 : ¬ 1000000000000 < s2) :
    Calls Tryz.prog 52 #[(Value.agg #[.int .i64 s1, .bool neg1, .slice A1 l1.length c1, .int .i64 s2, .bool neg2, .slice A2 l2.length c2])] w fun e w' => e = .returned (.tuple #[.agg #[.int .i64 s1, .int .i64 s2], .int .i64 0]) ∧ Below w.heap.size w w' := by
  have HS1 := hide (fun W => small_any s1 neg1 A1 c1 l1.length W)
  have HS2 := hide (fun W => small_any s2 neg2 A2 c2 l2.length W)
  rw [decide_eq_true a1] at HS1
  rw [decide_eq_true a2] at HS2
  have d1 : decide (s1 < -1000000000000) = false := decide_eq_false (by omega)
  have d2 : decide (1000000000000 < s1) = false := decide_eq_false (by omega)
  have d3 : decide (1000000000000 < s2) = false := decide_eq_false (by omega)
  clear a1 a2 h1 h2 g1 g2 g3
  go_enter Tryz.func52, Tryz.ntmps52
  go_wp2_with fail
  obtain ⟨n0, n1, hsz, hw0⟩ := two_new w (.cells #[.int .i64 s1, .bool neg1, .slice A1 l1.length c1, .int .i64 s2, .bool neg2, .slice A2 l2.length c2] 63) (.cells #[.int .i64 0, .int .i64 0] 23)
  generalize ((w.alloc (.cells #[.int .i64 s1, .bool neg1, .slice A1 l1.length c1, .int .i64 s2, .bool neg2, .slice A2 l2.length c2] 63)).alloc (.cells #[.int .i64 0, .int .i64 0] 23)) = W0 at *
  have k0_0 : W0.cell? ⟨w.heap.size, 0, none⟩ = some (.int .i64 s1) := cells_of n0 0
  have k0_1 : W0.cell? ⟨w.heap.size, 1, none⟩ = some (.bool neg1) := cells_of n0 1
  have k0_2 : W0.cell? ⟨w.heap.size, 2, none⟩ = some (.slice A1 l1.length c1) := cells_of n0 2
  have k0_3 : W0.cell? ⟨w.heap.size, 3, none⟩ = some (.int .i64 s2) := cells_of n0 3
  have k0_4 : W0.cell? ⟨w.heap.size, 4, none⟩ = some (.bool neg2) := cells_of n0 4
  have k0_5 : W0.cell? ⟨w.heap.size, 5, none⟩ = some (.slice A2 l2.length c2) := cells_of n0 5
  have q0 : w.heap.size < W0.heap.size := by omega
  have k1_0 : W0.cell? ⟨w.heap.size + 1, 0, none⟩ = some (.int .i64 0) := cells_of n1 0
  have k1_1 : W0.cell? ⟨w.heap.size + 1, 1, none⟩ = some (.int .i64 0) := cells_of n1 1
  have q1 : w.heap.size + 1 < W0.heap.size := by omega
  have f1_0 := unfrozen_of n1 0
  have f1_1 := unfrozen_of n1 1
  have NR := Lib.hid n1
  clear n0 n1
  refine ((unhide HS1) _).mono ?_
  rintro e w3 ⟨rfl, hb⟩
  have hbw := below_step (w := W0) (by (first | assumption | (repeat (first | exact Below.refl _ _ | assumption | refine Below.drew ?_ | (refine Below.alloc ?_ (by simp <;> omega) _))))) hb
  obtain ⟨hc, hfz⟩ := bcell hbw
  go_wp2_with fail
  refine ((unhide HS2) _).mono ?_
  rintro e w4 ⟨rfl, hb⟩
  have hbw := below_step (w := W0) (by (first | assumption | (repeat (first | exact Below.refl _ _ | assumption | refine Below.drew ?_ | (refine Below.alloc ?_ (by simp <;> omega) _))))) hb
  obtain ⟨hc, hfz⟩ := bcell hbw
  have hb9 : Below w.heap.size w w4 := below_step' hw0 hbw
  go_wp2_with fail
  exact bodyPost_ret (v := .tuple #[.agg #[.int .i64 s1, .int .i64 s2], .int .i64 0]) (by simp [results, Tryz.results52, go_sem, hc, k1_0, k1_1, q1]) rfl
    ⟨rfl, hb9.grown (set2_grown _ _ _ _) hb9.size (fun k hk => by injection hk with hk; omega)⟩

/-- What the call tells of a quotient in lowest terms. -/
theorem rrat_any (s1 : Int) (neg1 : Bool) (A1 : Option Addr) (c1 : Nat) (l1 : List Nat) (z1 : Int) (s2 : Int) (neg2 : Bool) (A2 : Option Addr) (c2 : Nat) (l2 : List Nat) (z2 : Int) (w : World) (h1 : IntF w s1 neg1 A1 c1 l1 z1) (h2 : IntF w s2 neg2 A2 c2 l2 z2) (q : Rat) (e1 : z1 = q.num) (e2 : z2 = (q.den : Int)) :
    Calls Tryz.prog 52 #[(Value.agg #[.int .i64 s1, .bool neg1, .slice A1 l1.length c1, .int .i64 s2, .bool neg2, .slice A2 l2.length c2])] w fun e w' => e = .returned (.tuple #[.agg #[.int .i64 (Wd.told q).n, .int .i64 (Wd.told q).d], .int .i64 (Wd.told q).e]) ∧ Below w.heap.size w w' := by
  have hden := q.den_pos
  have big : ∀ (l : List Nat) (s : Int) (neg : Bool) (A : Option Addr) (c : Nat) (z : Int), IntF w s neg A c l z → ¬ l.length = 0 → 9223372036854775808 ≤ z.natAbs := fun l s neg A c z h a => by
    rcases h.form with ⟨x, _⟩ | ⟨_, _, _, _, x⟩
    · exact absurd x a
    · rwa [M63_eq] at x
  have large : ∀ P : Prop, ¬ Wd.fits q → (Wd.told q) = ⟨0, 0, 3⟩ := fun _ h => by unfold Wd.told; rw [if_neg h]
  by_cases a1 : l1.length = 0
  · obtain ⟨x1, _, _⟩ := h1.of_small a1
    by_cases a2 : l2.length = 0
    · obtain ⟨x2, _, _⟩ := h2.of_small a2
      by_cases g1 : s1 < -1000000000000
      · rw [large True (fun hf => by have := hf.1; rw [Wd.MX_eq] at this; omega)]; exact rrat_lo s1 neg1 A1 c1 l1 z1 s2 neg2 A2 c2 l2 z2 w h1 h2 a1 a2 g1
      by_cases g2 : 1000000000000 < s1
      · rw [large True (fun hf => by have := hf.1; rw [Wd.MX_eq] at this; omega)]; exact rrat_hi s1 neg1 A1 c1 l1 z1 s2 neg2 A2 c2 l2 z2 w h1 h2 a1 a2 g2
      by_cases g3 : 1000000000000 < s2
      · rw [large True (fun hf => by have := hf.2; rw [Wd.MX_eq] at this; omega)]; exact rrat_den s1 neg1 A1 c1 l1 z1 s2 neg2 A2 c2 l2 z2 w h1 h2 a1 a2 g1 g2 g3
      have hf : Wd.fits q := by unfold Wd.fits; rw [Wd.MX_eq]; omega
      have ht : Wd.told q = ⟨s1, s2, 0⟩ := by unfold Wd.told; rw [if_pos hf, x1, x2, e1, e2]
      rw [ht]
      exact rrat_ok s1 neg1 A1 c1 l1 z1 s2 neg2 A2 c2 l2 z2 w h1 h2 a1 a2 g1 g2 g3
    · have := big _ _ _ _ _ _ h2 a2
      rw [large True (fun hf => by have := hf.2; rw [Wd.MX_eq] at this; omega)]; exact rrat_big2 s1 neg1 A1 c1 l1 z1 s2 neg2 A2 c2 l2 z2 w h1 h2 a1 a2
  · have := big _ _ _ _ _ _ h1 a1
    rw [large True (fun hf => by have := hf.1; rw [Wd.MX_eq] at this; omega)]; exact rrat_big1 s1 neg1 A1 c1 l1 z1 s2 neg2 A2 c2 l2 z2 w h1 h2 a1

end Go.Proofs.YtpjgoogeokbaaaaGreatDoor
/- Two numbers put together: the errors ahead of it, and what is told. -/
namespace Go.Proofs.YtpjgoogeokbaaaaGreatDoor
open Go.RowKit

/-- What a call hands back: a number as it is told; what was there is as it was. -/
def TolR (w : World) (t : Wd.Told) (e : Ending) (w' : World) : Prop := e = .returned (.tuple #[.agg #[.int .i64 t.n, .int .i64 t.d], .int .i64 t.e]) ∧ Below w.heap.size w w'
end Go.Proofs.YtpjgoogeokbaaaaGreatDoor
/- A sum of numerators and denominators. -/
namespace Go.Proofs.YtpjgoogeokbaaaaGreatDoor
open Go.RowKit

set_option maxRecDepth 100000 in
set_option maxHeartbeats 16000000 in
theorem med_any (a b c d k kc kd u v : Int) (w : World) (h1 : k * c = kc) (h2 : k * d = kd) (h3 : a + kc = u) (h4 : b + kd = v)
    (b1 : -9223372036854775808 ≤ kc ∧ kc ≤ 9223372036854775807) (b2 : -9223372036854775808 ≤ kd ∧ kd ≤ 9223372036854775807) (b3 : -9223372036854775808 ≤ u ∧ u ≤ 9223372036854775807) (b4 : -9223372036854775808 ≤ v ∧ v ≤ 9223372036854775807) :
    Calls Tryz.prog 111 #[(Value.agg #[.int .i64 a, .int .i64 b]), (Value.agg #[.int .i64 c, .int .i64 d]), .int .i64 k] w fun e w' => e = .returned (Value.agg #[.int .i64 u, .int .i64 v]) ∧ Below w.heap.size w w' := by
  have e1 : wrap64 (k * c) = kc := by rw [h1]; exact IntWalk.wrap64_in _ b1
  have e2 : wrap64 (k * d) = kd := by rw [h2]; exact IntWalk.wrap64_in _ b2
  have e3 : wrap64 (a + kc) = u := by rw [h3]; exact IntWalk.wrap64_in _ b3
  have e4 : wrap64 (b + kd) = v := by rw [h4]; exact IntWalk.wrap64_in _ b4
  clear h1 h2 h3 h4 b1 b2 b3 b4
  go_enter Tryz.func111, Tryz.ntmps111
  go_wp2
  exact bodyPost_ret (v := (Value.agg #[.int .i64 u, .int .i64 v])) (by simp [results, Tryz.results111, go_sem]) rfl
    ⟨rfl, below_alloc (below_alloc (below_alloc (Below.refl _ _) _) _) _⟩

end Go.Proofs.YtpjgoogeokbaaaaGreatDoor
/- The integer below a number. -/
namespace Go.Proofs.YtpjgoogeokbaaaaGreatDoor
open Go.RowKit

theorem floor_math (n d : Int) (hd : 0 < d) : (n.tmod d < 0 → n.tdiv d - 1 = n / d) ∧ (¬ n.tmod d < 0 → n.tdiv d = n / d) := by
  have h1 := Int.tmod_add_mul_tdiv n d
  have h2 := Int.tmod_lt_of_pos n hd
  have h3 := Int.lt_tmod_of_pos n hd
  generalize n.tmod d = r at *
  generalize n.tdiv d = t at *
  constructor
  · intro h
    exact ((Int.ediv_emod_unique hd (r := r + d) (q := t - 1)).2 ⟨by rw [Int.mul_sub]; omega, by omega, by omega⟩).1.symm
  · intro h
    exact ((Int.ediv_emod_unique hd (r := r) (q := t)).2 ⟨by omega, by omega, by omega⟩).1.symm
theorem tdiv_le (n d : Int) : (n.tdiv d).natAbs ≤ n.natAbs := by rw [Int.natAbs_tdiv]; exact Nat.div_le_self _ _
set_option maxRecDepth 100000 in
set_option maxHeartbeats 16000000 in
theorem fdiv_any (n d : Int) (w : World) (b1 : -9223372036854775808 < n) (b2 : n ≤ 9223372036854775807) (hd : 0 < d) (b4 : d ≤ 9223372036854775807) :
    Calls Tryz.prog 55 #[.int .i64 n, .int .i64 d] w fun e w' => e = .returned (.int .i64 (n / d)) ∧ w' = w := by
  have hm := floor_math n d hd
  have hq := tdiv_le n d
  have hz : (d == 0) = false := beq_eq_false_iff_ne.2 (by omega)
  have hz' : ¬ d = 0 := by omega
  obtain ⟨t, ht⟩ : ∃ t, t = n.tdiv d := ⟨_, rfl⟩
  obtain ⟨r, hr⟩ : ∃ r, r = n.tmod d := ⟨_, rfl⟩
  obtain ⟨q, hqq⟩ : ∃ q, q = n / d := ⟨_, rfl⟩
  rw [← ht, ← hr, ← hqq] at hm
  rw [← ht] at hq
  rw [← hqq]
  have e1 : IntKind.i64.wrap t = t := IntWalk.i64_in _ (by omega)
  have e2 : wrap64 t = t := IntWalk.wrap64_in _ (by omega)
  have hr2 := Int.tmod_lt_of_pos n hd
  have hr3 := Int.lt_tmod_of_pos n hd
  rw [← hr] at hr2 hr3
  have e3 : IntKind.i64.wrap r = r := IntWalk.i64_in _ (by omega)
  have e4 : wrap64 r = r := IntWalk.wrap64_in _ (by omega)
  have e5 := ht.symm
  have e6 := hr.symm
  by_cases h : r < 0
  · have d1 : decide (r < 0) = true := decide_eq_true h
    have e7 : wrap64 (t - 1) = q := by rw [← hm.1 h]; exact IntWalk.wrap64_in _ (by omega)
    have e8 : IntKind.i64.wrap (t - 1) = q := by rw [← hm.1 h]; exact IntWalk.i64_in _ (by omega)
    clear hm hq ht hr hqq hr2 hr3 h b1 b2 hd b4
    go_enter Tryz.func55, Tryz.ntmps55
    go_wp2
    go_ret
    exact ⟨rfl, rfl⟩
  · have d1 : decide (r < 0) = false := decide_eq_false h
    have e7 : t = q := hm.2 h
    subst e7
    clear hm hq ht hr hqq hr2 hr3 h b1 b2 hd b4
    go_enter Tryz.func55, Tryz.ntmps55
    go_wp2
    go_ret
    exact ⟨rfl, rfl⟩
/-- The integer below a number, as it is told. -/
def floorV (n d : Int) : Int := if Wd.okR n d then n / d else 0
set_option maxRecDepth 100000 in
set_option maxHeartbeats 16000000 in
theorem floor_any (n d : Int) (w : World) (hT : Tab w) :
    Calls Tryz.prog 14 #[.agg #[.int .i64 n, .int .i64 d]] w fun e w' => e = .returned (.tuple #[.int .i64 (floorV n d), .int .i64 (valE n d)]) ∧ Below w.heap.size w w' := by
  have HV := hide (val_any n d)
  have HT := hide hT
  unfold floorV
  by_cases ok : Wd.okR n d
  · have hv : valE n d = 0 := if_pos ok
    rw [if_pos ok]
    rw [hv] at HV ⊢
    have HF := hide (fun W => fdiv_any n d W (by have := ok.2.2.1; omega) (by have := ok.2.2.2.1; omega) (by have := ok.1; omega) (by have := ok.2.1; omega))
    obtain ⟨q, hq⟩ : ∃ q, q = n / d := ⟨_, rfl⟩
    rw [← hq] at HF ⊢
    clear ok hv hT hq
    go_enter Tryz.func14, Tryz.ntmps14
    go_wp2_with fail
    have nb := heap_alloc_new w (.cells #[.int .i64 n, .int .i64 d] 23)
    have hw0 : Below w.heap.size w (w.alloc (.cells #[.int .i64 n, .int .i64 d] 23)) := below_alloc (Below.refl _ _) _
    generalize w.alloc (.cells #[.int .i64 n, .int .i64 d] 23) = W0 at *
    refine ((unhide HV) _ ((unhide HT).below hw0)).mono ?_
    rintro e W1 ⟨rfl, hb⟩
    have nb1 := (hb.block _ (lt_of_block nb)).trans nb
    have k0 : W1.cell? ⟨w.heap.size, 0, none⟩ = some (.int .i64 n) := cells_of nb1 0
    have k1 : W1.cell? ⟨w.heap.size, 1, none⟩ = some (.int .i64 d) := cells_of nb1 1
    have hb9 := below_step' hw0 hb
    clear nb nb1 hb
    go_wp2_with fail
    refine ((unhide HF) _).mono ?_
    rintro e W2 ⟨rfl, rfl⟩
    go_wp2_with fail
    exact bodyPost_ret (v := .tuple #[.int .i64 q, .int .i64 0]) (by simp [results, Tryz.results14, go_sem]) rfl ⟨rfl, hb9⟩
  · have hv : valE n d = 1 := if_neg ok
    rw [if_neg ok]
    rw [hv] at HV ⊢
    clear ok hv hT
    go_enter Tryz.func14, Tryz.ntmps14
    go_wp2_with fail
    have hw0 : Below w.heap.size w (w.alloc (.cells #[.int .i64 n, .int .i64 d] 23)) := below_alloc (Below.refl _ _) _
    refine ((unhide HV) _ ((unhide HT).below hw0)).mono ?_
    rintro e W1 ⟨rfl, hb⟩
    have hb9 := below_step' hw0 hb
    go_wp2_with fail
    exact bodyPost_ret (v := .tuple #[.int .i64 0, .int .i64 1]) (by simp [results, Tryz.results14, go_sem]) rfl ⟨rfl, hb9⟩

end Go.Proofs.YtpjgoogeokbaaaaGreatDoor
/- Two quotients compared. -/
namespace Go.Proofs.YtpjgoogeokbaaaaGreatDoor
open Go.RowKit

/-- Function F tells of the quotients x and y the number o. -/
def OpC (w : World) (F : Nat) (x y : Rat) (o : Int) : Prop := ∀ (s1 : Int) (neg1 : Bool) (A1 : Option Addr) (c1 : Nat) (l1 : List Nat) (s2 : Int) (neg2 : Bool) (A2 : Option Addr) (c2 : Nat) (l2 : List Nat) (s3 : Int) (neg3 : Bool) (A3 : Option Addr) (c3 : Nat) (l3 : List Nat) (s4 : Int) (neg4 : Bool) (A4 : Option Addr) (c4 : Nat) (l4 : List Nat) (W : World), Below w.heap.size w W → IntF W s1 neg1 A1 c1 l1 x.num → IntF W s2 neg2 A2 c2 l2 (x.den : Int) → IntF W s3 neg3 A3 c3 l3 y.num → IntF W s4 neg4 A4 c4 l4 (y.den : Int) → Calls Tryz.prog F #[(Value.agg #[.int .i64 s1, .bool neg1, .slice A1 l1.length c1, .int .i64 s2, .bool neg2, .slice A2 l2.length c2]), (Value.agg #[.int .i64 s3, .bool neg3, .slice A3 l3.length c3, .int .i64 s4, .bool neg4, .slice A4 l4.length c4])] W fun e w' => e = .returned (.int .i64 o) ∧ Below W.heap.size W w'
set_option maxRecDepth 100000 in
set_option maxHeartbeats 16000000 in
theorem rcmp_walk (s1 : Int) (neg1 : Bool) (A1 : Option Addr) (c1 : Nat) (l1 : List Nat) (s2 : Int) (neg2 : Bool) (A2 : Option Addr) (c2 : Nat) (l2 : List Nat) (s3 : Int) (neg3 : Bool) (A3 : Option Addr) (c3 : Nat) (l3 : List Nat) (s4 : Int) (neg4 : Bool) (A4 : Option Addr) (c4 : Nat) (l4 : List Nat) (z1 z2 z3 z4 m1 m2 : Int) (w : World) (f1 : IntF w s1 neg1 A1 c1 l1 z1) (f2 : IntF w s2 neg2 A2 c2 l2 z2) (f3 : IntF w s3 neg3 A3 c3 l3 z3) (f4 : IntF w s4 neg4 A4 c4 l4 z4) (g1 : Op2 w 112 z1 z4 m1) (g2 : Op2 w 112 z3 z2 m2) :
    Calls Tryz.prog 62 #[(Value.agg #[.int .i64 s1, .bool neg1, .slice A1 l1.length c1, .int .i64 s2, .bool neg2, .slice A2 l2.length c2]), (Value.agg #[.int .i64 s3, .bool neg3, .slice A3 l3.length c3, .int .i64 s4, .bool neg4, .slice A4 l4.length c4])] w fun e w' => e = .returned (.int .i64 (sgn (m1 - m2))) ∧ Below w.heap.size w w' := by
  have H1 := hide f1
  have H2 := hide f2
  have H3 := hide f3
  have H4 := hide f4
  have HG1 := hide g1
  have HG2 := hide g2
  obtain ⟨o, ho⟩ : ∃ o, o = sgn (m1 - m2) := ⟨_, rfl⟩
  have HCM := hide (fun (s5 : Int) (neg5 : Bool) (A5 : Option Addr) (c5 : Nat) (l5 : List Nat) (s6 : Int) (neg6 : Bool) (A6 : Option Addr) (c6 : Nat) (l6 : List Nat) (W : World) (f5 : IntF W s5 neg5 A5 c5 l5 m1) (f6 : IntF W s6 neg6 A6 c6 l6 m2) => (show Calls Tryz.prog 113 #[(Value.agg #[.int .i64 s5, .bool neg5, .slice A5 l5.length c5]), (Value.agg #[.int .i64 s6, .bool neg6, .slice A6 l6.length c6])] W fun e w' => e = .returned (.int .i64 o) ∧ Below W.heap.size W w' by rw [ho]; exact icmp_any s5 neg5 A5 c5 l5 m1 s6 neg6 A6 c6 l6 m2 W f5 f6))
  rw [← ho]
  clear f1 f2 f3 f4 g1 g2 ho
  go_enter Tryz.func62, Tryz.ntmps62
  go_wp2_with fail
  obtain ⟨n0_, n1_, hsz, hw0⟩ := two_new w (.cells #[.int .i64 s1, .bool neg1, .slice A1 l1.length c1, .int .i64 s2, .bool neg2, .slice A2 l2.length c2] 63) (.cells #[.int .i64 s3, .bool neg3, .slice A3 l3.length c3, .int .i64 s4, .bool neg4, .slice A4 l4.length c4] 63)
  generalize ((w.alloc (.cells #[.int .i64 s1, .bool neg1, .slice A1 l1.length c1, .int .i64 s2, .bool neg2, .slice A2 l2.length c2] 63)).alloc (.cells #[.int .i64 s3, .bool neg3, .slice A3 l3.length c3, .int .i64 s4, .bool neg4, .slice A4 l4.length c4] 63)) = W0 at *
  have k0_0 : W0.cell? ⟨w.heap.size, 0, none⟩ = some (.int .i64 s1) := cells_of n0_ 0
  have k0_1 : W0.cell? ⟨w.heap.size, 1, none⟩ = some (.bool neg1) := cells_of n0_ 1
  have k0_2 : W0.cell? ⟨w.heap.size, 2, none⟩ = some (.slice A1 l1.length c1) := cells_of n0_ 2
  have k0_3 : W0.cell? ⟨w.heap.size, 3, none⟩ = some (.int .i64 s2) := cells_of n0_ 3
  have k0_4 : W0.cell? ⟨w.heap.size, 4, none⟩ = some (.bool neg2) := cells_of n0_ 4
  have k0_5 : W0.cell? ⟨w.heap.size, 5, none⟩ = some (.slice A2 l2.length c2) := cells_of n0_ 5
  have k1_0 : W0.cell? ⟨w.heap.size + 1, 0, none⟩ = some (.int .i64 s3) := cells_of n1_ 0
  have k1_1 : W0.cell? ⟨w.heap.size + 1, 1, none⟩ = some (.bool neg3) := cells_of n1_ 1
  have k1_2 : W0.cell? ⟨w.heap.size + 1, 2, none⟩ = some (.slice A3 l3.length c3) := cells_of n1_ 2
  have k1_3 : W0.cell? ⟨w.heap.size + 1, 3, none⟩ = some (.int .i64 s4) := cells_of n1_ 3
  have k1_4 : W0.cell? ⟨w.heap.size + 1, 4, none⟩ = some (.bool neg4) := cells_of n1_ 4
  have k1_5 : W0.cell? ⟨w.heap.size + 1, 5, none⟩ = some (.slice A4 l4.length c4) := cells_of n1_ 5
  have q0 : w.heap.size < W0.heap.size := by omega
  have q1 : w.heap.size + 1 < W0.heap.size := by omega
  clear n0_ n1_ hsz
  replace H1 := hide ((unhide H1).below hw0)
  replace H2 := hide ((unhide H2).below hw0)
  replace H3 := hide ((unhide H3).below hw0)
  replace H4 := hide ((unhide H4).below hw0)
  have KEEP := hide (show ∀ X, Below W0.heap.size W0 X → X.cell? ⟨w.heap.size, 0, none⟩ = some (.int .i64 s1) ∧ X.cell? ⟨w.heap.size, 1, none⟩ = some (.bool neg1) ∧ X.cell? ⟨w.heap.size, 2, none⟩ = some (.slice A1 l1.length c1) ∧ X.cell? ⟨w.heap.size, 3, none⟩ = some (.int .i64 s2) ∧ X.cell? ⟨w.heap.size, 4, none⟩ = some (.bool neg2) ∧ X.cell? ⟨w.heap.size, 5, none⟩ = some (.slice A2 l2.length c2) ∧ X.cell? ⟨w.heap.size + 1, 0, none⟩ = some (.int .i64 s3) ∧ X.cell? ⟨w.heap.size + 1, 1, none⟩ = some (.bool neg3) ∧ X.cell? ⟨w.heap.size + 1, 2, none⟩ = some (.slice A3 l3.length c3) ∧ X.cell? ⟨w.heap.size + 1, 3, none⟩ = some (.int .i64 s4) ∧ X.cell? ⟨w.heap.size + 1, 4, none⟩ = some (.bool neg4) ∧ X.cell? ⟨w.heap.size + 1, 5, none⟩ = some (.slice A4 l4.length c4) from fun X hX => ⟨keep_cell hX q0 k0_0, keep_cell hX q0 k0_1, keep_cell hX q0 k0_2, keep_cell hX q0 k0_3, keep_cell hX q0 k0_4, keep_cell hX q0 k0_5, keep_cell hX q1 k1_0, keep_cell hX q1 k1_1, keep_cell hX q1 k1_2, keep_cell hX q1 k1_3, keep_cell hX q1 k1_4, keep_cell hX q1 k1_5⟩)
  go_region_held3 (fun w' => w'.cell? ⟨w.heap.size, 0, none⟩ = some (.int .i64 s1) ∧ w'.cell? ⟨w.heap.size, 1, none⟩ = some (.bool neg1) ∧ w'.cell? ⟨w.heap.size, 2, none⟩ = some (.slice A1 l1.length c1) ∧ w'.cell? ⟨w.heap.size, 3, none⟩ = some (.int .i64 s2) ∧ w'.cell? ⟨w.heap.size, 4, none⟩ = some (.bool neg2) ∧ w'.cell? ⟨w.heap.size, 5, none⟩ = some (.slice A2 l2.length c2) ∧ w'.cell? ⟨w.heap.size + 1, 0, none⟩ = some (.int .i64 s3) ∧ w'.cell? ⟨w.heap.size + 1, 1, none⟩ = some (.bool neg3) ∧ w'.cell? ⟨w.heap.size + 1, 2, none⟩ = some (.slice A3 l3.length c3) ∧ w'.cell? ⟨w.heap.size + 1, 3, none⟩ = some (.int .i64 s4) ∧ w'.cell? ⟨w.heap.size + 1, 4, none⟩ = some (.bool neg4) ∧ w'.cell? ⟨w.heap.size + 1, 5, none⟩ = some (.slice A4 l4.length c4)) (exact (unhide KEEP) _ (by (repeat (first | with_reducible exact Below.refl _ _ | with_reducible assumption | with_reducible refine Below.drew ?_ | with_reducible refine below_alloc ?_ _)))) (first | (go_at_call_of 112 (Value.agg #[.int .i64 s1, .bool neg1, .slice A1 l1.length c1]); refine ((unhide HG1) s1 neg1 A1 c1 l1 s4 neg4 A4 c4 l4 _ (below_step' hw0 (by (repeat (first | with_reducible exact Below.refl _ _ | with_reducible assumption | with_reducible refine Below.drew ?_ | with_reducible refine below_alloc ?_ _)))) (IntF.below (unhide H1) (by (repeat (first | with_reducible exact Below.refl _ _ | with_reducible assumption | with_reducible refine Below.drew ?_ | with_reducible refine below_alloc ?_ _)))) (IntF.below (unhide H4) (by (repeat (first | with_reducible exact Below.refl _ _ | with_reducible assumption | with_reducible refine Below.drew ?_ | with_reducible refine below_alloc ?_ _))))).mono ?_; rintro e w' ⟨s5, neg5, A5, c5, l5, rfl, hf5, hb5⟩; have hbw := below_step (w := W0) (by (repeat (first | with_reducible exact Below.refl _ _ | with_reducible assumption | with_reducible refine Below.drew ?_ | with_reducible refine below_alloc ?_ _))) hb5; have hsw := hbw.size; obtain ⟨hc, hfz⟩ := bcell hbw) | (go_at_call_of 112 (Value.agg #[.int .i64 s3, .bool neg3, .slice A3 l3.length c3]); refine ((unhide HG2) s3 neg3 A3 c3 l3 s2 neg2 A2 c2 l2 _ (below_step' hw0 (by (repeat (first | with_reducible exact Below.refl _ _ | with_reducible assumption | with_reducible refine Below.drew ?_ | with_reducible refine below_alloc ?_ _)))) (IntF.below (unhide H3) (by (repeat (first | with_reducible exact Below.refl _ _ | with_reducible assumption | with_reducible refine Below.drew ?_ | with_reducible refine below_alloc ?_ _)))) (IntF.below (unhide H2) (by (repeat (first | with_reducible exact Below.refl _ _ | with_reducible assumption | with_reducible refine Below.drew ?_ | with_reducible refine below_alloc ?_ _))))).mono ?_; rintro e w' ⟨s6, neg6, A6, c6, l6, rfl, hf6, hb6⟩; have hf5 := IntF.below (IntF.below hf5 (by (repeat (first | with_reducible exact Below.refl _ _ | with_reducible assumption | with_reducible refine Below.drew ?_ | with_reducible refine below_alloc ?_ _)))) hb6; have hbw := below_step (w := W0) (by (repeat (first | with_reducible exact Below.refl _ _ | with_reducible assumption | with_reducible refine Below.drew ?_ | with_reducible refine below_alloc ?_ _))) hb6; have hsw := hbw.size; obtain ⟨hc, hfz⟩ := bcell hbw) | (go_at_call_of 113 (Value.agg #[.int .i64 s5, .bool neg5, .slice A5 l5.length c5]); refine ((unhide HCM) s5 neg5 A5 c5 l5 s6 neg6 A6 c6 l6 _ (IntF.below hf5 (by (repeat (first | with_reducible exact Below.refl _ _ | with_reducible assumption | with_reducible refine Below.drew ?_ | with_reducible refine below_alloc ?_ _)))) (IntF.below hf6 (by (repeat (first | with_reducible exact Below.refl _ _ | with_reducible assumption | with_reducible refine Below.drew ?_ | with_reducible refine below_alloc ?_ _))))).mono ?_; rintro e w' ⟨rfl, hb7⟩; have hbw := below_step (w := W0) (by (repeat (first | with_reducible exact Below.refl _ _ | with_reducible assumption | with_reducible refine Below.drew ?_ | with_reducible refine below_alloc ?_ _))) hb7; have hsw := hbw.size; obtain ⟨hc, hfz⟩ := bcell hbw))
  all_goals
    have hb9 : Below w.heap.size w w' := below_step' hw0 hbw
    go_wp2_with fail
    exact bodyPost_ret (v := .int .i64 o) (by simp [results, Tryz.results62, go_sem]) rfl ⟨rfl, hb9⟩
theorem opc_cmp (w : World) {K : Nat} (x y : Rat) (hx : SzQ K x) (hy : SzQ K y) (hK : K ≤ lim) : OpC w 62 x y (sgn (x.num * y.den - y.num * x.den)) :=
  fun s1 neg1 A1 c1 l1 s2 neg2 A2 c2 l2 s3 neg3 A3 c3 l3 s4 neg4 A4 c4 l4 W hW f1 f2 f3 f4 => rcmp_walk s1 neg1 A1 c1 l1 s2 neg2 A2 c2 l2 s3 neg3 A3 c3 l3 s4 neg4 A4 c4 l4 x.num (x.den : Int) y.num (y.den : Int) _ _ W f1 f2 f3 f4 (op_mul hx.1 hy.2 hK rfl) (op_mul hy.1 hx.2 hK rfl)

end Go.Proofs.YtpjgoogeokbaaaaGreatDoor
/- Sum, difference, product and quotient of numbers, as they are told. -/
namespace Go.Proofs.YtpjgoogeokbaaaaGreatDoor
open Go.RowKit

theorem okR_sz {n d : Int} (h : Wd.okR n d) : SzQ 1 (Wd.qR n d) := by
  obtain ⟨e1, e2⟩ := Wd.qR_ok h
  obtain ⟨h1, h2, h3, h4, _⟩ := h
  have B : (1000000000000 : Nat) < B64 := by rw [B64_eq]; omega
  exact ⟨by rw [e1]; exact Wd.Sz.of_le (by omega) B64_pos (Nat.le_refl _), by rw [e2]; exact Wd.Sz.of_le (by omega) B64_pos (Nat.le_refl _)⟩
theorem lim3 : 1 + 1 + 1 ≤ lim := by unfold lim; omega
end Go.Proofs.YtpjgoogeokbaaaaGreatDoor
/- The neighbours of 22/7. -/
namespace Go.Proofs.YtpjgoogeokbaaaaGreatDoor
open Go.RowKit

theorem set2_block {W : World} {b : Nat} {a0 a1 u0 u1 : Value} {T : TypeId} (h : W.heap[b]? = some (.cells #[a0, a1] T (0, 0))) : ((W.setCell ⟨b, 0, none⟩ u0).setCell ⟨b, 1, none⟩ u1).heap[b]? = some (.cells #[u0, u1] T (0, 0)) := by
  simp [World.setCell, Array.getElem?_modify, h]
/-- What lies in the memory of the search at its rounds' heads. -/
structure NbW (w wr : World) (b0 b1 l0 l1 : Int) : Prop where
  below : Below w.heap.size w wr
  x : wr.heap[w.heap.size]? = some (.cells #[.int .i64 22, .int .i64 7] 23 (0, 0))
  lo : wr.heap[w.heap.size + 1]? = some (.cells #[.int .i64 0, .int .i64 0] 23 (0, 0))
  hi : wr.heap[w.heap.size + 2]? = some (.cells #[.int .i64 0, .int .i64 0] 23 (0, 0))
  bef : wr.heap[w.heap.size + 3]? = some (.cells #[.int .i64 b0, .int .i64 b1] 23 (0, 0))
  last : wr.heap[w.heap.size + 4]? = some (.cells #[.int .i64 l0, .int .i64 l1] 23 (0, 0))
theorem NbW.step {w wr w' : World} {b0 b1 l0 l1 : Int} (h : NbW w wr b0 b1 l0 l1) (hb : Below wr.heap.size wr w') : NbW w w' b0 b1 l0 l1 :=
  ⟨below_step' h.below hb, (hb.block _ (lt_of_block h.x)).trans h.x, (hb.block _ (lt_of_block h.lo)).trans h.lo, (hb.block _ (lt_of_block h.hi)).trans h.hi, (hb.block _ (lt_of_block h.bef)).trans h.bef, (hb.block _ (lt_of_block h.last)).trans h.last⟩
theorem NbW.set {w wr : World} {b0 b1 l0 l1 : Int} (h : NbW w wr b0 b1 l0 l1) (u0 u1 v0 v1 : Int) :
    NbW w ((((wr.setCell ⟨w.heap.size + 3, 0, none⟩ (.int .i64 u0)).setCell ⟨w.heap.size + 3, 1, none⟩ (.int .i64 u1)).setCell ⟨w.heap.size + 4, 0, none⟩ (.int .i64 v0)).setCell ⟨w.heap.size + 4, 1, none⟩ (.int .i64 v1)) u0 u1 v0 v1 := by
  have g1 := set2_grown wr (w.heap.size + 3) (.int .i64 u0) (.int .i64 u1)
  have g2 := set2_grown ((wr.setCell ⟨w.heap.size + 3, 0, none⟩ (.int .i64 u0)).setCell ⟨w.heap.size + 3, 1, none⟩ (.int .i64 u1)) (w.heap.size + 4) (.int .i64 v0) (.int .i64 v1)
  have s1 := g1.size
  have old : ∀ k, k < w.heap.size + 3 → ((((wr.setCell ⟨w.heap.size + 3, 0, none⟩ (.int .i64 u0)).setCell ⟨w.heap.size + 3, 1, none⟩ (.int .i64 u1)).setCell ⟨w.heap.size + 4, 0, none⟩ (.int .i64 v0)).setCell ⟨w.heap.size + 4, 1, none⟩ (.int .i64 v1)).heap[k]? = wr.heap[k]? := fun k hk => by
    have hl := lt_of_block h.last
    exact (g2.block k (by omega) (fun e => by injection e with e; omega)).trans (g1.block k (by omega) (fun e => by injection e with e; omega))
  have hl := lt_of_block h.last
  have e1 := set2_block (u0 := .int .i64 u0) (u1 := .int .i64 u1) h.bef
  refine ⟨(h.below.grown g1 h.below.size (fun k hk => by injection hk with hk; omega)).grown g2 (by have := h.below.size; omega) (fun k hk => by injection hk with hk; omega), (old _ (by omega)).trans h.x, (old _ (by omega)).trans h.lo, (old _ (by omega)).trans h.hi, ?_, ?_⟩
  · exact (g2.block _ (lt_of_block e1) (fun e => by injection e with e; omega)).trans e1
  · exact set2_block ((g1.block _ hl (fun e => by injection e with e; omega)).trans h.last)
theorem nb_start (w : World) (n : Nat) : NbW w ((((((w.alloc (.cells #[.int .i64 22, .int .i64 7] 23)).alloc (.cells #[.int .i64 0, .int .i64 0] 23)).alloc (.cells #[.int .i64 0, .int .i64 0] 23)).alloc (.cells #[.int .i64 0, .int .i64 1] 23)).alloc (.cells #[.int .i64 1, .int .i64 0] 23)).drewN n) 0 1 1 0 := by
  obtain ⟨h1, h2, h3, h4, h5⟩ := three_new w (.cells #[.int .i64 22, .int .i64 7] 23) (.cells #[.int .i64 0, .int .i64 0] 23) (.cells #[.int .i64 0, .int .i64 0] 23)
  obtain ⟨g1, g2, g3, g4⟩ := two_new (((w.alloc (.cells #[.int .i64 22, .int .i64 7] 23)).alloc (.cells #[.int .i64 0, .int .i64 0] 23)).alloc (.cells #[.int .i64 0, .int .i64 0] 23)) (.cells #[.int .i64 0, .int .i64 1] 23) (.cells #[.int .i64 1, .int .i64 0] 23)
  have up := g4.block
  rw [h4] at g1 g2 up
  exact ⟨(below_step' h5 g4).grown (grown_drewN (grown_refl _ none) n) (by have := (below_step' h5 g4).size; omega) (fun k hk => by cases hk), (up _ (by omega)).trans h1, (up _ (by omega)).trans h2, (up _ (by omega)).trans h3, g1, g2⟩
theorem fresh_block {W w' : World} {o : Obj} (hb : Below (W.alloc o).heap.size (W.alloc o) w') : w'.heap[W.heap.size]? = some o := (hb.block _ (by simp)).trans (heap_alloc_new W o)
theorem fresh_drew {W w' : World} {o : Obj} (hb : Below (W.alloc o).drew.heap.size (W.alloc o).drew w') : w'.heap[W.heap.size]? = some o := (hb.block _ (show W.heap.size < (W.alloc o).heap.size by simp)).trans (heap_alloc_new W o)
set_option maxRecDepth 100000 in
set_option maxHeartbeats 16000000 in
theorem nb_known (w : World) :
    Calls Tryz.prog 60 #[(Value.agg #[.int .i64 22, .int .i64 7]), .int .i64 5] w fun e w' => e = .returned (.tuple #[(Value.agg #[.int .i64 3, .int .i64 1]), (Value.agg #[.int .i64 16, .int .i64 5])]) ∧ Below w.heap.size w w' := by
  have HF1 := hide (fun W => fdiv_any 22 7 W (by omega) (by omega) (by omega) (by omega))
  have HF2 := hide (fun W => fdiv_any 7 1 W (by omega) (by omega) (by omega) (by omega))
  rw [show (22 : Int) / 7 = 3 by decide] at HF1
  rw [show (7 : Int) / 1 = 7 by decide] at HF2
  have HM1 := hide (fun W => med_any 0 1 1 0 3 3 0 3 1 W rfl rfl rfl rfl (by omega) (by omega) (by omega) (by omega))
  have HM2 := hide (fun W => med_any 1 0 3 1 7 21 7 22 7 W rfl rfl rfl rfl (by omega) (by omega) (by omega) (by omega))
  have HM3 := hide (fun W => med_any 1 0 3 1 5 15 5 16 5 W rfl rfl rfl rfl (by omega) (by omega) (by omega) (by omega))
  have HO1 := hide (fun W => rof_any 16 5 W (by omega) (by omega) (by omega) (by omega))
  have HO2 := hide (fun W => rof_any 22 7 W (by omega) (by omega) (by omega) (by omega))
  have o1 : Wd.okR 16 5 := by decide
  have o2 : Wd.okR 22 7 := by decide
  obtain ⟨e1, e2⟩ := Wd.qR_ok o1
  obtain ⟨e3, e4⟩ := Wd.qR_ok o2
  have hcc := opc_cmp w (Wd.qR 16 5) (Wd.qR 22 7) (okR_sz o1) (okR_sz o2) (by unfold lim; omega)
  unfold OpC at hcc
  rw [e1, e2, e3, e4, show sgn (16 * 7 - 22 * 5) = 1 by decide] at hcc
  have HCC := hide hcc
  clear hcc e1 e2 e3 e4 o1 o2
  go_enter Tryz.func60, Tryz.ntmps60
  go_wp2_with fail
  go_quiet (fail)
  go_wp2_with fail
  go_loopw [8, 9] (fun nv dv wr => (nv = .int .i64 22 ∧ dv = .int .i64 7 ∧ NbW w wr 0 1 1 0) ∨ (nv = .int .i64 7 ∧ dv = .int .i64 1 ∧ NbW w wr 1 0 3 1)) (fun _ dv _ => (intOf dv).toNat)
  case atStart => exact .inl ⟨rfl, rfl, nb_start w _⟩
  case round =>
    rcases hrel with ⟨rfl, rfl, hw⟩ | ⟨rfl, rfl, hw⟩
    · have b0 : wr.cell? ⟨w.heap.size + 1 + 1 + 1, 0, none⟩ = some (.int .i64 0) := cells_of hw.bef 0
      have b1 : wr.cell? ⟨w.heap.size + 1 + 1 + 1, 1, none⟩ = some (.int .i64 1) := cells_of hw.bef 1
      have l0 : wr.cell? ⟨w.heap.size + 1 + 1 + 1 + 1, 0, none⟩ = some (.int .i64 1) := cells_of hw.last 0
      have l1 : wr.cell? ⟨w.heap.size + 1 + 1 + 1 + 1, 1, none⟩ = some (.int .i64 0) := cells_of hw.last 1
      have HW := hide hw
      clear hw
      go_wp2_with fail
      refine ((unhide HF1) _).mono ?_
      rintro e w1 ⟨rfl, rfl⟩
      go_wp2_with fail
      refine ((unhide HM1) _).mono ?_
      rintro e w2 ⟨rfl, hb⟩
      have hw2 := ((unhide HW).step hb).step (below_alloc (Below.refl _ _) (.cells #[.int .i64 3, .int .i64 1] 23))
      have hn := heap_alloc_new w2 (.cells #[.int .i64 3, .int .i64 1] 23)
      have HWo := HW
      have hb0 := hb
      clear b0 b1 l0 l1 hb HW
      have c0 : (w2.alloc (.cells #[.int .i64 3, .int .i64 1] 23)).cell? ⟨w.heap.size + 1 + 1 + 1 + 1, 0, none⟩ = some (.int .i64 1) := cells_of hw2.last 0
      have c1 : (w2.alloc (.cells #[.int .i64 3, .int .i64 1] 23)).cell? ⟨w.heap.size + 1 + 1 + 1 + 1, 1, none⟩ = some (.int .i64 0) := cells_of hw2.last 1
      have c2 : (w2.alloc (.cells #[.int .i64 3, .int .i64 1] 23)).cell? ⟨w.heap.size + 1 + 1 + 1, 0, none⟩ = some (.int .i64 0) := cells_of hw2.bef 0
      have c3 : (w2.alloc (.cells #[.int .i64 3, .int .i64 1] 23)).cell? ⟨w.heap.size + 1 + 1 + 1, 1, none⟩ = some (.int .i64 1) := cells_of hw2.bef 1
      have d0 : (w2.alloc (.cells #[.int .i64 3, .int .i64 1] 23)).cell? ⟨w2.heap.size, 0, none⟩ = some (.int .i64 3) := cells_of hn 0
      have d1 : (w2.alloc (.cells #[.int .i64 3, .int .i64 1] 23)).cell? ⟨w2.heap.size, 1, none⟩ = some (.int .i64 1) := cells_of hn 1
      have f0 : (w2.alloc (.cells #[.int .i64 3, .int .i64 1] 23)).frozen? ⟨w.heap.size + 1 + 1 + 1 + 1, 0, none⟩ = false := unfrozen_of hw2.last 0
      have f1 : (w2.alloc (.cells #[.int .i64 3, .int .i64 1] 23)).frozen? ⟨w.heap.size + 1 + 1 + 1 + 1, 1, none⟩ = false := unfrozen_of hw2.last 1
      have f2 : (w2.alloc (.cells #[.int .i64 3, .int .i64 1] 23)).frozen? ⟨w.heap.size + 1 + 1 + 1, 0, none⟩ = false := unfrozen_of hw2.bef 0
      have f3 : (w2.alloc (.cells #[.int .i64 3, .int .i64 1] 23)).frozen? ⟨w.heap.size + 1 + 1 + 1, 1, none⟩ = false := unfrozen_of hw2.bef 1
      have HW2 := hide hw2
      have HN := hide hn
      have HN2 := hide (show w.heap.size + 1 + 1 + 1 + 1 < w2.heap.size from lt_of_block ((unhide HWo).step hb0).last)
      clear hw2 hn
      go_upto_region 5 with fail
      generalize w2.alloc (.cells #[.int .i64 3, .int .i64 1] 23) = w3 at *
      obtain ⟨p, hp⟩ : ∃ p, p = w2.heap.size := ⟨_, rfl⟩
      rw [← hp] at d0 d1 ⊢
      have hpn : w.heap.size + 1 + 1 + 1 + 1 < p := by rw [hp]; exact unhide HN2
      clear HN hp
      go_wp2_with fail
      go_region
      all_goals go_wp2_with fail
      go_roundw
      case rel => exact .inr ⟨by go_num, by go_num, ((unhide HW2).step (Below.refl _ _).drew).set 1 0 3 1⟩
      case measure => simp [intOf]
    · have b0 : wr.cell? ⟨w.heap.size + 1 + 1 + 1, 0, none⟩ = some (.int .i64 1) := cells_of hw.bef 0
      have b1 : wr.cell? ⟨w.heap.size + 1 + 1 + 1, 1, none⟩ = some (.int .i64 0) := cells_of hw.bef 1
      have l0 : wr.cell? ⟨w.heap.size + 1 + 1 + 1 + 1, 0, none⟩ = some (.int .i64 3) := cells_of hw.last 0
      have l1 : wr.cell? ⟨w.heap.size + 1 + 1 + 1 + 1, 1, none⟩ = some (.int .i64 1) := cells_of hw.last 1
      have HW := hide hw
      clear hw
      go_wp2_with fail
      refine ((unhide HF2) _).mono ?_
      rintro e w1 ⟨rfl, rfl⟩
      go_wp2_with fail
      refine ((unhide HM2) _).mono ?_
      rintro e w2 ⟨rfl, hb⟩
      have hw2 := ((unhide HW).step hb).step (below_alloc (Below.refl _ _) (.cells #[.int .i64 22, .int .i64 7] 23))
      have hn := heap_alloc_new w2 (.cells #[.int .i64 22, .int .i64 7] 23)
      clear b0 b1 l0 l1 hb HW
      have d1 : (w2.alloc (.cells #[.int .i64 22, .int .i64 7] 23)).cell? ⟨w2.heap.size, 1, none⟩ = some (.int .i64 7) := cells_of hn 1
      have HW2 := hide hw2
      clear hw2 hn
      go_upto_region 5 with fail
      generalize w2.alloc (.cells #[.int .i64 22, .int .i64 7] 23) = w3 at *
      go_upto_region 8 with fail
      have c0 : w3.cell? ⟨w.heap.size + 1 + 1 + 1 + 1, 0, none⟩ = some (.int .i64 3) := cells_of (unhide HW2).last 0
      have c1 : w3.cell? ⟨w.heap.size + 1 + 1 + 1 + 1, 1, none⟩ = some (.int .i64 1) := cells_of (unhide HW2).last 1
      have c2 : w3.cell? ⟨w.heap.size + 1 + 1 + 1, 0, none⟩ = some (.int .i64 1) := cells_of (unhide HW2).bef 0
      have c3 : w3.cell? ⟨w.heap.size + 1 + 1 + 1, 1, none⟩ = some (.int .i64 0) := cells_of (unhide HW2).bef 1
      have q4 : w.heap.size + 1 + 1 + 1 + 1 < w3.heap.size := lt_of_block (unhide HW2).last
      have q3 : w.heap.size + 1 + 1 + 1 < w3.heap.size := lt_of_block (unhide HW2).bef
      have KEEP := hide (show ∀ X, Below w3.heap.size w3 X → X.cell? ⟨w.heap.size + 1 + 1 + 1 + 1, 0, none⟩ = some (.int .i64 3) ∧ X.cell? ⟨w.heap.size + 1 + 1 + 1 + 1, 1, none⟩ = some (.int .i64 1) ∧ X.cell? ⟨w.heap.size + 1 + 1 + 1, 0, none⟩ = some (.int .i64 1) ∧ X.cell? ⟨w.heap.size + 1 + 1 + 1, 1, none⟩ = some (.int .i64 0) from fun X hB => ⟨keep_cell hB q4 c0, keep_cell hB q4 c1, keep_cell hB q3 c2, keep_cell hB q3 c3⟩)
      clear d1 q3 q4 c0 c1 c2 c3
      have ew : IntKind.i64.wrap 5 = 5 := by decide
      go_cut [12] (fun s12 wx => ∃ b12 : Nat, s12 = .pointer (some ⟨b12, 0, none⟩) ∧ wx.heap[b12]? = some (.cells #[.int .i64 16, .int .i64 5] 23 (0, 0)) ∧ Below w3.heap.size w3 wx ∧ w3.heap.size ≤ b12)
      case first =>
        go_region_held3 (fun w' => w'.cell? ⟨w.heap.size + 1 + 1 + 1 + 1, 0, none⟩ = some (.int .i64 3) ∧ w'.cell? ⟨w.heap.size + 1 + 1 + 1 + 1, 1, none⟩ = some (.int .i64 1) ∧ w'.cell? ⟨w.heap.size + 1 + 1 + 1, 0, none⟩ = some (.int .i64 1) ∧ w'.cell? ⟨w.heap.size + 1 + 1 + 1, 1, none⟩ = some (.int .i64 0)) (exact (unhide KEEP) _ (by (repeat (first | with_reducible exact Below.refl _ _ | with_reducible assumption | with_reducible refine Below.drew ?_ | with_reducible refine below_alloc ?_ _ | (with_reducible refine below_set ?_ ?_ _ _; rotate_left; (first | omega | (simp <;> omega))))))) ((go_at_call 111; refine ((unhide HM3) _).mono ?_; rintro e w' ⟨rfl, hb⟩; have hbw := below_step (w := w3) (by (repeat (first | with_reducible exact Below.refl _ _ | with_reducible assumption | with_reducible refine Below.drew ?_ | with_reducible refine below_alloc ?_ _))) hb; have hsw := hbw.size; (try (have un : w'.heap[w3.heap.size]? = some (.cells #[.int .i64 0, .int .i64 0] 23 (0, 0)) := (by first | exact fresh_block hb | exact fresh_drew hb); have un0 : w'.cell? ⟨w3.heap.size, 0, none⟩ = some (.int .i64 0) := cells_of un 0; have un1 : w'.cell? ⟨w3.heap.size, 1, none⟩ = some (.int .i64 0) := cells_of un 1; have un2 := unfrozen_of un 0; have un3 := unfrozen_of un 1))))
        all_goals
          go_wp2_with fail
          go_meet
          first
            | exact ⟨_, rfl, heap_alloc_new w' _, below_alloc hbw _, hsw⟩
            | exact ⟨_, rfl, set2_block un, hbw.grown (set2_grown _ _ _ _) hbw.size (fun k hk => by injection hk with hk; omega), Nat.le_refl _⟩
      case rest =>
        revert hcut
        generalize wc = W5
        intro hcut
        obtain ⟨b12, rfl, hn12, hb5, ob⟩ := hcut
        have ol := lt_of_block (unhide HW2).last
        have i1 : ¬ (b12 = w.heap.size + 1) := by omega
        have i2 : ¬ (w.heap.size + 1 = b12) := by omega
        have i3 : ¬ (b12 = w.heap.size + 1 + 1) := by omega
        have i4 : ¬ (w.heap.size + 1 + 1 = b12) := by omega
        clear ob ol
        have hw5 := (unhide HW2).step hb5
        have a0 : W5.cell? ⟨b12, 0, none⟩ = some (.int .i64 16) := cells_of hn12 0
        have a1 : W5.cell? ⟨b12, 1, none⟩ = some (.int .i64 5) := cells_of hn12 1
        have x0 : W5.cell? ⟨w.heap.size, 0, none⟩ = some (.int .i64 22) := cells_of hw5.x 0
        have x1 : W5.cell? ⟨w.heap.size, 1, none⟩ = some (.int .i64 7) := cells_of hw5.x 1
        have q12 := lt_of_block hn12
        have qx := lt_of_block hw5.x
        have HW5 := hide hw5
        have HN12 := hide hn12
        clear KEEP HW2 hb5 hw5 hn12
        have KEEP := hide (show ∀ X, Below W5.heap.size W5 X → X.cell? ⟨b12, 0, none⟩ = some (.int .i64 16) ∧ X.cell? ⟨b12, 1, none⟩ = some (.int .i64 5) ∧ X.cell? ⟨w.heap.size, 0, none⟩ = some (.int .i64 22) ∧ X.cell? ⟨w.heap.size, 1, none⟩ = some (.int .i64 7) from fun X hB => ⟨keep_cell hB q12 a0, keep_cell hB q12 a1, keep_cell hB qx x0, keep_cell hB qx x1⟩)
        go_upto_region 9 with fail
        go_region_held3 (fun w' => w'.cell? ⟨b12, 0, none⟩ = some (.int .i64 16) ∧ w'.cell? ⟨b12, 1, none⟩ = some (.int .i64 5) ∧ w'.cell? ⟨w.heap.size, 0, none⟩ = some (.int .i64 22) ∧ w'.cell? ⟨w.heap.size, 1, none⟩ = some (.int .i64 7)) (exact (unhide KEEP) _ (by (repeat (first | with_reducible exact Below.refl _ _ | with_reducible assumption | with_reducible refine Below.drew ?_ | with_reducible refine below_alloc ?_ _)))) (first | (go_at_call_of 50 (Value.agg #[.int .i64 16, .int .i64 5]); refine ((unhide HO1) _).mono ?_; rintro e w' ⟨s5, neg5, A5, c5, l5, s6, neg6, A6, c6, l6, rfl, hf5, hf6, hb5⟩; have hbw := below_step (w := W5) (by (repeat (first | with_reducible exact Below.refl _ _ | with_reducible assumption | with_reducible refine Below.drew ?_ | with_reducible refine below_alloc ?_ _))) hb5; have hsw := hbw.size; obtain ⟨hc, hfz⟩ := bcell hbw) | (go_at_call_of 50 (Value.agg #[.int .i64 22, .int .i64 7]); refine ((unhide HO2) _).mono ?_; rintro e w' ⟨s7, neg7, A7, c7, l7, s8, neg8, A8, c8, l8, rfl, hf7, hf8, hb7⟩; have hf5 := IntF.below (IntF.below hf5 (by (repeat (first | with_reducible exact Below.refl _ _ | with_reducible assumption | with_reducible refine Below.drew ?_ | with_reducible refine below_alloc ?_ _)))) hb7; have hf6 := IntF.below (IntF.below hf6 (by (repeat (first | with_reducible exact Below.refl _ _ | with_reducible assumption | with_reducible refine Below.drew ?_ | with_reducible refine below_alloc ?_ _)))) hb7; have hbw := below_step (w := W5) (by (repeat (first | with_reducible exact Below.refl _ _ | with_reducible assumption | with_reducible refine Below.drew ?_ | with_reducible refine below_alloc ?_ _))) hb7; have hsw := hbw.size; obtain ⟨hc, hfz⟩ := bcell hbw) | (go_at_call_of 62 (Value.agg #[.int .i64 s5, .bool neg5, .slice A5 l5.length c5, .int .i64 s6, .bool neg6, .slice A6 l6.length c6]); refine ((unhide HCC) s5 neg5 A5 c5 l5 s6 neg6 A6 c6 l6 s7 neg7 A7 c7 l7 s8 neg8 A8 c8 l8 _ (below_step' (unhide HW5).below (by (repeat (first | with_reducible exact Below.refl _ _ | with_reducible assumption | with_reducible refine Below.drew ?_ | with_reducible refine below_alloc ?_ _)))) (IntF.below hf5 (by (repeat (first | with_reducible exact Below.refl _ _ | with_reducible assumption | with_reducible refine Below.drew ?_ | with_reducible refine below_alloc ?_ _)))) (IntF.below hf6 (by (repeat (first | with_reducible exact Below.refl _ _ | with_reducible assumption | with_reducible refine Below.drew ?_ | with_reducible refine below_alloc ?_ _)))) (IntF.below hf7 (by (repeat (first | with_reducible exact Below.refl _ _ | with_reducible assumption | with_reducible refine Below.drew ?_ | with_reducible refine below_alloc ?_ _)))) (IntF.below hf8 (by (repeat (first | with_reducible exact Below.refl _ _ | with_reducible assumption | with_reducible refine Below.drew ?_ | with_reducible refine below_alloc ?_ _))))).mono ?_; rintro e w' ⟨rfl, hb9⟩; have hbw := below_step (w := W5) (by (repeat (first | with_reducible exact Below.refl _ _ | with_reducible assumption | with_reducible refine Below.drew ?_ | with_reducible refine below_alloc ?_ _))) hb9; have hsw := hbw.size; obtain ⟨hc, hfz⟩ := bcell hbw))
        clear hf5 hf6 hf7 hf8 hc hfz a0 a1 x0 x1 KEEP
        have hw6 := (unhide HW5).step hbw
        have hn6 := (hbw.block _ (lt_of_block (unhide HN12))).trans (unhide HN12)
        have a0 : w'.cell? ⟨b12, 0, none⟩ = some (.int .i64 16) := cells_of hn6 0
        have a1 : w'.cell? ⟨b12, 1, none⟩ = some (.int .i64 5) := cells_of hn6 1
        have c0 : w'.cell? ⟨w.heap.size + 1 + 1 + 1 + 1, 0, none⟩ = some (.int .i64 3) := cells_of hw6.last 0
        have c1 : w'.cell? ⟨w.heap.size + 1 + 1 + 1 + 1, 1, none⟩ = some (.int .i64 1) := cells_of hw6.last 1
        have r0 : w'.cell? ⟨w.heap.size + 1, 0, none⟩ = some (.int .i64 0) := cells_of hw6.lo 0
        have r1 : w'.cell? ⟨w.heap.size + 1, 1, none⟩ = some (.int .i64 0) := cells_of hw6.lo 1
        have r2 : w'.cell? ⟨w.heap.size + 1 + 1, 0, none⟩ = some (.int .i64 0) := cells_of hw6.hi 0
        have r3 : w'.cell? ⟨w.heap.size + 1 + 1, 1, none⟩ = some (.int .i64 0) := cells_of hw6.hi 1
        have f0 : w'.frozen? ⟨w.heap.size + 1, 0, none⟩ = false := unfrozen_of hw6.lo 0
        have f1 : w'.frozen? ⟨w.heap.size + 1, 1, none⟩ = false := unfrozen_of hw6.lo 1
        have f2 : w'.frozen? ⟨w.heap.size + 1 + 1, 0, none⟩ = false := unfrozen_of hw6.hi 0
        have f3 : w'.frozen? ⟨w.heap.size + 1 + 1, 1, none⟩ = false := unfrozen_of hw6.hi 1
        have hb9' := hw6.below
        have hs : w.heap.size + 1 + 1 < w'.heap.size := lt_of_block hw6.hi
        clear hw6 hn6 HW5 HN12
        go_wp2_with fail
        go_region
        all_goals go_wp2_with fail
        exact bodyPost_ret (v := .tuple #[(Value.agg #[.int .i64 3, .int .i64 1]), (Value.agg #[.int .i64 16, .int .i64 5])]) (by simp [results, Tryz.results60, go_sem, r0, r1, r2, r3, hs]) rfl
          ⟨rfl, ((hb9'.grown (set2_grown _ _ _ _) hb9'.size (fun k hk => by injection hk with hk; omega)).grown (set2_grown _ _ _ _) (Nat.le_trans hb9'.size (set2_grown w' (w.heap.size + 1) (.int .i64 3) (.int .i64 1)).size) (fun k hk => by injection hk with hk; omega)).drew⟩

end Go.Proofs.YtpjgoogeokbaaaaGreatDoor
/- The number nearest to 22/7 with a denominator of at most 5. -/
namespace Go.Proofs.YtpjgoogeokbaaaaGreatDoor
open Go.RowKit

set_option maxRecDepth 100000 in
set_option maxHeartbeats 16000000 in
theorem near_known (w : World) (hT : Tab w) :
    Calls Tryz.prog 18 #[(Value.agg #[.int .i64 22, .int .i64 7]), .int .i64 5] w fun e w' => e = .returned (.tuple #[(Value.agg #[.int .i64 16, .int .i64 5]), .int .i64 0]) ∧ Below w.heap.size w w' := by
  have HV := hide (val_any 22 7)
  rw [show valE 22 7 = 0 by decide] at HV
  have HNB := hide nb_known
  have HO := hide (fun W => rof_any 22 7 W (by omega) (by omega) (by omega) (by omega))
  have HO1 := hide (fun W => rof_any 3 1 W (by omega) (by omega) (by omega) (by omega))
  have HO2 := hide (fun W => rof_any 16 5 W (by omega) (by omega) (by omega) (by omega))
  have o1 : Wd.okR 22 7 := by decide
  have o2 : Wd.okR 3 1 := by decide
  have o3 : Wd.okR 16 5 := by decide
  obtain ⟨e1, e2⟩ := Wd.qR_ok o1
  obtain ⟨e3, e4⟩ := Wd.qR_ok o2
  obtain ⟨e5, e6⟩ := Wd.qR_ok o3
  obtain ⟨hs1, z1⟩ := opq_sub hT (Wd.qR 22 7) (Wd.qR 3 1) (okR_sz o1) (okR_sz o2) lim3
  obtain ⟨hs2, z2⟩ := opq_sub hT (Wd.qR 16 5) (Wd.qR 22 7) (okR_sz o3) (okR_sz o1) lim3
  have hcc := opc_cmp w _ _ z1 z2 (by unfold lim; omega)
  rw [show sgn ((Wd.qR 22 7 - Wd.qR 3 1).num * (Wd.qR 16 5 - Wd.qR 22 7).den - (Wd.qR 16 5 - Wd.qR 22 7).num * (Wd.qR 22 7 - Wd.qR 3 1).den) = 1 by decide +kernel] at hcc
  unfold OpQ2 at hs1 hs2
  unfold OpC at hcc
  rw [e1, e2, e3, e4] at hs1
  rw [e5, e6, e1, e2] at hs2
  generalize Wd.qR 22 7 - Wd.qR 3 1 = u at *
  generalize Wd.qR 16 5 - Wd.qR 22 7 = v at *
  have HS1 := hide hs1
  have HS2 := hide hs2
  have HCC := hide hcc
  have HT := hide hT
  clear hT o1 o2 o3 e1 e2 e3 e4 e5 e6 hs1 hs2 z1 z2 hcc
  go_enter Tryz.func18, Tryz.ntmps18
  go_wp2_with fail
  obtain ⟨n0_, n1_, hsz, hw0⟩ := two_new w (.cells #[.int .i64 22, .int .i64 7] 23) (.cells #[.int .i64 0, .int .i64 0] 23)
  generalize ((w.alloc (.cells #[.int .i64 22, .int .i64 7] 23)).alloc (.cells #[.int .i64 0, .int .i64 0] 23)) = W0 at *
  clear hsz
  refine ((unhide HV) _ ((unhide HT).below hw0)).mono ?_
  rintro e W1 ⟨rfl, hb⟩
  have x1 := (hb.block _ (lt_of_block n0_)).trans n0_
  have r1 := (hb.block _ (lt_of_block n1_)).trans n1_
  have hw1 := below_step' hw0 hb
  clear n0_ n1_ hb hw0 W0
  have k0 : W1.cell? ⟨w.heap.size, 0, none⟩ = some (.int .i64 22) := cells_of x1 0
  have k1 : W1.cell? ⟨w.heap.size, 1, none⟩ = some (.int .i64 7) := cells_of x1 1
  have X1 := hide x1
  have R1 := hide r1
  clear x1 r1
  go_wp2_with fail
  refine ((unhide HNB) _).mono ?_
  rintro e W2 ⟨rfl, hb⟩
  have x1 := (hb.block _ (lt_of_block (unhide X1))).trans (unhide X1)
  have r1 := (hb.block _ (lt_of_block (unhide R1))).trans (unhide R1)
  have hw2 := below_step' hw1 hb
  clear k0 k1 hb hw1 X1 R1
  have k0 : W2.cell? ⟨w.heap.size, 0, none⟩ = some (.int .i64 22) := cells_of x1 0
  have k1 : W2.cell? ⟨w.heap.size, 1, none⟩ = some (.int .i64 7) := cells_of x1 1
  have X1 := hide x1
  have R1 := hide r1
  clear x1 r1
  go_upto_region 9 with fail
  obtain ⟨n7, n8, hsz, hb⟩ := two_new W2 (.cells #[.int .i64 3, .int .i64 1] 23) (.cells #[.int .i64 16, .int .i64 5] 23)
  have x1 := (hb.block _ (lt_of_block (unhide X1))).trans (unhide X1)
  have r1 := (hb.block _ (lt_of_block (unhide R1))).trans (unhide R1)
  have hw3 := below_step' hw2 hb
  generalize ((W2.alloc (.cells #[.int .i64 3, .int .i64 1] 23)).alloc (.cells #[.int .i64 16, .int .i64 5] 23)) = W3 at *
  have ob7 : w.heap.size + 1 < W2.heap.size := lt_of_block (unhide R1)
  obtain ⟨b7, hb7⟩ : ∃ b, b = W2.heap.size := ⟨_, rfl⟩
  rw [← hb7] at n7 n8 ob7 ⊢
  clear k0 k1 hb hw2 X1 R1 hsz hb7
  have k0 : W3.cell? ⟨w.heap.size, 0, none⟩ = some (.int .i64 22) := cells_of x1 0
  have k1 : W3.cell? ⟨w.heap.size, 1, none⟩ = some (.int .i64 7) := cells_of x1 1
  go_wp2_with fail
  refine ((unhide HO) _).mono ?_
  rintro e W4 ⟨s1, neg1, A1, c1, l1, s2, neg2, A2, c2, l2, rfl, hf1, hf2, hb⟩
  go_upto_region 10 with fail
  have n9 := heap_alloc_new W4 (.cells #[.int .i64 s1, .bool neg1, .slice A1 l1.length c1, .int .i64 s2, .bool neg2, .slice A2 l2.length c2] 63)
  have hn : Below W4.heap.size W4 (W4.alloc (.cells #[.int .i64 s1, .bool neg1, .slice A1 l1.length c1, .int .i64 s2, .bool neg2, .slice A2 l2.length c2] 63)) := below_alloc (Below.refl _ _) _
  have ob9 : W3.heap.size ≤ W4.heap.size := hb.size
  generalize W4.alloc (.cells #[.int .i64 s1, .bool neg1, .slice A1 l1.length c1, .int .i64 s2, .bool neg2, .slice A2 l2.length c2] 63) = W5 at *
  obtain ⟨b9, hb9⟩ : ∃ b, b = W4.heap.size := ⟨_, rfl⟩
  rw [← hb9] at n9 ob9 ⊢
  have hB5 := below_step' hb hn
  have H1 := hide (hf1.below hn)
  have H2 := hide (hf2.below hn)
  have m7 := (hB5.block _ (lt_of_block n7)).trans n7
  have m8 := (hB5.block _ (lt_of_block n8)).trans n8
  have mr := (hB5.block _ (lt_of_block r1)).trans r1
  have HB := Lib.hid (below_step' hw3 hB5)
  have HM8 := hide m8
  have HMR := hide mr
  have kb7_0 : W5.cell? ⟨b7, 0, none⟩ = some (.int .i64 3) := cells_of m7 0
  have kb7_1 : W5.cell? ⟨b7, 1, none⟩ = some (.int .i64 1) := cells_of m7 1
  have kb8_0 : W5.cell? ⟨b7 + 1, 0, none⟩ = some (.int .i64 16) := cells_of m8 0
  have kb8_1 : W5.cell? ⟨b7 + 1, 1, none⟩ = some (.int .i64 5) := cells_of m8 1
  have kb9_0 : W5.cell? ⟨b9, 0, none⟩ = some (.int .i64 s1) := cells_of n9 0
  have kb9_1 : W5.cell? ⟨b9, 1, none⟩ = some (.bool neg1) := cells_of n9 1
  have kb9_2 : W5.cell? ⟨b9, 2, none⟩ = some (.slice A1 l1.length c1) := cells_of n9 2
  have kb9_3 : W5.cell? ⟨b9, 3, none⟩ = some (.int .i64 s2) := cells_of n9 3
  have kb9_4 : W5.cell? ⟨b9, 4, none⟩ = some (.bool neg2) := cells_of n9 4
  have kb9_5 : W5.cell? ⟨b9, 5, none⟩ = some (.slice A2 l2.length c2) := cells_of n9 5
  have qb7 := lt_of_block m7
  have qb8 := lt_of_block m8
  have qb9 := lt_of_block n9
  clear k0 k1 hf1 hf2 hb hn n7 n8 n9 x1 r1 m7 m8 mr hw3 hB5 ob9 hb9
  have KEEP := hide (show ∀ X, Below W5.heap.size W5 X → X.cell? ⟨b7, 0, none⟩ = some (.int .i64 3) ∧ X.cell? ⟨b7, 1, none⟩ = some (.int .i64 1) ∧ X.cell? ⟨b7 + 1, 0, none⟩ = some (.int .i64 16) ∧ X.cell? ⟨b7 + 1, 1, none⟩ = some (.int .i64 5) ∧ X.cell? ⟨b9, 0, none⟩ = some (.int .i64 s1) ∧ X.cell? ⟨b9, 1, none⟩ = some (.bool neg1) ∧ X.cell? ⟨b9, 2, none⟩ = some (.slice A1 l1.length c1) ∧ X.cell? ⟨b9, 3, none⟩ = some (.int .i64 s2) ∧ X.cell? ⟨b9, 4, none⟩ = some (.bool neg2) ∧ X.cell? ⟨b9, 5, none⟩ = some (.slice A2 l2.length c2) from fun X hB => ⟨keep_cell hB qb7 kb7_0, keep_cell hB qb7 kb7_1, keep_cell hB qb8 kb8_0, keep_cell hB qb8 kb8_1, keep_cell hB qb9 kb9_0, keep_cell hB qb9 kb9_1, keep_cell hB qb9 kb9_2, keep_cell hB qb9 kb9_3, keep_cell hB qb9 kb9_4, keep_cell hB qb9 kb9_5⟩)
  go_region_held3 (fun w' => w'.cell? ⟨b7, 0, none⟩ = some (.int .i64 3) ∧ w'.cell? ⟨b7, 1, none⟩ = some (.int .i64 1) ∧ w'.cell? ⟨b7 + 1, 0, none⟩ = some (.int .i64 16) ∧ w'.cell? ⟨b7 + 1, 1, none⟩ = some (.int .i64 5) ∧ w'.cell? ⟨b9, 0, none⟩ = some (.int .i64 s1) ∧ w'.cell? ⟨b9, 1, none⟩ = some (.bool neg1) ∧ w'.cell? ⟨b9, 2, none⟩ = some (.slice A1 l1.length c1) ∧ w'.cell? ⟨b9, 3, none⟩ = some (.int .i64 s2) ∧ w'.cell? ⟨b9, 4, none⟩ = some (.bool neg2) ∧ w'.cell? ⟨b9, 5, none⟩ = some (.slice A2 l2.length c2)) (exact (unhide KEEP) _ (by (repeat (first | with_reducible exact Below.refl _ _ | with_reducible assumption | with_reducible refine Below.drew ?_ | with_reducible refine below_alloc ?_ _)))) (first | (go_at_call_of 50 (Value.agg #[.int .i64 3, .int .i64 1]); refine ((unhide HO1) _).mono ?_; rintro e w' ⟨s5, neg5, A5, c5, l5, s6, neg6, A6, c6, l6, rfl, hf5, hf6, hb5⟩; have hbw := below_step (w := W5) (by (repeat (first | with_reducible exact Below.refl _ _ | with_reducible assumption | with_reducible refine Below.drew ?_ | with_reducible refine below_alloc ?_ _))) hb5; have hsw := hbw.size; obtain ⟨hc, hfz⟩ := bcell hbw) | (go_at_call_of 61 (Value.agg #[.int .i64 s1, .bool neg1, .slice A1 l1.length c1, .int .i64 s2, .bool neg2, .slice A2 l2.length c2]); refine ((unhide HS1) s1 neg1 A1 c1 l1 s2 neg2 A2 c2 l2 s5 neg5 A5 c5 l5 s6 neg6 A6 c6 l6 _ (below_step' HB.out (by (repeat (first | with_reducible exact Below.refl _ _ | with_reducible assumption | with_reducible refine Below.drew ?_ | with_reducible refine below_alloc ?_ _)))) (IntF.below (unhide H1) (by (repeat (first | with_reducible exact Below.refl _ _ | with_reducible assumption | with_reducible refine Below.drew ?_ | with_reducible refine below_alloc ?_ _)))) (IntF.below (unhide H2) (by (repeat (first | with_reducible exact Below.refl _ _ | with_reducible assumption | with_reducible refine Below.drew ?_ | with_reducible refine below_alloc ?_ _)))) (IntF.below hf5 (by (repeat (first | with_reducible exact Below.refl _ _ | with_reducible assumption | with_reducible refine Below.drew ?_ | with_reducible refine below_alloc ?_ _)))) (IntF.below hf6 (by (repeat (first | with_reducible exact Below.refl _ _ | with_reducible assumption | with_reducible refine Below.drew ?_ | with_reducible refine below_alloc ?_ _))))).mono ?_; rintro e w' ⟨s7, neg7, A7, c7, l7, s8, neg8, A8, c8, l8, rfl, hf7, hf8, hb7⟩; have hbw := below_step (w := W5) (by (repeat (first | with_reducible exact Below.refl _ _ | with_reducible assumption | with_reducible refine Below.drew ?_ | with_reducible refine below_alloc ?_ _))) hb7; have hsw := hbw.size; obtain ⟨hc, hfz⟩ := bcell hbw) | (go_at_call_of 50 (Value.agg #[.int .i64 16, .int .i64 5]); refine ((unhide HO2) _).mono ?_; rintro e w' ⟨s9, neg9, A9, c9, l9, s10, neg10, A10, c10, l10, rfl, hf9, hf10, hb9⟩; have hf7 := IntF.below (IntF.below hf7 (by (repeat (first | with_reducible exact Below.refl _ _ | with_reducible assumption | with_reducible refine Below.drew ?_ | with_reducible refine below_alloc ?_ _)))) hb9; have hf8 := IntF.below (IntF.below hf8 (by (repeat (first | with_reducible exact Below.refl _ _ | with_reducible assumption | with_reducible refine Below.drew ?_ | with_reducible refine below_alloc ?_ _)))) hb9; have hbw := below_step (w := W5) (by (repeat (first | with_reducible exact Below.refl _ _ | with_reducible assumption | with_reducible refine Below.drew ?_ | with_reducible refine below_alloc ?_ _))) hb9; have hsw := hbw.size; obtain ⟨hc, hfz⟩ := bcell hbw) | (go_at_call_of 61 (Value.agg #[.int .i64 s9, .bool neg9, .slice A9 l9.length c9, .int .i64 s10, .bool neg10, .slice A10 l10.length c10]); refine ((unhide HS2) s9 neg9 A9 c9 l9 s10 neg10 A10 c10 l10 s1 neg1 A1 c1 l1 s2 neg2 A2 c2 l2 _ (below_step' HB.out (by (repeat (first | with_reducible exact Below.refl _ _ | with_reducible assumption | with_reducible refine Below.drew ?_ | with_reducible refine below_alloc ?_ _)))) (IntF.below hf9 (by (repeat (first | with_reducible exact Below.refl _ _ | with_reducible assumption | with_reducible refine Below.drew ?_ | with_reducible refine below_alloc ?_ _)))) (IntF.below hf10 (by (repeat (first | with_reducible exact Below.refl _ _ | with_reducible assumption | with_reducible refine Below.drew ?_ | with_reducible refine below_alloc ?_ _)))) (IntF.below (unhide H1) (by (repeat (first | with_reducible exact Below.refl _ _ | with_reducible assumption | with_reducible refine Below.drew ?_ | with_reducible refine below_alloc ?_ _)))) (IntF.below (unhide H2) (by (repeat (first | with_reducible exact Below.refl _ _ | with_reducible assumption | with_reducible refine Below.drew ?_ | with_reducible refine below_alloc ?_ _))))).mono ?_; rintro e w' ⟨s11, neg11, A11, c11, l11, s12, neg12, A12, c12, l12, rfl, hf11, hf12, hb11⟩; have hf7 := IntF.below (IntF.below hf7 (by (repeat (first | with_reducible exact Below.refl _ _ | with_reducible assumption | with_reducible refine Below.drew ?_ | with_reducible refine below_alloc ?_ _)))) hb11; have hf8 := IntF.below (IntF.below hf8 (by (repeat (first | with_reducible exact Below.refl _ _ | with_reducible assumption | with_reducible refine Below.drew ?_ | with_reducible refine below_alloc ?_ _)))) hb11; have hbw := below_step (w := W5) (by (repeat (first | with_reducible exact Below.refl _ _ | with_reducible assumption | with_reducible refine Below.drew ?_ | with_reducible refine below_alloc ?_ _))) hb11; have hsw := hbw.size; obtain ⟨hc, hfz⟩ := bcell hbw) | (go_at_call_of 62 (Value.agg #[.int .i64 s7, .bool neg7, .slice A7 l7.length c7, .int .i64 s8, .bool neg8, .slice A8 l8.length c8]); refine ((unhide HCC) s7 neg7 A7 c7 l7 s8 neg8 A8 c8 l8 s11 neg11 A11 c11 l11 s12 neg12 A12 c12 l12 _ (below_step' HB.out (by (repeat (first | with_reducible exact Below.refl _ _ | with_reducible assumption | with_reducible refine Below.drew ?_ | with_reducible refine below_alloc ?_ _)))) (IntF.below hf7 (by (repeat (first | with_reducible exact Below.refl _ _ | with_reducible assumption | with_reducible refine Below.drew ?_ | with_reducible refine below_alloc ?_ _)))) (IntF.below hf8 (by (repeat (first | with_reducible exact Below.refl _ _ | with_reducible assumption | with_reducible refine Below.drew ?_ | with_reducible refine below_alloc ?_ _)))) (IntF.below hf11 (by (repeat (first | with_reducible exact Below.refl _ _ | with_reducible assumption | with_reducible refine Below.drew ?_ | with_reducible refine below_alloc ?_ _)))) (IntF.below hf12 (by (repeat (first | with_reducible exact Below.refl _ _ | with_reducible assumption | with_reducible refine Below.drew ?_ | with_reducible refine below_alloc ?_ _))))).mono ?_; rintro e w' ⟨rfl, hb13⟩; have hbw := below_step (w := W5) (by (repeat (first | with_reducible exact Below.refl _ _ | with_reducible assumption | with_reducible refine Below.drew ?_ | with_reducible refine below_alloc ?_ _))) hb13; have hsw := hbw.size; obtain ⟨hc, hfz⟩ := bcell hbw))
  have hbb := below_step' HB.out hbw
  have m8 := (hbw.block _ qb8).trans (unhide HM8)
  have mr := (hbw.block _ (lt_of_block (unhide HMR))).trans (unhide HMR)
  clear hf7 hf8 hf11 hf12 hc hfz KEEP kb7_0 kb7_1 kb8_0 kb8_1
  have k0 : w'.cell? ⟨b7 + 1, 0, none⟩ = some (.int .i64 16) := cells_of m8 0
  have k1 : w'.cell? ⟨b7 + 1, 1, none⟩ = some (.int .i64 5) := cells_of m8 1
  have r0 : w'.cell? ⟨w.heap.size + 1, 0, none⟩ = some (.int .i64 0) := cells_of mr 0
  have r1 : w'.cell? ⟨w.heap.size + 1, 1, none⟩ = some (.int .i64 0) := cells_of mr 1
  have f0 : w'.frozen? ⟨w.heap.size + 1, 0, none⟩ = false := unfrozen_of mr 0
  have f1 : w'.frozen? ⟨w.heap.size + 1, 1, none⟩ = false := unfrozen_of mr 1
  go_wp2_with fail
  exact bodyPost_ret (v := .tuple #[(Value.agg #[.int .i64 16, .int .i64 5]), .int .i64 0]) (by simp [results, Tryz.results18, go_sem, r0, r1]) rfl
    ⟨rfl, hbb.grown (set2_grown _ _ _ _) hbb.size (fun k hk => by injection hk with hk; omega)⟩

end Go.Proofs.YtpjgoogeokbaaaaGreatDoor
