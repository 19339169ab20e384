/- Part 8 of the texts beneath a law of layer 1: RtCmp, RatV, RatF, RtOf, RatC, RatD, Pv, SbT, SbU, RatM, Simp. -/
import Derived.Test.YtfbcdfoohpkfeaaDoorCs7
/- Two quotients compared. -/
namespace Go.Proofs.YtfbcdfoohpkfeaaDoor
open Go.RowKit

/-- Function F tells of the quotients x and y the number o. -/
def OpC (w : World) (F : Nat) (x y : Rat) (o : Int) : Prop := ∀ (s1 : Int) (neg1 : Bool) (A1 : Option Addr) (c1 : Nat) (l1 : List Nat) (s2 : Int) (neg2 : Bool) (A2 : Option Addr) (c2 : Nat) (l2 : List Nat) (s3 : Int) (neg3 : Bool) (A3 : Option Addr) (c3 : Nat) (l3 : List Nat) (s4 : Int) (neg4 : Bool) (A4 : Option Addr) (c4 : Nat) (l4 : List Nat) (W : World), Below w.heap.size w W → IntF W s1 neg1 A1 c1 l1 x.num → IntF W s2 neg2 A2 c2 l2 (x.den : Int) → IntF W s3 neg3 A3 c3 l3 y.num → IntF W s4 neg4 A4 c4 l4 (y.den : Int) → Calls Tryd.prog F #[(Value.agg #[.int .i64 s1, .bool neg1, .slice A1 l1.length c1, .int .i64 s2, .bool neg2, .slice A2 l2.length c2]), (Value.agg #[.int .i64 s3, .bool neg3, .slice A3 l3.length c3, .int .i64 s4, .bool neg4, .slice A4 l4.length c4])] W fun e w' => e = .returned (.int .i64 o) ∧ Below W.heap.size W w'
set_option maxRecDepth 100000 in
set_option maxHeartbeats 16000000 in
theorem rcmp_walk (s1 : Int) (neg1 : Bool) (A1 : Option Addr) (c1 : Nat) (l1 : List Nat) (s2 : Int) (neg2 : Bool) (A2 : Option Addr) (c2 : Nat) (l2 : List Nat) (s3 : Int) (neg3 : Bool) (A3 : Option Addr) (c3 : Nat) (l3 : List Nat) (s4 : Int) (neg4 : Bool) (A4 : Option Addr) (c4 : Nat) (l4 : List Nat) (z1 z2 z3 z4 m1 m2 : Int) (w : World) (f1 : IntF w s1 neg1 A1 c1 l1 z1) (f2 : IntF w s2 neg2 A2 c2 l2 z2) (f3 : IntF w s3 neg3 A3 c3 l3 z3) (f4 : IntF w s4 neg4 A4 c4 l4 z4) (g1 : Op2 w 59 z1 z4 m1) (g2 : Op2 w 59 z3 z2 m2) :
    Calls Tryd.prog 28 #[(Value.agg #[.int .i64 s1, .bool neg1, .slice A1 l1.length c1, .int .i64 s2, .bool neg2, .slice A2 l2.length c2]), (Value.agg #[.int .i64 s3, .bool neg3, .slice A3 l3.length c3, .int .i64 s4, .bool neg4, .slice A4 l4.length c4])] w fun e w' => e = .returned (.int .i64 (sgn (m1 - m2))) ∧ Below w.heap.size w w' := by
  have H1 := hide f1
  have H2 := hide f2
  have H3 := hide f3
  have H4 := hide f4
  have HG1 := hide g1
  have HG2 := hide g2
  obtain ⟨o, ho⟩ : ∃ o, o = sgn (m1 - m2) := ⟨_, rfl⟩
  have HCM := hide (fun (s5 : Int) (neg5 : Bool) (A5 : Option Addr) (c5 : Nat) (l5 : List Nat) (s6 : Int) (neg6 : Bool) (A6 : Option Addr) (c6 : Nat) (l6 : List Nat) (W : World) (f5 : IntF W s5 neg5 A5 c5 l5 m1) (f6 : IntF W s6 neg6 A6 c6 l6 m2) => (show Calls Tryd.prog 60 #[(Value.agg #[.int .i64 s5, .bool neg5, .slice A5 l5.length c5]), (Value.agg #[.int .i64 s6, .bool neg6, .slice A6 l6.length c6])] W fun e w' => e = .returned (.int .i64 o) ∧ Below W.heap.size W w' by rw [ho]; exact icmp_any s5 neg5 A5 c5 l5 m1 s6 neg6 A6 c6 l6 m2 W f5 f6))
  rw [← ho]
  clear f1 f2 f3 f4 g1 g2 ho
  go_enter Tryd.func28, Tryd.ntmps28
  go_wp2_with fail
  obtain ⟨n0_, n1_, hsz, hw0⟩ := two_new w (.cells #[.int .i64 s1, .bool neg1, .slice A1 l1.length c1, .int .i64 s2, .bool neg2, .slice A2 l2.length c2] 48) (.cells #[.int .i64 s3, .bool neg3, .slice A3 l3.length c3, .int .i64 s4, .bool neg4, .slice A4 l4.length c4] 48)
  generalize ((w.alloc (.cells #[.int .i64 s1, .bool neg1, .slice A1 l1.length c1, .int .i64 s2, .bool neg2, .slice A2 l2.length c2] 48)).alloc (.cells #[.int .i64 s3, .bool neg3, .slice A3 l3.length c3, .int .i64 s4, .bool neg4, .slice A4 l4.length c4] 48)) = W0 at *
  have k0_0 : W0.cell? ⟨w.heap.size, 0, none⟩ = some (.int .i64 s1) := cells_of n0_ 0
  have k0_1 : W0.cell? ⟨w.heap.size, 1, none⟩ = some (.bool neg1) := cells_of n0_ 1
  have k0_2 : W0.cell? ⟨w.heap.size, 2, none⟩ = some (.slice A1 l1.length c1) := cells_of n0_ 2
  have k0_3 : W0.cell? ⟨w.heap.size, 3, none⟩ = some (.int .i64 s2) := cells_of n0_ 3
  have k0_4 : W0.cell? ⟨w.heap.size, 4, none⟩ = some (.bool neg2) := cells_of n0_ 4
  have k0_5 : W0.cell? ⟨w.heap.size, 5, none⟩ = some (.slice A2 l2.length c2) := cells_of n0_ 5
  have k1_0 : W0.cell? ⟨w.heap.size + 1, 0, none⟩ = some (.int .i64 s3) := cells_of n1_ 0
  have k1_1 : W0.cell? ⟨w.heap.size + 1, 1, none⟩ = some (.bool neg3) := cells_of n1_ 1
  have k1_2 : W0.cell? ⟨w.heap.size + 1, 2, none⟩ = some (.slice A3 l3.length c3) := cells_of n1_ 2
  have k1_3 : W0.cell? ⟨w.heap.size + 1, 3, none⟩ = some (.int .i64 s4) := cells_of n1_ 3
  have k1_4 : W0.cell? ⟨w.heap.size + 1, 4, none⟩ = some (.bool neg4) := cells_of n1_ 4
  have k1_5 : W0.cell? ⟨w.heap.size + 1, 5, none⟩ = some (.slice A4 l4.length c4) := cells_of n1_ 5
  have q0 : w.heap.size < W0.heap.size := by omega
  have q1 : w.heap.size + 1 < W0.heap.size := by omega
  clear n0_ n1_ hsz
  replace H1 := hide ((unhide H1).below hw0)
  replace H2 := hide ((unhide H2).below hw0)
  replace H3 := hide ((unhide H3).below hw0)
  replace H4 := hide ((unhide H4).below hw0)
  have KEEP := hide (show ∀ X, Below W0.heap.size W0 X → X.cell? ⟨w.heap.size, 0, none⟩ = some (.int .i64 s1) ∧ X.cell? ⟨w.heap.size, 1, none⟩ = some (.bool neg1) ∧ X.cell? ⟨w.heap.size, 2, none⟩ = some (.slice A1 l1.length c1) ∧ X.cell? ⟨w.heap.size, 3, none⟩ = some (.int .i64 s2) ∧ X.cell? ⟨w.heap.size, 4, none⟩ = some (.bool neg2) ∧ X.cell? ⟨w.heap.size, 5, none⟩ = some (.slice A2 l2.length c2) ∧ X.cell? ⟨w.heap.size + 1, 0, none⟩ = some (.int .i64 s3) ∧ X.cell? ⟨w.heap.size + 1, 1, none⟩ = some (.bool neg3) ∧ X.cell? ⟨w.heap.size + 1, 2, none⟩ = some (.slice A3 l3.length c3) ∧ X.cell? ⟨w.heap.size + 1, 3, none⟩ = some (.int .i64 s4) ∧ X.cell? ⟨w.heap.size + 1, 4, none⟩ = some (.bool neg4) ∧ X.cell? ⟨w.heap.size + 1, 5, none⟩ = some (.slice A4 l4.length c4) from fun X hX => ⟨keep_cell hX q0 k0_0, keep_cell hX q0 k0_1, keep_cell hX q0 k0_2, keep_cell hX q0 k0_3, keep_cell hX q0 k0_4, keep_cell hX q0 k0_5, keep_cell hX q1 k1_0, keep_cell hX q1 k1_1, keep_cell hX q1 k1_2, keep_cell hX q1 k1_3, keep_cell hX q1 k1_4, keep_cell hX q1 k1_5⟩)
  go_region_held3 (fun w' => w'.cell? ⟨w.heap.size, 0, none⟩ = some (.int .i64 s1) ∧ w'.cell? ⟨w.heap.size, 1, none⟩ = some (.bool neg1) ∧ w'.cell? ⟨w.heap.size, 2, none⟩ = some (.slice A1 l1.length c1) ∧ w'.cell? ⟨w.heap.size, 3, none⟩ = some (.int .i64 s2) ∧ w'.cell? ⟨w.heap.size, 4, none⟩ = some (.bool neg2) ∧ w'.cell? ⟨w.heap.size, 5, none⟩ = some (.slice A2 l2.length c2) ∧ w'.cell? ⟨w.heap.size + 1, 0, none⟩ = some (.int .i64 s3) ∧ w'.cell? ⟨w.heap.size + 1, 1, none⟩ = some (.bool neg3) ∧ w'.cell? ⟨w.heap.size + 1, 2, none⟩ = some (.slice A3 l3.length c3) ∧ w'.cell? ⟨w.heap.size + 1, 3, none⟩ = some (.int .i64 s4) ∧ w'.cell? ⟨w.heap.size + 1, 4, none⟩ = some (.bool neg4) ∧ w'.cell? ⟨w.heap.size + 1, 5, none⟩ = some (.slice A4 l4.length c4)) (exact (unhide KEEP) _ (by (repeat (first | with_reducible exact Below.refl _ _ | with_reducible assumption | with_reducible refine Below.drew ?_ | with_reducible refine below_alloc ?_ _)))) (first | (go_at_call_of 59 (Value.agg #[.int .i64 s1, .bool neg1, .slice A1 l1.length c1]); refine ((unhide HG1) s1 neg1 A1 c1 l1 s4 neg4 A4 c4 l4 _ (below_step' hw0 (by (repeat (first | with_reducible exact Below.refl _ _ | with_reducible assumption | with_reducible refine Below.drew ?_ | with_reducible refine below_alloc ?_ _)))) (IntF.below (unhide H1) (by (repeat (first | with_reducible exact Below.refl _ _ | with_reducible assumption | with_reducible refine Below.drew ?_ | with_reducible refine below_alloc ?_ _)))) (IntF.below (unhide H4) (by (repeat (first | with_reducible exact Below.refl _ _ | with_reducible assumption | with_reducible refine Below.drew ?_ | with_reducible refine below_alloc ?_ _))))).mono ?_; rintro e w' ⟨s5, neg5, A5, c5, l5, rfl, hf5, hb5⟩; have hbw := below_step (w := W0) (by (repeat (first | with_reducible exact Below.refl _ _ | with_reducible assumption | with_reducible refine Below.drew ?_ | with_reducible refine below_alloc ?_ _))) hb5; have hsw := hbw.size; obtain ⟨hc, hfz⟩ := bcell hbw) | (go_at_call_of 59 (Value.agg #[.int .i64 s3, .bool neg3, .slice A3 l3.length c3]); refine ((unhide HG2) s3 neg3 A3 c3 l3 s2 neg2 A2 c2 l2 _ (below_step' hw0 (by (repeat (first | with_reducible exact Below.refl _ _ | with_reducible assumption | with_reducible refine Below.drew ?_ | with_reducible refine below_alloc ?_ _)))) (IntF.below (unhide H3) (by (repeat (first | with_reducible exact Below.refl _ _ | with_reducible assumption | with_reducible refine Below.drew ?_ | with_reducible refine below_alloc ?_ _)))) (IntF.below (unhide H2) (by (repeat (first | with_reducible exact Below.refl _ _ | with_reducible assumption | with_reducible refine Below.drew ?_ | with_reducible refine below_alloc ?_ _))))).mono ?_; rintro e w' ⟨s6, neg6, A6, c6, l6, rfl, hf6, hb6⟩; have hf5 := IntF.below (IntF.below hf5 (by (repeat (first | with_reducible exact Below.refl _ _ | with_reducible assumption | with_reducible refine Below.drew ?_ | with_reducible refine below_alloc ?_ _)))) hb6; have hbw := below_step (w := W0) (by (repeat (first | with_reducible exact Below.refl _ _ | with_reducible assumption | with_reducible refine Below.drew ?_ | with_reducible refine below_alloc ?_ _))) hb6; have hsw := hbw.size; obtain ⟨hc, hfz⟩ := bcell hbw) | (go_at_call_of 60 (Value.agg #[.int .i64 s5, .bool neg5, .slice A5 l5.length c5]); refine ((unhide HCM) s5 neg5 A5 c5 l5 s6 neg6 A6 c6 l6 _ (IntF.below hf5 (by (repeat (first | with_reducible exact Below.refl _ _ | with_reducible assumption | with_reducible refine Below.drew ?_ | with_reducible refine below_alloc ?_ _)))) (IntF.below hf6 (by (repeat (first | with_reducible exact Below.refl _ _ | with_reducible assumption | with_reducible refine Below.drew ?_ | with_reducible refine below_alloc ?_ _))))).mono ?_; rintro e w' ⟨rfl, hb7⟩; have hbw := below_step (w := W0) (by (repeat (first | with_reducible exact Below.refl _ _ | with_reducible assumption | with_reducible refine Below.drew ?_ | with_reducible refine below_alloc ?_ _))) hb7; have hsw := hbw.size; obtain ⟨hc, hfz⟩ := bcell hbw))
  all_goals
    have hb9 : Below w.heap.size w w' := below_step' hw0 hbw
    go_wp2_with fail
    exact bodyPost_ret (v := .int .i64 o) (by simp [results, Tryd.results28, go_sem]) rfl ⟨rfl, hb9⟩
theorem opc_cmp (w : World) {K : Nat} (x y : Rat) (hx : SzQ K x) (hy : SzQ K y) (hK : K ≤ lim) : OpC w 28 x y (sgn (x.num * y.den - y.num * x.den)) :=
  fun s1 neg1 A1 c1 l1 s2 neg2 A2 c2 l2 s3 neg3 A3 c3 l3 s4 neg4 A4 c4 l4 W hW f1 f2 f3 f4 => rcmp_walk s1 neg1 A1 c1 l1 s2 neg2 A2 c2 l2 s3 neg3 A3 c3 l3 s4 neg4 A4 c4 l4 x.num (x.den : Int) y.num (y.den : Int) _ _ W f1 f2 f3 f4 (op_mul hx.1 hy.2 hK rfl) (op_mul hy.1 hx.2 hK rfl)

end Go.Proofs.YtfbcdfoohpkfeaaDoor
/- Which numbers there are: the program's own check. -/
namespace Go.Proofs.YtfbcdfoohpkfeaaDoor
open Go.RowKit

/-- What the check tells. -/
def valE (n d : Int) : Int := if Wd.okR n d then 0 else 1

set_option maxRecDepth 100000 in
set_option maxHeartbeats 2000000 in
theorem val_bad1 (n d : Int) (h1 : d < 1) (w : World) :
    Calls Tryd.prog 10 #[.agg #[.int .i64 n, .int .i64 d]] w fun e w' => e = .returned (.int .i64 1) ∧ Below w.heap.size w w' := by
  have d1 : decide (d < 1) = true := decide_eq_true (by omega)
  clear h1
  go_enter Tryd.func10, Tryd.ntmps10
  go_wp2
  go_ret
  exact ⟨rfl, (Below.refl _ _).alloc (Nat.le_refl _) _⟩
set_option maxRecDepth 100000 in
set_option maxHeartbeats 2000000 in
theorem val_bad2 (n d : Int) (h1 : ¬ d < 1) (h2 : 1000000000000 < d) (w : World) :
    Calls Tryd.prog 10 #[.agg #[.int .i64 n, .int .i64 d]] w fun e w' => e = .returned (.int .i64 1) ∧ Below w.heap.size w w' := by
  have d1 : decide (d < 1) = false := decide_eq_false (by omega)
  have d2 : decide (1000000000000 < d) = true := decide_eq_true (by omega)
  clear h1 h2
  go_enter Tryd.func10, Tryd.ntmps10
  go_wp2
  go_ret
  exact ⟨rfl, (Below.refl _ _).alloc (Nat.le_refl _) _⟩
set_option maxRecDepth 100000 in
set_option maxHeartbeats 2000000 in
theorem val_bad3 (n d : Int) (h1 : ¬ d < 1) (h2 : ¬ 1000000000000 < d) (h3 : n < -1000000000000) (w : World) :
    Calls Tryd.prog 10 #[.agg #[.int .i64 n, .int .i64 d]] w fun e w' => e = .returned (.int .i64 1) ∧ Below w.heap.size w w' := by
  have d1 : decide (d < 1) = false := decide_eq_false (by omega)
  have d2 : decide (1000000000000 < d) = false := decide_eq_false (by omega)
  have d3 : decide (n < -1000000000000) = true := decide_eq_true (by omega)
  clear h1 h2 h3
  go_enter Tryd.func10, Tryd.ntmps10
  go_wp2
  go_ret
  exact ⟨rfl, (Below.refl _ _).alloc (Nat.le_refl _) _⟩
set_option maxRecDepth 100000 in
set_option maxHeartbeats 2000000 in
theorem val_bad4 (n d : Int) (h1 : ¬ d < 1) (h2 : ¬ 1000000000000 < d) (h3 : ¬ n < -1000000000000) (h4 : 1000000000000 < n) (w : World) :
    Calls Tryd.prog 10 #[.agg #[.int .i64 n, .int .i64 d]] w fun e w' => e = .returned (.int .i64 1) ∧ Below w.heap.size w w' := by
  have d1 : decide (d < 1) = false := decide_eq_false (by omega)
  have d2 : decide (1000000000000 < d) = false := decide_eq_false (by omega)
  have d3 : decide (n < -1000000000000) = false := decide_eq_false (by omega)
  have d4 : decide (1000000000000 < n) = true := decide_eq_true (by omega)
  clear h1 h2 h3 h4
  go_enter Tryd.func10, Tryd.ntmps10
  go_wp2
  go_ret
  exact ⟨rfl, (Below.refl _ _).alloc (Nat.le_refl _) _⟩
set_option maxRecDepth 100000 in
set_option maxHeartbeats 2000000 in
theorem val_ok (n d : Int) (h1 : ¬ d < 1) (h2 : ¬ 1000000000000 < d) (h3 : ¬ n < -1000000000000) (h4 : ¬ 1000000000000 < n) (h5 : n.natAbs.gcd d.natAbs = 1) (w : World) (hT : Tab w) :
    Calls Tryd.prog 10 #[.agg #[.int .i64 n, .int .i64 d]] w fun e w' => e = .returned (.int .i64 0) ∧ Below w.heap.size w w' := by
  have d1 : decide (d < 1) = false := decide_eq_false (by omega)
  have d2 : decide (1000000000000 < d) = false := decide_eq_false (by omega)
  have d3 : decide (n < -1000000000000) = false := decide_eq_false (by omega)
  have d4 : decide (1000000000000 < n) = false := decide_eq_false (by omega)
  have e1 : wrap64 (-n) = -n := IntWalk.wrap64_in _ (by omega)
  have e1' : IntKind.i64.wrap (-n) = -n := IntWalk.i64_in _ (by omega)
  obtain ⟨a, ha⟩ : ∃ a, a = n.natAbs := ⟨_, rfl⟩
  obtain ⟨b, hb⟩ : ∃ b, b = d.natAbs := ⟨_, rfl⟩
  have e2 : max n (-n) = ((a : Nat) : Int) := by omega
  have e3 : IntKind.u64.wrap ((a : Nat) : Int) = ((a : Nat) : Int) := by rw [IntKind.wrap_u64]; omega
  have e4 : IntKind.u64.wrap d = ((b : Nat) : Int) := by rw [IntKind.wrap_u64]; omega
  rw [← ha, ← hb] at h5
  have HG := hide (fun W (hW : Tab W) => gcd64_any a b (by rw [B64_eq]; omega) (by rw [B64_eq]; omega) W hW)
  have HT := hide hT
  obtain ⟨g, hg⟩ : ∃ g, g = a.gcd b := ⟨_, rfl⟩
  rw [← hg] at h5 HG
  have d5 : ((g : Int) == 1) = true := beq_iff_eq.2 (by omega)
  have d6 : ((g : Int) != 1) = false := by simp [bne, d5]
  clear h1 h2 h3 h4 h5 ha hb hg hT
  go_enter Tryd.func10, Tryd.ntmps10
  go_wp2_with fail
  refine ((unhide HG) _ ((unhide HT).alloc _)).mono ?_
  rintro e w' ⟨rfl, rfl⟩
  go_wp2
  go_ret
  exact ⟨rfl, (Below.refl _ _).alloc (Nat.le_refl _) _⟩
set_option maxRecDepth 100000 in
set_option maxHeartbeats 2000000 in
theorem val_bad5 (n d : Int) (h1 : ¬ d < 1) (h2 : ¬ 1000000000000 < d) (h3 : ¬ n < -1000000000000) (h4 : ¬ 1000000000000 < n) (h5 : ¬ n.natAbs.gcd d.natAbs = 1) (w : World) (hT : Tab w) :
    Calls Tryd.prog 10 #[.agg #[.int .i64 n, .int .i64 d]] w fun e w' => e = .returned (.int .i64 1) ∧ Below w.heap.size w w' := by
  have d1 : decide (d < 1) = false := decide_eq_false (by omega)
  have d2 : decide (1000000000000 < d) = false := decide_eq_false (by omega)
  have d3 : decide (n < -1000000000000) = false := decide_eq_false (by omega)
  have d4 : decide (1000000000000 < n) = false := decide_eq_false (by omega)
  have e1 : wrap64 (-n) = -n := IntWalk.wrap64_in _ (by omega)
  have e1' : IntKind.i64.wrap (-n) = -n := IntWalk.i64_in _ (by omega)
  obtain ⟨a, ha⟩ : ∃ a, a = n.natAbs := ⟨_, rfl⟩
  obtain ⟨b, hb⟩ : ∃ b, b = d.natAbs := ⟨_, rfl⟩
  have e2 : max n (-n) = ((a : Nat) : Int) := by omega
  have e3 : IntKind.u64.wrap ((a : Nat) : Int) = ((a : Nat) : Int) := by rw [IntKind.wrap_u64]; omega
  have e4 : IntKind.u64.wrap d = ((b : Nat) : Int) := by rw [IntKind.wrap_u64]; omega
  rw [← ha, ← hb] at h5
  have HG := hide (fun W (hW : Tab W) => gcd64_any a b (by rw [B64_eq]; omega) (by rw [B64_eq]; omega) W hW)
  have HT := hide hT
  obtain ⟨g, hg⟩ : ∃ g, g = a.gcd b := ⟨_, rfl⟩
  rw [← hg] at h5 HG
  have d5 : ((g : Int) == 1) = false := beq_eq_false_iff_ne.2 (by omega)
  have d6 : ((g : Int) != 1) = true := by simp [bne, d5]
  clear h1 h2 h3 h4 h5 ha hb hg hT
  go_enter Tryd.func10, Tryd.ntmps10
  go_wp2_with fail
  refine ((unhide HG) _ ((unhide HT).alloc _)).mono ?_
  rintro e w' ⟨rfl, rfl⟩
  go_wp2
  go_ret
  exact ⟨rfl, (Below.refl _ _).alloc (Nat.le_refl _) _⟩
theorem val_any (n d : Int) (w : World) (hT : Tab w) :
    Calls Tryd.prog 10 #[.agg #[.int .i64 n, .int .i64 d]] w fun e w' => e = .returned (.int .i64 (valE n d)) ∧ Below w.heap.size w w' := by
  unfold valE
  by_cases h1 : d < 1
  · rw [if_neg (by unfold Wd.okR; omega)]; exact val_bad1 n d h1 w
  by_cases h2 : 1000000000000 < d
  · rw [if_neg (by unfold Wd.okR; omega)]; exact val_bad2 n d h1 h2 w
  by_cases h3 : n < -1000000000000
  · rw [if_neg (by unfold Wd.okR; omega)]; exact val_bad3 n d h1 h2 h3 w
  by_cases h4 : 1000000000000 < n
  · rw [if_neg (by unfold Wd.okR; omega)]; exact val_bad4 n d h1 h2 h3 h4 w
  by_cases h5 : n.natAbs.gcd d.natAbs = 1
  · rw [if_pos (by unfold Wd.okR; omega)]; exact val_ok n d h1 h2 h3 h4 h5 w hT
  · rw [if_neg (by unfold Wd.okR; omega)]; exact val_bad5 n d h1 h2 h3 h4 h5 w hT
end Go.Proofs.YtfbcdfoohpkfeaaDoor
/- The first error of two numbers. -/
namespace Go.Proofs.YtfbcdfoohpkfeaaDoor
open Go.RowKit

/-- What is told of two numbers. -/
def fstE (n1 d1 n2 d2 : Int) : Int := if Wd.okR n1 d1 ∧ Wd.okR n2 d2 then 0 else 1

set_option maxRecDepth 100000 in
set_option maxHeartbeats 2000000 in
theorem first_any (n1 d1 n2 d2 : Int) (g : Nat) (w : World) (hT : Tab w) (hg : g < w.heap.size)
    (k0 : w.cell? ⟨g, 0, none⟩ = some (.int .i64 n1)) (k1 : w.cell? ⟨g, 1, none⟩ = some (.int .i64 d1)) (k2 : w.cell? ⟨g, 2, none⟩ = some (.int .i64 n2)) (k3 : w.cell? ⟨g, 3, none⟩ = some (.int .i64 d2)) :
    Calls Tryd.prog 26 #[.slice (some ⟨g, 0, none⟩) 2 2] w fun e w' => e = .returned (.int .i64 (fstE n1 d1 n2 d2)) ∧ Below w.heap.size w w' := by
  have HT := hide hT
  have HK := hide (And.intro k0 (And.intro k1 (And.intro k2 k3)))
  obtain ⟨r, hr⟩ : ∃ r, r = fstE n1 d1 n2 d2 := ⟨_, rfl⟩
  rw [← hr]
  have HR := Lib.hid hr
  have HV1 := hide (fun W (hW : Tab W) => val_any n1 d1 W hW)
  have HV2 := hide (fun W (hW : Tab W) => val_any n2 d2 W hW)
  clear hT hr k0 k1 k2 k3
  go_enter Tryd.func26, Tryd.ntmps26
  go_wp2
  go_loopw [8] (fun iv wr => ∃ i : Nat, i ≤ 2 ∧ iv = .int .i64 ((i : Nat) : Int) ∧ Hid (0 < i → Wd.okR n1 d1) ∧ Hid (1 < i → Wd.okR n2 d2) ∧ Below w.heap.size w wr) (fun iv _ => 2 - (intOf iv).toNat)
  case atStart => exact ⟨0, by omega, rfl, fun h => by omega, fun h => by omega, Below.refl _ _⟩
  case round =>
    obtain ⟨i, hi, rfl, h1, h2, hb⟩ := hrel
    have hTr : Tab wr := (unhide HT).below hb
    have kk : ∀ o v, w.cell? ⟨g, o, none⟩ = some v → wr.cell? ⟨g, o, none⟩ = some v := fun o v hv => (hb.cell (p := ⟨g, o, none⟩) hg).trans hv
    have k0 := kk _ _ (unhide HK).1
    have k1 := kk _ _ (unhide HK).2.1
    have k2 := kk _ _ (unhide HK).2.2.1
    have k3 := kk _ _ (unhide HK).2.2.2
    have HTr := hide hTr
    clear kk hTr hg
    by_cases i2 : i = 2
    · subst i2
      have hr : r = 0 := by rw [HR.out]; unfold fstE; rw [if_pos ⟨(unhide h1) (by omega), (unhide h2) (by omega)⟩]
      subst hr
      go_wp2
      go_ret
      exact ⟨rfl, hb⟩
    by_cases i1 : i = 1
    · subst i1
      by_cases ok : Wd.okR n2 d2
      · have hv : valE n2 d2 = 0 := if_pos ok
        rw [hv] at HV2
        clear i2 hi hv
        go_wp2_with fail
        refine ((unhide HV2) _ (by first | exact (unhide HTr).alloc _ | exact ((unhide HTr).alloc _).alloc _ | exact (unhide HTr).drew.alloc _)).mono ?_
        rintro e w' ⟨rfl, hb2⟩
        have hb3 : Below w.heap.size w w' := below_step' (hb.alloc hb.size _) hb2
        go_wp2
        go_roundw
        case rel => exact ⟨2, by omega, by go_num, fun _ => (unhide h1) (by omega), fun _ => ok, hb3⟩
        case measure => simp [intOf]
      · have hv : valE n2 d2 = 1 := if_neg ok
        have hr : r = 1 := by rw [HR.out]; unfold fstE; rw [if_neg (fun h => ok h.2)]
        subst hr
        rw [hv] at HV2
        clear i2 hi hv
        go_wp2_with fail
        refine ((unhide HV2) _ (by first | exact (unhide HTr).alloc _ | exact ((unhide HTr).alloc _).alloc _ | exact (unhide HTr).drew.alloc _)).mono ?_
        rintro e w' ⟨rfl, hb2⟩
        have hb3 : Below w.heap.size w w' := below_step' (hb.alloc hb.size _) hb2
        go_wp2
        go_ret
        exact ⟨rfl, hb3⟩
    · have i0 : i = 0 := by omega
      subst i0
      by_cases ok : Wd.okR n1 d1
      · have hv : valE n1 d1 = 0 := if_pos ok
        rw [hv] at HV1
        clear i1 i2 hi hv
        go_wp2_with fail
        refine ((unhide HV1) _ (by first | exact (unhide HTr).alloc _ | exact ((unhide HTr).alloc _).alloc _ | exact (unhide HTr).drew.alloc _)).mono ?_
        rintro e w' ⟨rfl, hb2⟩
        have hb3 : Below w.heap.size w w' := below_step' (hb.alloc hb.size _) hb2
        go_wp2
        go_roundw
        case rel => exact ⟨1, by omega, by go_num, fun _ => ok, fun h => by omega, hb3⟩
        case measure => simp [intOf]
      · have hv : valE n1 d1 = 1 := if_neg ok
        have hr : r = 1 := by rw [HR.out]; unfold fstE; rw [if_neg (fun h => ok h.1)]
        subst hr
        rw [hv] at HV1
        clear i1 i2 hi hv
        go_wp2_with fail
        refine ((unhide HV1) _ (by first | exact (unhide HTr).alloc _ | exact ((unhide HTr).alloc _).alloc _ | exact (unhide HTr).drew.alloc _)).mono ?_
        rintro e w' ⟨rfl, hb2⟩
        have hb3 : Below w.heap.size w w' := below_step' (hb.alloc hb.size _) hb2
        go_wp2
        go_ret
        exact ⟨rfl, hb3⟩
end Go.Proofs.YtfbcdfoohpkfeaaDoor
/- A number as a quotient. -/
namespace Go.Proofs.YtfbcdfoohpkfeaaDoor
open Go.RowKit

set_option maxRecDepth 100000 in
set_option maxHeartbeats 8000000 in
theorem rof_any (n d : Int) (w : World) (b1 : -9223372036854775808 ≤ n) (b2 : n ≤ 9223372036854775807) (b3 : -9223372036854775808 ≤ d) (b4 : d ≤ 9223372036854775807) :
    Calls Tryd.prog 27 #[(.agg #[.int .i64 n, .int .i64 d])] w fun e w' => PairR w n d e w' := by
  have HN1 := hide (fun W => newInt_any n b1 b2 W)
  have HN2 := hide (fun W => newInt_any d b3 b4 W)
  clear b1 b2 b3 b4
  go_enter Tryd.func27, Tryd.ntmps27
  go_wp2_with fail
  obtain ⟨n0, n1, hsz, hw0⟩ := two_new w (.cells #[.int .i64 n, .int .i64 d] 23) (.cells #[.int .i64 0, .bool false, .slice none 0 0, .int .i64 0, .bool false, .slice none 0 0] 48)
  generalize ((w.alloc (.cells #[.int .i64 n, .int .i64 d] 23)).alloc (.cells #[.int .i64 0, .bool false, .slice none 0 0, .int .i64 0, .bool false, .slice none 0 0] 48)) = W0 at *
  have k0_0 : W0.cell? ⟨w.heap.size, 0, none⟩ = some (.int .i64 n) := cells_of n0 0
  have k0_1 : W0.cell? ⟨w.heap.size, 1, none⟩ = some (.int .i64 d) := cells_of n0 1
  have q0 : w.heap.size < W0.heap.size := by omega
  have k1_0 : W0.cell? ⟨w.heap.size + 1, 0, none⟩ = some (.int .i64 0) := cells_of n1 0
  have k1_1 : W0.cell? ⟨w.heap.size + 1, 1, none⟩ = some (.bool false) := cells_of n1 1
  have k1_2 : W0.cell? ⟨w.heap.size + 1, 2, none⟩ = some (.slice none 0 0) := cells_of n1 2
  have k1_3 : W0.cell? ⟨w.heap.size + 1, 3, none⟩ = some (.int .i64 0) := cells_of n1 3
  have k1_4 : W0.cell? ⟨w.heap.size + 1, 4, none⟩ = some (.bool false) := cells_of n1 4
  have k1_5 : W0.cell? ⟨w.heap.size + 1, 5, none⟩ = some (.slice none 0 0) := cells_of n1 5
  have q1 : w.heap.size + 1 < W0.heap.size := by omega
  have f1_0 := unfrozen_of n1 0
  have f1_1 := unfrozen_of n1 1
  have f1_2 := unfrozen_of n1 2
  have f1_3 := unfrozen_of n1 3
  have f1_4 := unfrozen_of n1 4
  have f1_5 := unfrozen_of n1 5
  have NR := Lib.hid n1
  clear n0 n1
  go_region_held3 (fun w' => w'.cell? ⟨w.heap.size, 0, none⟩ = some (.int .i64 n) ∧ w'.cell? ⟨w.heap.size, 1, none⟩ = some (.int .i64 d)) ((first | with_reducible exact ⟨(hc _ _ q0).trans k0_0, (hc _ _ q0).trans k0_1⟩ | with_reducible exact ⟨k0_0, k0_1⟩ | with_reducible exact ⟨(cell_set6 _ _ _ _ _ _ _ _ (by omega)).trans ((hc _ _ q0).trans k0_0), (cell_set6 _ _ _ _ _ _ _ _ (by omega)).trans ((hc _ _ q0).trans k0_1)⟩ | exact ⟨(hc _ _ q0).trans k0_0, (hc _ _ q0).trans k0_1⟩ | exact ⟨k0_0, k0_1⟩ | exact ⟨(cell_set6 _ _ _ _ _ _ _ _ (by omega)).trans ((hc _ _ q0).trans k0_0), (cell_set6 _ _ _ _ _ _ _ _ (by omega)).trans ((hc _ _ q0).trans k0_1)⟩)) (first | (go_at_call 22; refine ((unhide HN1) _).mono ?_; clear HN1; rintro e w' ⟨s5, neg5, A5, c5, l5, rfl, hf5, hb⟩; have hbw := below_step (w := W0) (by (first | assumption | (repeat (first | exact Below.refl _ _ | assumption | refine Below.drew ?_ | (refine Below.alloc ?_ (by simp <;> omega) _))))) hb; obtain ⟨hc, hfz⟩ := bcell hbw) | (go_at_call 22; refine ((unhide HN2) _).mono ?_; rintro e w' ⟨s6, neg6, A6, c6, l6, rfl, hf6, hb⟩; have hf5 := hf5.below hb; have hbw := below_step (w := W0) (by (first | assumption | (repeat (first | exact Below.refl _ _ | assumption | refine Below.drew ?_ | (refine Below.alloc ?_ (by simp <;> omega) _))))) hb; obtain ⟨hc, hfz⟩ := bcell hbw))
  have hblk : w'.heap[w.heap.size + 1]? = some (.cells #[.int .i64 0, .bool false, .slice none 0 0, .int .i64 0, .bool false, .slice none 0 0] 48 (0, 0)) := (hbw.block _ q1).trans NR.out
  have HBLK := Lib.hid hblk
  have hb9 : Below w.heap.size w w' := below_step' hw0 hbw
  clear hblk
  go_wp2_with fail
  exact bodyPost_ret (v := (Value.agg #[.int .i64 s5, .bool neg5, .slice A5 l5.length c5, .int .i64 s6, .bool neg6, .slice A6 l6.length c6])) (by simp [results, Tryd.results27, go_sem, hc, k1_0, k1_1, k1_2, k1_3, k1_4, k1_5, q1]) rfl
    ⟨s5, neg5, A5, c5, l5, s6, neg6, A6, c6, l6, rfl, (hf5).upto HBLK.out (noWord6 _ _ _ _ _ _ _ _ _ _) (set6_grown _ _ _ _ _ _ _ _), (hf6).upto HBLK.out (noWord6 _ _ _ _ _ _ _ _ _ _) (set6_grown _ _ _ _ _ _ _ _), hb9.grown (set6_grown _ _ _ _ _ _ _ _) hb9.size (fun k hk => by injection hk with hk; omega)⟩

end Go.Proofs.YtfbcdfoohpkfeaaDoor
/- Two numbers put together: the errors ahead of it, and what is told. -/
namespace Go.Proofs.YtfbcdfoohpkfeaaDoor
open Go.RowKit

/-- What a call hands back: a number as it is told; what was there is as it was. -/
def TolR (w : World) (t : Wd.Told) (e : Ending) (w' : World) : Prop := e = .returned (.tuple #[.agg #[.int .i64 t.n, .int .i64 t.d], .int .i64 t.e]) ∧ Below w.heap.size w w'
set_option maxRecDepth 100000 in
set_option maxHeartbeats 16000000 in
theorem comb_add_bad (n1 d1 n2 d2 : Int) (w : World) (hT : Tab w) (hbad : ¬ (Wd.okR n1 d1 ∧ Wd.okR n2 d2)) :
    Calls Tryd.prog 36 #[(Value.agg #[.int .i64 n1, .int .i64 d1]), (Value.agg #[.int .i64 n2, .int .i64 d2]), Value.func (Fn.func 37) #[] #[]] w fun e w' => TolR w ⟨0, 0, 1⟩ e w' := by
  have HT := hide hT
  have HE := Lib.hid (show fstE n1 d1 n2 d2 = 1 from if_neg hbad)
  clear hT hbad
  go_enter Tryd.func36, Tryd.ntmps36
  go_wp2_with fail
  obtain ⟨n0_, n1_, n2_, hsz, hw0⟩ := three_new w (.cells #[.int .i64 n1, .int .i64 d1] 23) (.cells #[.int .i64 n2, .int .i64 d2] 23) (.cells #[.int .i64 0, .int .i64 0] 23)
  generalize (((w.alloc (.cells #[.int .i64 n1, .int .i64 d1] 23)).alloc (.cells #[.int .i64 n2, .int .i64 d2] 23)).alloc (.cells #[.int .i64 0, .int .i64 0] 23)) = W0 at *
  have k0_0 : W0.cell? ⟨w.heap.size, 0, none⟩ = some (.int .i64 n1) := cells_of n0_ 0
  have k0_1 : W0.cell? ⟨w.heap.size, 1, none⟩ = some (.int .i64 d1) := cells_of n0_ 1
  have q0 : w.heap.size < W0.heap.size := by omega
  have k1_0 : W0.cell? ⟨w.heap.size + 1, 0, none⟩ = some (.int .i64 n2) := cells_of n1_ 0
  have k1_1 : W0.cell? ⟨w.heap.size + 1, 1, none⟩ = some (.int .i64 d2) := cells_of n1_ 1
  have q1 : w.heap.size + 1 < W0.heap.size := by omega
  have k2_0 : W0.cell? ⟨w.heap.size + 1 + 1, 0, none⟩ = some (.int .i64 0) := cells_of n2_ 0
  have k2_1 : W0.cell? ⟨w.heap.size + 1 + 1, 1, none⟩ = some (.int .i64 0) := cells_of n2_ 1
  have q2 : w.heap.size + 1 + 1 < W0.heap.size := by omega
  have f2_0 := unfrozen_of n2_ 0
  have f2_1 := unfrozen_of n2_ 1
  have e3 : w.heap.size + 1 + 1 + 1 = W0.heap.size := by omega
  have e3' : w.heap.size + 3 = W0.heap.size := by omega
  clear hsz n0_ n1_ n2_
  try rw [e3]
  try rw [e3']
  clear e3 e3'
  have hnew := heap_alloc_new W0 (.cells #[.int .i64 n1, .int .i64 d1, .int .i64 n2, .int .i64 d2] 23)
  refine (first_any n1 d1 n2 d2 W0.heap.size _ (((unhide HT).below hw0).alloc _) (lt_of_block hnew) (cells_of hnew 0) (cells_of hnew 1) (cells_of hnew 2) (cells_of hnew 3)).mono ?_
  clear hnew
  rintro e W1 ⟨rfl, hb⟩
  have hbx := below_step' (w := W0) (below_alloc (Below.refl _ _) _) hb
  clear hb
  rw [HE.out]
  obtain ⟨hc, hfz⟩ := bcell hbx
  replace k0_0 := (hc _ _ q0).trans k0_0
  replace k0_1 := (hc _ _ q0).trans k0_1
  replace k1_0 := (hc _ _ q1).trans k1_0
  replace k1_1 := (hc _ _ q1).trans k1_1
  replace k2_0 := (hc _ _ q2).trans k2_0
  replace k2_1 := (hc _ _ q2).trans k2_1
  replace f2_0 := (hfz _ _ q2).trans f2_0
  replace f2_1 := (hfz _ _ q2).trans f2_1
  replace q0 := Nat.lt_of_lt_of_le q0 hbx.size
  replace q1 := Nat.lt_of_lt_of_le q1 hbx.size
  replace q2 := Nat.lt_of_lt_of_le q2 hbx.size
  replace hw0 := below_step' hw0 hbx
  clear hc hfz hbx
  go_wp2
  exact bodyPost_ret (v := .tuple #[.agg #[.int .i64 0, .int .i64 0], .int .i64 1]) (by simp [results, Tryd.results36, go_sem, k2_0, k2_1, q2]) rfl
    ⟨rfl, hw0.grown (set2_grown _ _ _ _) hw0.size (fun k hk => by injection hk with hk; omega)⟩
set_option maxRecDepth 100000 in
set_option maxHeartbeats 16000000 in
theorem comb_add_good (n1 d1 n2 d2 : Int) (w : World) (hT : Tab w) (ok : Wd.okR n1 d1 ∧ Wd.okR n2 d2) (q : Rat) (hop : OpQ2 w 37 (Wd.qR n1 d1) (Wd.qR n2 d2) q) :
    Calls Tryd.prog 36 #[(Value.agg #[.int .i64 n1, .int .i64 d1]), (Value.agg #[.int .i64 n2, .int .i64 d2]), Value.func (Fn.func 37) #[] #[]] w fun e w' => TolR w (Wd.told q) e w' := by
  have HT := hide hT
  have HE := Lib.hid (show fstE n1 d1 n2 d2 = 0 from if_pos ok)
  obtain ⟨e1, e2⟩ := Wd.qR_ok ok.1
  obtain ⟨e3, e4⟩ := Wd.qR_ok ok.2
  unfold OpQ2 at hop
  rw [e1, e2, e3, e4] at hop
  have HOP := hide hop
  obtain ⟨o1, o2⟩ := ok
  have HO1 := hide (fun W => rof_any n1 d1 W (by have := o1.2.2.1; omega) (by have := o1.2.2.2.1; omega) (by have := o1.1; omega) (by have := o1.2.1; omega))
  have HO2 := hide (fun W => rof_any n2 d2 W (by have := o2.2.2.1; omega) (by have := o2.2.2.2.1; omega) (by have := o2.1; omega) (by have := o2.2.1; omega))
  have HRT := hide (fun (s9 : Int) (neg9 : Bool) (A9 : Option Addr) (c9 : Nat) (l9 : List Nat) (s10 : Int) (neg10 : Bool) (A10 : Option Addr) (c10 : Nat) (l10 : List Nat) (W : World) (f9 : IntF W s9 neg9 A9 c9 l9 q.num) (f10 : IntF W s10 neg10 A10 c10 l10 (q.den : Int)) => rrat_any s9 neg9 A9 c9 l9 q.num s10 neg10 A10 c10 l10 (q.den : Int) W f9 f10 q rfl rfl)
  obtain ⟨tn, htn⟩ : ∃ x, x = (Wd.told q).n := ⟨_, rfl⟩
  obtain ⟨td, htd⟩ : ∃ x, x = (Wd.told q).d := ⟨_, rfl⟩
  obtain ⟨te, hte⟩ : ∃ x, x = (Wd.told q).e := ⟨_, rfl⟩
  rw [← htn, ← htd, ← hte] at HRT
  have HTL := Lib.hid (show Wd.told q = ⟨tn, td, te⟩ by rw [htn, htd, hte])
  clear htn htd hte
  clear hT e1 e2 e3 e4 hop o1 o2
  go_enter Tryd.func36, Tryd.ntmps36
  go_wp2_with fail
  obtain ⟨n0_, n1_, n2_, hsz, hw0⟩ := three_new w (.cells #[.int .i64 n1, .int .i64 d1] 23) (.cells #[.int .i64 n2, .int .i64 d2] 23) (.cells #[.int .i64 0, .int .i64 0] 23)
  generalize (((w.alloc (.cells #[.int .i64 n1, .int .i64 d1] 23)).alloc (.cells #[.int .i64 n2, .int .i64 d2] 23)).alloc (.cells #[.int .i64 0, .int .i64 0] 23)) = W0 at *
  have k0_0 : W0.cell? ⟨w.heap.size, 0, none⟩ = some (.int .i64 n1) := cells_of n0_ 0
  have k0_1 : W0.cell? ⟨w.heap.size, 1, none⟩ = some (.int .i64 d1) := cells_of n0_ 1
  have q0 : w.heap.size < W0.heap.size := by omega
  have k1_0 : W0.cell? ⟨w.heap.size + 1, 0, none⟩ = some (.int .i64 n2) := cells_of n1_ 0
  have k1_1 : W0.cell? ⟨w.heap.size + 1, 1, none⟩ = some (.int .i64 d2) := cells_of n1_ 1
  have q1 : w.heap.size + 1 < W0.heap.size := by omega
  have k2_0 : W0.cell? ⟨w.heap.size + 1 + 1, 0, none⟩ = some (.int .i64 0) := cells_of n2_ 0
  have k2_1 : W0.cell? ⟨w.heap.size + 1 + 1, 1, none⟩ = some (.int .i64 0) := cells_of n2_ 1
  have q2 : w.heap.size + 1 + 1 < W0.heap.size := by omega
  have f2_0 := unfrozen_of n2_ 0
  have f2_1 := unfrozen_of n2_ 1
  have e3 : w.heap.size + 1 + 1 + 1 = W0.heap.size := by omega
  have e3' : w.heap.size + 3 = W0.heap.size := by omega
  clear hsz n0_ n1_ n2_
  try rw [e3]
  try rw [e3']
  clear e3 e3'
  have hnew := heap_alloc_new W0 (.cells #[.int .i64 n1, .int .i64 d1, .int .i64 n2, .int .i64 d2] 23)
  refine (first_any n1 d1 n2 d2 W0.heap.size _ (((unhide HT).below hw0).alloc _) (lt_of_block hnew) (cells_of hnew 0) (cells_of hnew 1) (cells_of hnew 2) (cells_of hnew 3)).mono ?_
  clear hnew
  rintro e W1 ⟨rfl, hb⟩
  have hbx := below_step' (w := W0) (below_alloc (Below.refl _ _) _) hb
  clear hb
  rw [HE.out]
  obtain ⟨hc, hfz⟩ := bcell hbx
  replace k0_0 := (hc _ _ q0).trans k0_0
  replace k0_1 := (hc _ _ q0).trans k0_1
  replace k1_0 := (hc _ _ q1).trans k1_0
  replace k1_1 := (hc _ _ q1).trans k1_1
  replace k2_0 := (hc _ _ q2).trans k2_0
  replace k2_1 := (hc _ _ q2).trans k2_1
  replace f2_0 := (hfz _ _ q2).trans f2_0
  replace f2_1 := (hfz _ _ q2).trans f2_1
  replace q0 := Nat.lt_of_lt_of_le q0 hbx.size
  replace q1 := Nat.lt_of_lt_of_le q1 hbx.size
  replace q2 := Nat.lt_of_lt_of_le q2 hbx.size
  replace hw0 := below_step' hw0 hbx
  clear hc hfz hbx
  have KEEP := hide (show ∀ X, Below W1.heap.size W1 X → X.cell? ⟨w.heap.size, 0, none⟩ = some (.int .i64 n1) ∧ X.cell? ⟨w.heap.size, 1, none⟩ = some (.int .i64 d1) ∧ X.cell? ⟨w.heap.size + 1, 0, none⟩ = some (.int .i64 n2) ∧ X.cell? ⟨w.heap.size + 1, 1, none⟩ = some (.int .i64 d2) from fun X hB => ⟨keep_cell hB q0 k0_0, keep_cell hB q0 k0_1, keep_cell hB q1 k1_0, keep_cell hB q1 k1_1⟩)
  go_wp2_with fail
  go_region_held3 (fun w' => w'.cell? ⟨w.heap.size, 0, none⟩ = some (.int .i64 n1) ∧ w'.cell? ⟨w.heap.size, 1, none⟩ = some (.int .i64 d1) ∧ w'.cell? ⟨w.heap.size + 1, 0, none⟩ = some (.int .i64 n2) ∧ w'.cell? ⟨w.heap.size + 1, 1, none⟩ = some (.int .i64 d2)) (first | with_reducible exact ⟨(cell_set2 _ _ _ _ (by omega)).trans (keep_cell hbw q0 k0_0), (cell_set2 _ _ _ _ (by omega)).trans (keep_cell hbw q0 k0_1), (cell_set2 _ _ _ _ (by omega)).trans (keep_cell hbw q1 k1_0), (cell_set2 _ _ _ _ (by omega)).trans (keep_cell hbw q1 k1_1)⟩ | with_reducible exact (unhide KEEP) _ (by (repeat (first | with_reducible exact Below.refl _ _ | with_reducible assumption | with_reducible refine Below.drew ?_ | with_reducible refine below_alloc ?_ _)))) (first | (go_at_call_of 27 (Value.agg #[.int .i64 n1, .int .i64 d1]); refine ((unhide HO1) _).mono ?_; rintro e w' ⟨s5, neg5, A5, c5, l5, s6, neg6, A6, c6, l6, rfl, hf5, hf6, hb5⟩; have hbw := below_step (w := W1) (by (repeat (first | with_reducible exact Below.refl _ _ | with_reducible assumption | with_reducible refine Below.drew ?_ | with_reducible refine below_alloc ?_ _))) hb5; have hsw := hbw.size; obtain ⟨hc, hfz⟩ := bcell hbw) | (go_at_call_of 27 (Value.agg #[.int .i64 n2, .int .i64 d2]); refine ((unhide HO2) _).mono ?_; rintro e w' ⟨s7, neg7, A7, c7, l7, s8, neg8, A8, c8, l8, rfl, hf7, hf8, hb7⟩; have hf5 := IntF.below (IntF.below hf5 (by (repeat (first | with_reducible exact Below.refl _ _ | with_reducible assumption | with_reducible refine Below.drew ?_ | with_reducible refine below_alloc ?_ _)))) hb7; have hf6 := IntF.below (IntF.below hf6 (by (repeat (first | with_reducible exact Below.refl _ _ | with_reducible assumption | with_reducible refine Below.drew ?_ | with_reducible refine below_alloc ?_ _)))) hb7; have hbw := below_step (w := W1) (by (repeat (first | with_reducible exact Below.refl _ _ | with_reducible assumption | with_reducible refine Below.drew ?_ | with_reducible refine below_alloc ?_ _))) hb7; have hsw := hbw.size; obtain ⟨hc, hfz⟩ := bcell hbw) | (go_at_call_of 37 (Value.agg #[.int .i64 s5, .bool neg5, .slice A5 l5.length c5, .int .i64 s6, .bool neg6, .slice A6 l6.length c6]); refine ((unhide HOP) s5 neg5 A5 c5 l5 s6 neg6 A6 c6 l6 s7 neg7 A7 c7 l7 s8 neg8 A8 c8 l8 _ (below_step' hw0 (by (repeat (first | with_reducible exact Below.refl _ _ | with_reducible assumption | with_reducible refine Below.drew ?_ | with_reducible refine below_alloc ?_ _)))) (IntF.below hf5 (by (repeat (first | with_reducible exact Below.refl _ _ | with_reducible assumption | with_reducible refine Below.drew ?_ | with_reducible refine below_alloc ?_ _)))) (IntF.below hf6 (by (repeat (first | with_reducible exact Below.refl _ _ | with_reducible assumption | with_reducible refine Below.drew ?_ | with_reducible refine below_alloc ?_ _)))) (IntF.below hf7 (by (repeat (first | with_reducible exact Below.refl _ _ | with_reducible assumption | with_reducible refine Below.drew ?_ | with_reducible refine below_alloc ?_ _)))) (IntF.below hf8 (by (repeat (first | with_reducible exact Below.refl _ _ | with_reducible assumption | with_reducible refine Below.drew ?_ | with_reducible refine below_alloc ?_ _))))).mono ?_; rintro e w' ⟨s9, neg9, A9, c9, l9, s10, neg10, A10, c10, l10, rfl, hf9, hf10, hb9⟩; have hbw := below_step (w := W1) (by (repeat (first | with_reducible exact Below.refl _ _ | with_reducible assumption | with_reducible refine Below.drew ?_ | with_reducible refine below_alloc ?_ _))) hb9; have hsw := hbw.size; obtain ⟨hc, hfz⟩ := bcell hbw) | (go_at_call_of 23 (Value.agg #[.int .i64 s9, .bool neg9, .slice A9 l9.length c9, .int .i64 s10, .bool neg10, .slice A10 l10.length c10]); refine ((unhide HRT) s9 neg9 A9 c9 l9 s10 neg10 A10 c10 l10 _ (IntF.below hf9 (by (repeat (first | with_reducible exact Below.refl _ _ | with_reducible assumption | with_reducible refine Below.drew ?_ | with_reducible refine below_alloc ?_ _)))) (IntF.below hf10 (by (repeat (first | with_reducible exact Below.refl _ _ | with_reducible assumption | with_reducible refine Below.drew ?_ | with_reducible refine below_alloc ?_ _))))).mono ?_; rintro e w' ⟨rfl, hb10⟩; have hbw := below_step (w := W1) (by (repeat (first | with_reducible exact Below.refl _ _ | with_reducible assumption | with_reducible refine Below.drew ?_ | with_reducible refine below_alloc ?_ _))) hb10; have hsw := hbw.size; obtain ⟨hc, hfz⟩ := bcell hbw))
  have hb9 : Below w.heap.size w w' := below_step' hw0 hbw
  go_wp2_with fail
  exact bodyPost_ret (v := .tuple #[.agg #[.int .i64 tn, .int .i64 td], .int .i64 te]) (by simp [results, Tryd.results36, go_sem, hc, k2_0, k2_1, q2]) rfl
    ⟨HTL.out ▸ rfl, hb9.grown (set2_grown _ _ _ _) hb9.size (fun k hk => by injection hk with hk; omega)⟩
end Go.Proofs.YtfbcdfoohpkfeaaDoor
/- Sum, difference, product and quotient of numbers, as they are told. -/
namespace Go.Proofs.YtfbcdfoohpkfeaaDoor
open Go.RowKit

theorem okR_sz {n d : Int} (h : Wd.okR n d) : SzQ 1 (Wd.qR n d) := by
  obtain ⟨e1, e2⟩ := Wd.qR_ok h
  obtain ⟨h1, h2, h3, h4, _⟩ := h
  have B : (1000000000000 : Nat) < B64 := by rw [B64_eq]; omega
  exact ⟨by rw [e1]; exact Wd.Sz.of_le (by omega) B64_pos (Nat.le_refl _), by rw [e2]; exact Wd.Sz.of_le (by omega) B64_pos (Nat.le_refl _)⟩
theorem lim3 : 1 + 1 + 1 ≤ lim := by unfold lim; omega
theorem comb_add (n1 d1 n2 d2 : Int) (w : World) (hT : Tab w) : Calls Tryd.prog 36 #[(Value.agg #[.int .i64 n1, .int .i64 d1]), (Value.agg #[.int .i64 n2, .int .i64 d2]), Value.func (Fn.func 37) #[] #[]] w fun e w' => TolR w (Wd.addR n1 d1 n2 d2) e w' := by
  unfold Wd.addR Wd.two
  by_cases ok : Wd.okR n1 d1 ∧ Wd.okR n2 d2
  · rw [if_pos ok]
    exact comb_add_good n1 d1 n2 d2 w hT ok _ (opq_add hT _ _ (okR_sz ok.1) (okR_sz ok.2) lim3).1
  · rw [if_neg ok]
    exact comb_add_bad n1 d1 n2 d2 w hT ok
set_option maxRecDepth 100000 in
set_option maxHeartbeats 16000000 in
theorem ratAdd_any (n1 d1 n2 d2 : Int) (w : World) (hT : Tab w) : Calls Tryd.prog 13 #[(Value.agg #[.int .i64 n1, .int .i64 d1]), (Value.agg #[.int .i64 n2, .int .i64 d2])] w fun e w' => TolR w (Wd.addR n1 d1 n2 d2) e w' := by
  have HC := hide (fun W (hW : Tab W) => comb_add n1 d1 n2 d2 W hW)
  have HT := hide hT
  obtain ⟨t, ht⟩ : ∃ t, t = Wd.addR n1 d1 n2 d2 := ⟨_, rfl⟩
  rw [← ht] at HC ⊢
  clear ht hT
  go_enter Tryd.func13, Tryd.ntmps13
  go_wp2_with fail
  obtain ⟨n0_, n1_, n2_, hsz, hw0⟩ := three_new w (.cells #[.int .i64 n1, .int .i64 d1] 23) (.cells #[.int .i64 n2, .int .i64 d2] 23) (.cells #[.int .i64 0, .int .i64 0] 23)
  generalize (((w.alloc (.cells #[.int .i64 n1, .int .i64 d1] 23)).alloc (.cells #[.int .i64 n2, .int .i64 d2] 23)).alloc (.cells #[.int .i64 0, .int .i64 0] 23)) = W0 at *
  have k2_0 : W0.cell? ⟨w.heap.size + 1 + 1, 0, none⟩ = some (.int .i64 0) := cells_of n2_ 0
  have k2_1 : W0.cell? ⟨w.heap.size + 1 + 1, 1, none⟩ = some (.int .i64 0) := cells_of n2_ 1
  have q2 : w.heap.size + 1 + 1 < W0.heap.size := by omega
  have f2_0 := unfrozen_of n2_ 0
  have f2_1 := unfrozen_of n2_ 1
  clear n0_ n1_ n2_ hsz
  refine ((unhide HC) _ ((unhide HT).below hw0)).mono ?_
  rintro e w' ⟨rfl, hb⟩
  obtain ⟨hc, hfz⟩ := bcell hb
  have hb9 : Below w.heap.size w w' := below_step' hw0 hb
  go_wp2_with fail
  exact bodyPost_ret (v := .tuple #[.agg #[.int .i64 t.n, .int .i64 t.d], .int .i64 t.e]) (by simp [results, Tryd.results13, go_sem, hc, k2_0, k2_1, q2]) rfl
    ⟨rfl, hb9.grown (set2_grown _ _ _ _) hb9.size (fun k hk => by injection hk with hk; omega)⟩
end Go.Proofs.YtfbcdfoohpkfeaaDoor
/- The program's numbers as values. -/
namespace Go.Proofs.YtfbcdfoohpkfeaaDoor
open Go.RowKit

namespace Sb
theorem agg_q {W : World} {x : Rat} {v : Value} (h : AggT [.q x] W v) : ∃ s1 n1 A1 c1 l1 s2 n2 A2 c2 l2, v = .agg #[.int .i64 s1, .bool n1, .slice A1 (List.length l1) c1, .int .i64 s2, .bool n2, .slice A2 (List.length l2) c2] ∧ IntF W s1 n1 A1 c1 l1 x.num ∧ IntF W s2 n2 A2 c2 l2 (x.den : Int) := by
  obtain ⟨cs, rfl, h⟩ := h
  obtain ⟨s1, n1, A1, c1, l1, s2, n2, A2, c2, l2, r, rfl, h1, h2, h3⟩ := h.q_inv
  cases h3
  exact ⟨_, _, _, _, _, _, _, _, _, _, rfl, h1, h2⟩
theorem agg_z {W : World} {n : Int} {v : Value} (h : AggT [.z n] W v) : ∃ s1 n1 A1 c1 l1, v = .agg #[.int .i64 s1, .bool n1, .slice A1 (List.length l1) c1] ∧ IntF W s1 n1 A1 c1 l1 n := by
  obtain ⟨cs, rfl, h⟩ := h
  obtain ⟨s1, n1, A1, c1, l1, r, rfl, h1, h3⟩ := h.z_inv
  cases h3
  exact ⟨_, _, _, _, _, rfl, h1⟩
theorem agg_v2 {W : World} {a b : Value} {v : Value} (h : AggT [.v a, .v b] W v) : v = .agg #[a, b] := by
  obtain ⟨cs, rfl, h⟩ := h
  obtain ⟨r, rfl, _, h⟩ := h.v_inv
  obtain ⟨r, rfl, _, h⟩ := h.v_inv
  cases h; rfl
theorem agg_v4 {W : World} {a b c d : Value} {v : Value} (h : AggT [.v a, .v b, .v c, .v d] W v) : v = .agg #[a, b, c, d] := by
  obtain ⟨cs, rfl, h⟩ := h
  obtain ⟨r, rfl, _, h⟩ := h.v_inv
  obtain ⟨r, rfl, _, h⟩ := h.v_inv
  obtain ⟨r, rfl, _, h⟩ := h.v_inv
  obtain ⟨r, rfl, _, h⟩ := h.v_inv
  cases h; rfl
theorem agg_qq {W : World} {x y : Rat} {v : Value} (h : AggT [.q x, .q y] W v) : ∃ s1 n1 A1 c1 l1 s2 n2 A2 c2 l2 s3 n3 A3 c3 l3 s4 n4 A4 c4 l4, v = .agg #[.int .i64 s1, .bool n1, .slice A1 (List.length l1) c1, .int .i64 s2, .bool n2, .slice A2 (List.length l2) c2, .int .i64 s3, .bool n3, .slice A3 (List.length l3) c3, .int .i64 s4, .bool n4, .slice A4 (List.length l4) c4] ∧ IntF W s1 n1 A1 c1 l1 x.num ∧ IntF W s2 n2 A2 c2 l2 (x.den : Int) ∧ IntF W s3 n3 A3 c3 l3 y.num ∧ IntF W s4 n4 A4 c4 l4 (y.den : Int) := by
  obtain ⟨cs, rfl, h⟩ := h
  obtain ⟨s1, n1, A1, c1, l1, s2, n2, A2, c2, l2, r, rfl, h1, h2, h⟩ := h.q_inv
  obtain ⟨s3, n3, A3, c3, l3, s4, n4, A4, c4, l4, r, rfl, h3, h4, h⟩ := h.q_inv
  cases h
  exact ⟨_, _, _, _, _, _, _, _, _, _, _, _, _, _, _, _, _, _, _, _, rfl, h1, h2, h3, h4⟩
theorem agg_of2 (W : World) {a b : Value} (ha : notW a) (hb : notW b) : AggT [.v a, .v b] W (.agg #[a, b]) := ⟨[a, b], rfl, LOk.v ha (LOk.v hb rfl)⟩
theorem agg_ofi2 (W : World) (a b : Int) : AggT [.v (.int .i64 a), .v (.int .i64 b)] W (.agg #[.int .i64 a, .int .i64 b]) := agg_of2 W (notW_i _) (notW_i _)
theorem agg_ofi4 (W : World) (a b c d : Int) : AggT [.v (.int .i64 a), .v (.int .i64 b), .v (.int .i64 c), .v (.int .i64 d)] W (.agg #[.int .i64 a, .int .i64 b, .int .i64 c, .int .i64 d]) := ⟨[_, _, _, _], rfl, LOk.v (notW_i _) (LOk.v (notW_i _) (LOk.v (notW_i _) (LOk.v (notW_i _) rfl)))⟩
theorem pair_ret {w w' : World} {q : Rat} {e : Ending} (h : PairR w q.num (q.den : Int) e w') : RetT (AggT [.q q]) w e w' := by
  obtain ⟨s1, n1, A1, c1, l1, s2, n2, A2, c2, l2, rfl, h1, h2, hb⟩ := h
  exact ⟨_, rfl, hb, _, rfl, LOk.q h1 h2 rfl⟩
theorem int_ret {w w' : World} {z : Int} {e : Ending} (h : IntR w z e w') : RetT (AggT [.z z]) w e w' := by
  obtain ⟨s1, n1, A1, c1, l1, rfl, h1, hb⟩ := h
  exact ⟨_, rfl, hb, _, rfl, LOk.z h1 rfl⟩
theorem eq_ret {w w' : World} {u : Value} {e : Ending} (h : e = .returned u ∧ Below w.heap.size w w') : RetT (Rg.EqT u) w e w' := ⟨u, h.1, h.2, rfl⟩
theorem c_op1 {F : Nat} {x q : Rat} {W : World} {v0 : Value} (h : OpQ1 W F x q) (h0 : AggT [.q x] W v0) : Calls Tryd.prog F #[v0] W (RetT (AggT [.q q]) W) := by
  obtain ⟨s1, n1, A1, c1, l1, s2, n2, A2, c2, l2, rfl, f1, f2⟩ := agg_q h0
  exact (h _ _ _ _ _ _ _ _ _ _ W (Below.refl _ _) f1 f2).mono fun e w' h => pair_ret h
theorem c_op2 {F : Nat} {x y q : Rat} {W : World} {v0 v1 : Value} (h : OpQ2 W F x y q) (h0 : AggT [.q x] W v0) (h1 : AggT [.q y] W v1) : Calls Tryd.prog F #[v0, v1] W (RetT (AggT [.q q]) W) := by
  obtain ⟨s1, n1, A1, c1, l1, s2, n2, A2, c2, l2, rfl, f1, f2⟩ := agg_q h0
  obtain ⟨s3, n3, A3, c3, l3, s4, n4, A4, c4, l4, rfl, f3, f4⟩ := agg_q h1
  exact (h _ _ _ _ _ _ _ _ _ _ _ _ _ _ _ _ _ _ _ _ W (Below.refl _ _) f1 f2 f3 f4).mono fun e w' h => pair_ret h
theorem c_iop2 {F : Nat} {x y q : Int} {W : World} {v0 v1 : Value} (h : Op2 W F x y q) (h0 : AggT [.z x] W v0) (h1 : AggT [.z y] W v1) : Calls Tryd.prog F #[v0, v1] W (RetT (AggT [.z q]) W) := by
  obtain ⟨s1, n1, A1, c1, l1, rfl, f1⟩ := agg_z h0
  obtain ⟨s2, n2, A2, c2, l2, rfl, f2⟩ := agg_z h1
  exact (h _ _ _ _ _ _ _ _ _ _ W (Below.refl _ _) f1 f2).mono fun e w' h => int_ret h
/-- Numerator and denominator have at most K words, K being small. -/
def Sm (K : Nat) (x : Rat) : Prop := SzQ K x ∧ K ≤ 1000000
theorem Sm.mono {K L : Nat} {x : Rat} (h : Sm K x) (hk : K ≤ L) (hl : L ≤ 1000000) : Sm L x := ⟨h.1.mono hk, hl⟩
theorem lim_big : 100000000 ≤ lim := by unfold lim; omega
variable {W : World} {v0 v1 : Value} {x y : Rat} {K : Nat}
theorem c_add (hT : Tab W) (hx : Sm K x) (hy : Sm K y) (h0 : AggT [.q x] W v0) (h1 : AggT [.q y] W v1) : Calls Tryd.prog 37 #[v0, v1] W (RetT (AggT [.q (x + y)]) W) :=
  c_op2 (opq_add hT x y hx.1 hy.1 (by have := hx.2; have := lim_big; omega)).1 h0 h1
theorem c_mul (hT : Tab W) (hx : Sm K x) (hy : Sm K y) (h0 : AggT [.q x] W v0) (h1 : AggT [.q y] W v1) : Calls Tryd.prog 39 #[v0, v1] W (RetT (AggT [.q (x * y)]) W) :=
  c_op2 (opq_mul hT x y hx.1 hy.1 (by have := hx.2; have := lim_big; omega)).1 h0 h1
theorem c_quo (hT : Tab W) (hx : Sm K x) (hy : Sm K y) (hn : y.num ≠ 0) (h0 : AggT [.q x] W v0) (h1 : AggT [.q y] W v1) : Calls Tryd.prog 40 #[v0, v1] W (RetT (AggT [.q (x / y)]) W) :=
  c_op2 (opq_quo hT x y hx.1 hy.1 (by have := hx.2; have := lim_big; omega) hn).1 h0 h1
theorem c_neg (h0 : AggT [.q x] W v0) : Calls Tryd.prog 69 #[v0] W (RetT (AggT [.q (-x)]) W) := c_op1 (opq_neg W x) h0
theorem c_cmp (hx : Sm K x) (hy : Sm K y) (h0 : AggT [.q x] W v0) (h1 : AggT [.q y] W v1) : Calls Tryd.prog 28 #[v0, v1] W (RetT (Rg.EqT (.int .i64 (sgn (x.num * y.den - y.num * x.den)))) W) := by
  obtain ⟨s1, n1, A1, c1, l1, s2, n2, A2, c2, l2, rfl, f1, f2⟩ := agg_q h0
  obtain ⟨s3, n3, A3, c3, l3, s4, n4, A4, c4, l4, rfl, f3, f4⟩ := agg_q h1
  exact (opc_cmp W x y hx.1 hy.1 (by have := hx.2; have := lim_big; omega) _ _ _ _ _ _ _ _ _ _ _ _ _ _ _ _ _ _ _ _ W (Below.refl _ _) f1 f2 f3 f4).mono fun e w' h => eq_ret h
theorem c_of {n d : Int} (ok : Wd.okR n d) (h0 : AggT [.v (.int .i64 n), .v (.int .i64 d)] W v0) : Calls Tryd.prog 27 #[v0] W (RetT (AggT [.q (Wd.qR n d)]) W) := by
  rw [agg_v2 h0]
  obtain ⟨e1, e2⟩ := Wd.qR_ok ok
  obtain ⟨h1, h2, h3, h4, _⟩ := ok
  refine (rof_any n d W (by omega) (by omega) (by omega) (by omega)).mono fun e w' h => pair_ret ?_
  rw [e1, e2]; exact h
theorem c_rat (h0 : AggT [.q x] W v0) : Calls Tryd.prog 23 #[v0] W (RetT (Rg.EqT (.tuple #[.agg #[.int .i64 (Wd.told x).n, .int .i64 (Wd.told x).d], .int .i64 (Wd.told x).e])) W) := by
  obtain ⟨s1, n1, A1, c1, l1, s2, n2, A2, c2, l2, rfl, f1, f2⟩ := agg_q h0
  exact (rrat_any s1 n1 A1 c1 l1 _ s2 n2 A2 c2 l2 _ W f1 f2 x rfl rfl).mono fun e w' h => eq_ret h
theorem c_newi (n : Int) (h1 : -9223372036854775808 ≤ n) (h2 : n ≤ 9223372036854775807) (W : World) : Calls Tryd.prog 22 #[.int .i64 n] W (RetT (AggT [.z n]) W) :=
  (newInt_any n h1 h2 W).mono fun e w' h => int_ret h
theorem c_newr {a b : Int} (hT : Tab W) (hb : b ≠ 0) (ha : Wd.Sz B64 K a) (hb2 : Wd.Sz B64 K b) (hK : K ≤ 1000000) (h0 : AggT [.z a] W v0) (h1 : AggT [.z b] W v1) : Calls Tryd.prog 21 #[v0, v1] W (RetT (AggT [.q (Rat.divInt a b)]) W) := by
  obtain ⟨s1, n1, A1, c1, l1, rfl, f1⟩ := agg_z h0
  obtain ⟨s2, n2, A2, c2, l2, rfl, f2⟩ := agg_z h1
  exact (newr_any s1 n1 A1 c1 l1 s2 n2 A2 c2 l2 a b W hT f1 f2 hb ha hb2 (by have := lim_big; omega)).mono fun e w' h => pair_ret h
theorem c_ineg {a : Int} (h0 : AggT [.z a] W v0) : Calls Tryd.prog 51 #[v0] W (RetT (AggT [.z (-a)]) W) := by
  obtain ⟨s1, n1, A1, c1, l1, rfl, f1⟩ := agg_z h0
  exact (neg_any s1 n1 A1 c1 l1 a W f1).mono fun e w' h => int_ret h
theorem Sm.add (hx : Sm K x) (hy : Sm K y) (h : K + K + 1 ≤ 1000000) (w : World) (hT : Tab w) : Sm (K + K + 1) (x + y) := ⟨(opq_add hT x y hx.1 hy.1 (by have := lim_big; omega)).2, h⟩
theorem Sm.mul (hx : Sm K x) (hy : Sm K y) (h : K + K ≤ 1000000) (w : World) (hT : Tab w) : Sm (K + K) (x * y) := ⟨(opq_mul hT x y hx.1 hy.1 (by have := lim_big; omega)).2, h⟩
theorem Sm.quo (hx : Sm K x) (hy : Sm K y) (h : K + K ≤ 1000000) (hn : y.num ≠ 0) (w : World) (hT : Tab w) : Sm (K + K) (x / y) := ⟨(opq_quo hT x y hx.1 hy.1 (by have := lim_big; omega) hn).2, h⟩
theorem Sm.neg (hx : Sm K x) : Sm K (-x) := ⟨hx.1.neg, hx.2⟩
theorem sm_okR {n d : Int} (ok : Wd.okR n d) : Sm 1 (Wd.qR n d) := ⟨okR_sz ok, by omega⟩
end Sb

end Go.Proofs.YtfbcdfoohpkfeaaDoor
/- Loads, stores, new blocks, addresses and parts of the types of the spans. -/
namespace Go.Proofs.YtfbcdfoohpkfeaaDoor
open Go.RowKit

namespace Sb
theorem cell_some {w : World} {b o : Nat} {cs : List Value} {T : TypeId} (h : w.heap[b]? = some (.cells cs.toArray T (0, 0))) (ho : o < cs.length) : ∃ c, w.cell? ⟨b, o, none⟩ = some c := by
  rw [cells_of h]
  exact ⟨cs[o], by simp [ho]⟩
/-- A new block of a type's noughts. -/
def NewOk (P : Program) (T : TypeId) (cs : List Value) : Prop := ∀ (ρ : Operand → Value) (w : World) (d : Option Tmp) (ty : TypeId) (pos : String) (af : Array Edge) (gd : Option (Nat × Bool)),
  (execOp ρ { dst := d, op := .alloc T, type := ty, pos := pos, after := af, guard := gd }).run P w = .ok (.value (.pointer (some ⟨w.heap.size, 0, none⟩))) (w.alloc (.cells cs.toArray T))
/-- A new variable, at or behind B. -/
def NewB (T : TypeId) (ls : List Leaf) (B : Nat) : World → Value → Prop := fun W v => ∃ b, v = .pointer (some ⟨b, 0, none⟩) ∧ B ≤ b ∧ BoxL W b T ls
theorem stab_new (T : TypeId) (ls : List Leaf) (B : Nat) : Rg.Stab Bel (NewB T ls B) := by
  rintro w w' v hb ⟨b, rfl, h1, h2⟩
  exact ⟨b, rfl, h1, h2.below hb⟩
def okV : Value → Bool
  | .int .i64 _ => true
  | .bool _ => true
  | .slice _ _ _ => true
  | .pointer _ => true
  | _ => false
theorem okV_spec {u : Value} (h : okV u = true) : notW u := by
  unfold okV at h
  split at h
  · exact notW_i _
  · exact notW_b _
  · exact notW_s _ _ _
  · exact notW_p _
  · cases h
theorem LOk.vs (W : World) : ∀ (us : List Value), us.all okV = true → LOk W (us.map .v) us
  | [], _ => rfl
  | u :: us, h => by
    rw [List.all_cons, Bool.and_eq_true] at h
    exact LOk.v (okV_spec h.1) (LOk.vs W us h.2)
theorem s_alloc {P : Program} {Q : Exit → Act → World → Prop} {l : List Oper} {n : Nat} {T : Nat → World → Value → Prop} {G : World → Prop} {al : List Nat} {a0 : Act} {k d : Nat} {ty : TypeId} {pos : String} {af : Array Edge} {gd : Option (Nat × Bool)} {B : Nat} {TL : TypeId} {cs : List Value} (hN : NewOk P TL cs) (hw : cs.all okV = true)
    (hGs : ∀ W W', G W → Bel W W' → G W') (hB : ∀ W, G W → B ≤ W.heap.size) (hT : T k = NewB TL (cs.map .v) B) (hlt : ∀ j W u, al.contains j = true → T j W u → ∃ b, u = .pointer (some ⟨b, 0, none⟩) ∧ b < W.heap.size) :
    Rg.Step P Q l n T G Bel al a0 k { dst := some d, op := .alloc TL, type := ty, pos := pos, after := af, guard := gd } := by
  refine s_new (N := NewB TL (cs.map .v)) (B := B) ?_ hGs hB hT hlt
  intro a w
  exact ⟨_, (Below.refl _ _).alloc (Nat.le_refl _) _, fun hB => ⟨w.heap.size, rfl, hB, cs, heap_alloc_new w _, LOk.vs _ cs hw⟩, hN a.eval w (some d) ty pos af gd⟩
def IsNew (t : World → Value → Prop) : Prop := ∃ TL ls B, t = NewB TL ls B
theorem new_lt {T : Nat → World → Value → Prop} {js : List Nat} (h : ∀ j, js.contains j = true → IsNew (T j)) : ∀ j W u, js.contains j = true → T j W u → ∃ b, u = .pointer (some ⟨b, 0, none⟩) ∧ b < W.heap.size := fun j W u hj ht => by
  obtain ⟨TL, ls, B, e⟩ := h j hj
  rw [e] at ht
  obtain ⟨b, h1, _, h2⟩ := ht
  exact ⟨b, h1, h2.lt⟩
theorem Own.add2 {w W V : World} {bs : List Ent} {b b' : Nat} {T T' : TypeId} {ls ls' : List Leaf} (h : Own w bs V) (hVW : Bel V W) (hb : V.heap.size ≤ b) (hq : BoxL W b T ls) (hb' : V.heap.size ≤ b') (hq' : BoxL W b' T' ls') (hne : b' ≠ b) : Own w ((b', T', ls') :: (b, T, ls) :: bs) W := by
  have h1 := Own.add h hVW hb hq
  have h2 := Own.add h hVW hb' hq'
  refine ⟨h1.bel, List.nodup_cons.2 ⟨fun hm => ?_, h1.nd⟩, fun c p q hm => ?_⟩
  · rw [List.map_cons] at hm
    rcases List.mem_cons.1 hm with e | hm
    · exact hne e
    · exact (List.nodup_cons.1 h2.nd).1 hm
  · rcases List.mem_cons.1 hm with e | hm
    · cases e; exact h2.box _ _ _ List.mem_cons_self
    · exact h1.box _ _ _ hm
/-- The address of a part. -/
def AddrOk (P : Program) (o : Operand → Op) (ioff : Nat) : Prop := ∀ (a : Act) (w : World) (d : Option Tmp) (x : Operand) (b off : Nat) (ty : TypeId) (pos : String) (af : Array Edge) (gd : Option (Nat × Bool)), a.eval x = .pointer (some ⟨b, off, none⟩) →
  (execOp a.eval { dst := d, op := o x, type := ty, pos := pos, after := af, guard := gd }).run P w = .ok (.value (.pointer (some ⟨b, off + ioff, none⟩))) w
theorem s_addr {P : Program} {Q : Exit → Act → World → Prop} {l : List Oper} {n : Nat} {T : Nat → World → Value → Prop} {G : World → Prop} {al : List Nat} {a0 : Act} {k d : Nat} {ty : TypeId} {pos : String} {af : Array Edge} {gd : Option (Nat × Bool)} {b off off' ioff : Nat} {x : Operand} {o : Operand → Op} (hA : AddrOk P o ioff) (hal : al.contains k = false) (hx : Rg.ArgOk l n T a0 k x (Rg.EqT (.pointer (some ⟨b, off, none⟩)))) (ho : off + ioff = off') (hT : T k = Rg.EqT (.pointer (some ⟨b, off', none⟩))) :
    Rg.Step P Q l n T G Bel al a0 k { dst := some d, op := o x, type := ty, pos := pos, after := af, guard := gd } := by
  intro a w hG hO hN
  exact wp_value (hA a w (some d) x b off ty pos af gd (hx a w hO hN)) ⟨_, rfl, hG, Below.refl _ _, by rw [hT, ho]; rfl, fun h => by rw [hal] at h; cases h⟩
/-- A struct or array of two parts. -/
def Build2 (P : Program) (T : TypeId) (m1 m2 : Nat) : Prop := ∀ (ρ : Operand → Value) (w : World) (d : Option Tmp) (x y : Operand) (us vs : List Value) (ty : TypeId) (pos : String) (af : Array Edge) (gd : Option (Nat × Bool)), us.length = m1 → vs.length = m2 → ρ x = .agg us.toArray → ρ y = .agg vs.toArray →
  (execOp ρ { dst := d, op := .build T #[(0, x), (1, y)], type := ty, pos := pos, after := af, guard := gd }).run P w = .ok (.value (.agg (us ++ vs).toArray)) w
theorem s_build2 {P : Program} {Q : Exit → Act → World → Prop} {l : List Oper} {n : Nat} {T : Nat → World → Value → Prop} {G : World → Prop} {al : List Nat} {a0 : Act} {k d : Nat} {ty : TypeId} {pos : String} {af : Array Edge} {gd : Option (Nat × Bool)} {m1 m2 : Nat} {x y : Operand} {TL : TypeId} {ls ks : List Leaf} (hB : Build2 P TL m1 m2) (hal : al.contains k = false) (hx : Rg.ArgOk l n T a0 k x (AggT ls)) (hy : Rg.ArgOk l n T a0 k y (AggT ks)) (h1 : lsize ls = m1) (h2 : lsize ks = m2) (hT : T k = AggT (ls ++ ks)) :
    Rg.Step P Q l n T G Bel al a0 k { dst := some d, op := .build TL #[(0, x), (1, y)], type := ty, pos := pos, after := af, guard := gd } := by
  intro a w hG hO hN
  obtain ⟨us, e1, g1⟩ := hx a w hO hN
  obtain ⟨vs, e2, g2⟩ := hy a w hO hN
  exact wp_value (hB a.eval w (some d) x y us vs ty pos af gd (by rw [g1.len, h1]) (by rw [g2.len, h2]) e1 e2) ⟨_, rfl, hG, Below.refl _ _, by rw [hT]; exact ⟨_, rfl, g2.app g1⟩, fun h => by rw [hal] at h; cases h⟩
/-- A struct or array of noughts. -/
def Build0 (P : Program) (T : TypeId) (cs : List Value) : Prop := ∀ (ρ : Operand → Value) (w : World) (d : Option Tmp) (ty : TypeId) (pos : String) (af : Array Edge) (gd : Option (Nat × Bool)),
  (execOp ρ { dst := d, op := .build T #[], type := ty, pos := pos, after := af, guard := gd }).run P w = .ok (.value (.agg cs.toArray)) w
theorem s_build0 {P : Program} {Q : Exit → Act → World → Prop} {l : List Oper} {n : Nat} {T : Nat → World → Value → Prop} {G : World → Prop} {al : List Nat} {a0 : Act} {k d : Nat} {ty : TypeId} {pos : String} {af : Array Edge} {gd : Option (Nat × Bool)} {TL : TypeId} {cs : List Value} (hB : Build0 P TL cs) (hal : al.contains k = false) (hw : cs.all okV = true) (hT : T k = AggT (cs.map .v)) :
    Rg.Step P Q l n T G Bel al a0 k { dst := some d, op := .build TL #[], type := ty, pos := pos, after := af, guard := gd } := by
  intro a w hG hO hN
  exact wp_value (hB a.eval w (some d) ty pos af gd) ⟨_, rfl, hG, Below.refl _ _, by rw [hT]; exact ⟨_, rfl, LOk.vs _ cs hw⟩, fun h => by rw [hal] at h; cases h⟩
/-- A slice of its own block. -/
def SlT (T : TypeId) (m : Nat) (ls : List Leaf) : World → Value → Prop := fun W v => ∃ b, v = .slice (some ⟨b, 0, none⟩) m m ∧ BoxL W b T ls
theorem stab_sl (T : TypeId) (m : Nat) (ls : List Leaf) : Rg.Stab Bel (SlT T m ls) := by
  rintro w w' v hb ⟨b, rfl, h2⟩
  exact ⟨b, rfl, h2.below hb⟩
/-- The parts of a slice that is built. -/
def PartsOk (ρ : Operand → Value) (ms : Nat) : Nat → List (Nat × Operand) → List Value → Prop
  | _, [], cs => cs = []
  | i, p :: ps, cs => ∃ us r, cs = us ++ r ∧ us.length = ms ∧ p.1 = i ∧ ρ p.2 = .agg us.toArray ∧ PartsOk ρ ms (i + 1) ps r
def BuildSl (P : Program) (TS TE : TypeId) (m ms : Nat) : Prop := ∀ (ρ : Operand → Value) (w : World) (d : Option Tmp) (ps : List (Nat × Operand)) (cs : List Value) (ty : TypeId) (pos : String) (af : Array Edge) (gd : Option (Nat × Bool)), ps.length = m → PartsOk ρ ms 0 ps cs →
  (execOp ρ { dst := d, op := .buildSlice TS m ps.toArray, type := ty, pos := pos, after := af, guard := gd }).run P w = .ok (.value (.slice (some ⟨w.heap.size, 0, none⟩) m m)) (w.alloc (.cells cs.toArray TE))
def ArgsOk (l : List Oper) (n : Nat) (T : Nat → World → Value → Prop) (a0 : Act) (k ms : Nat) : Nat → List (Nat × Operand) → List (List Leaf) → Prop
  | _, [], gs => gs = []
  | i, p :: ps, gs => ∃ g r, gs = g :: r ∧ lsize g = ms ∧ p.1 = i ∧ Rg.ArgOk l n T a0 k p.2 (AggT g) ∧ ArgsOk l n T a0 k ms (i + 1) ps r
theorem ArgsOk.nil {l : List Oper} {n : Nat} {T : Nat → World → Value → Prop} {a0 : Act} {k ms i : Nat} : ArgsOk l n T a0 k ms i [] [] := rfl
theorem ArgsOk.cons {l : List Oper} {n : Nat} {T : Nat → World → Value → Prop} {a0 : Act} {k ms i : Nat} {x : Operand} {ps : List (Nat × Operand)} {g : List Leaf} {r : List (List Leaf)} (h : Rg.ArgOk l n T a0 k x (AggT g)) (hm : lsize g = ms) (hr : ArgsOk l n T a0 k ms (i + 1) ps r) : ArgsOk l n T a0 k ms i ((i, x) :: ps) (g :: r) := ⟨g, r, rfl, hm, rfl, h, hr⟩
theorem parts_of {l : List Oper} {n : Nat} {T : Nat → World → Value → Prop} {a0 a : Act} {k ms : Nat} {w : World} (hO : ∀ t, Rg.freeT l n t = true → a.tmps.getD t undef = a0.tmps.getD t undef) (hN : ∀ j d, Rg.waits l k j d = true → T j w (a.tmps.getD d undef)) :
    ∀ {ps : List (Nat × Operand)} {gs : List (List Leaf)} {i : Nat}, ArgsOk l n T a0 k ms i ps gs → ∃ cs, PartsOk a.eval ms i ps cs ∧ LOk w gs.flatten cs
  | [], _, _, h => by cases h; exact ⟨[], rfl, rfl⟩
  | p :: ps, _, i, ⟨g, r, e, h1, h2, h3, h4⟩ => by
    subst e
    obtain ⟨cs, k1, k2⟩ := parts_of hO hN (ps := ps) h4
    obtain ⟨us, e1, g1⟩ := h3 a w hO hN
    exact ⟨us ++ cs, ⟨us, cs, rfl, by rw [g1.len, h1], h2, e1, k1⟩, k2.app g1⟩
theorem s_buildsl {P : Program} {Q : Exit → Act → World → Prop} {l : List Oper} {n : Nat} {T : Nat → World → Value → Prop} {G : World → Prop} {al : List Nat} {a0 : Act} {k d : Nat} {ty : TypeId} {pos : String} {af : Array Edge} {gd : Option (Nat × Bool)} {TS TE : TypeId} {m ms : Nat} {ps : List (Nat × Operand)} {gs : List (List Leaf)} (hB : BuildSl P TS TE m ms) (hal : al.contains k = false) (hGs : ∀ W W', G W → Bel W W' → G W') (hm : ps.length = m) (ha : ArgsOk l n T a0 k ms 0 ps gs) (hT : T k = SlT TE m gs.flatten) :
    Rg.Step P Q l n T G Bel al a0 k { dst := some d, op := .buildSlice TS m ps.toArray, type := ty, pos := pos, after := af, guard := gd } := by
  intro a w hG hO hN
  obtain ⟨cs, h1, h2⟩ := parts_of hO hN ha
  have hb : Bel w (w.alloc (.cells cs.toArray TE)) := (Below.refl _ _).alloc (Nat.le_refl _) _
  exact wp_value (hB a.eval w (some d) ps cs ty pos af gd hm h1) ⟨_, rfl, hGs _ _ hG hb, hb, by rw [hT]; exact ⟨w.heap.size, rfl, cs, heap_alloc_new w _, h2.below hb⟩, fun h => by rw [hal] at h; cases h⟩
/-- One of several results. -/
theorem s_extT {P : Program} {Q : Exit → Act → World → Prop} {l : List Oper} {n : Nat} {T : Nat → World → Value → Prop} {G : World → Prop} {al : List Nat} {a0 : Act} {k d : Nat} {ty : TypeId} {pos : String} {af : Array Edge} {gd : Option (Nat × Bool)} {x : Operand} {ts : List (World → Value → Prop)} {i : Nat} (hal : al.contains k = false) (hx : Rg.ArgOk l n T a0 k x (TupT ts)) (hi : i < ts.length) (hT : T k = Rg.pick ts i) :
    Rg.Step P Q l n T G Bel al a0 k { dst := some d, op := .extract x i, type := ty, pos := pos, after := af, guard := gd } :=
  s_ext hal hx (fun W v ⟨vs, h1, h2⟩ => by
    obtain ⟨u, h3, h4⟩ := h2.get i hi
    exact ⟨vs.toArray, h1, u, by simpa using h3, by rw [hT]; exact h4⟩)
/-! The stores at a region's end. -/
theorem tl_store {P : Program} {ops : Array Oper} {Q : Exit → Act → World → Prop} {rest : List Oper} {a : Act} {w0 w : World} {TL TB : TypeId} {p x : Operand} {m b off : Nat} {xs ys : List Ent} {pre old new post : List Leaf} {ty : TypeId} {pos : String} {af : Array Edge}
    (hS : StoreOk P TL m) (hp : a.eval p = .pointer (some ⟨b, off, none⟩)) (hv : AggT new w (a.eval x)) (hO : Own w0 (xs ++ (b, TB, pre ++ (old ++ post)) :: ys) w) (hm : lsize new = m) (hl : lsize new = lsize old) (ho : off = lsize pre)
    (hk : ∀ w', Own w0 (xs ++ (b, TB, pre ++ (new ++ post)) :: ys) w' → (∀ ks u, AggT ks w u → AggT ks w' u) → wpList P ops Q rest a w') :
    wpList P ops Q ({ dst := none, op := .store TL p x, type := ty, pos := pos, after := af, guard := none } :: rest) a w := by
  obtain ⟨us, e, hu⟩ := hv
  have hbx := hO.box b TB _ (List.mem_append_right _ List.mem_cons_self)
  obtain ⟨hge, cs, hb, hls⟩ := hbx
  have hr := hS a.eval w none p x b off cs TB us ty pos af none (by rw [hu.len, hm]) (fun u h => (hu.noW u h).2) hb (by
    have h1 := hls.len
    obtain ⟨c, cd, rfl, k1, k2⟩ := hls.cut
    obtain ⟨o, d, rfl, k3, k4⟩ := k2.cut
    have e1 := k1.len
    have e3 := k3.len
    simp only [List.length_append]
    omega) hp e
  unfold wpList
  rw [if_pos (by simp [Region.wanted])]
  refine .inl ?_
  unfold Oper.wp
  rw [hr]
  exact hk _ (hO.set hu hl ho) (fun ks u h => agg_set ⟨cs, hb, hls⟩ h)
set_option maxRecDepth 100000 in
theorem load_z : LoadOk Tryd.prog 46 3 := by
  intro ρ w d x b off us ty pos af gd hl hc hx
  match us, hl with
  | [u0, u1, u2], _ =>
  have k0 : w.cell? ⟨b, off, none⟩ = some u0 := by simpa using hc 0 (by omega)
  have k1 : w.cell? ⟨b, off + 1, none⟩ = some u1 := by simpa using hc 1 (by omega)
  have k2 : w.cell? ⟨b, off + 2, none⟩ = some u2 := by simpa using hc 2 (by omega)
  clear hc
  simp only [execOp, hx]
  simp [go_sem, k0, k1, k2]
set_option maxRecDepth 100000 in
theorem load_q : LoadOk Tryd.prog 48 6 := by
  intro ρ w d x b off us ty pos af gd hl hc hx
  match us, hl with
  | [u0, u1, u2, u3, u4, u5], _ =>
  have k0 : w.cell? ⟨b, off, none⟩ = some u0 := by simpa using hc 0 (by omega)
  have k1 : w.cell? ⟨b, off + 1, none⟩ = some u1 := by simpa using hc 1 (by omega)
  have k2 : w.cell? ⟨b, off + 2, none⟩ = some u2 := by simpa using hc 2 (by omega)
  have k3 : w.cell? ⟨b, off + 3, none⟩ = some u3 := by simpa using hc 3 (by omega)
  have k4 : w.cell? ⟨b, off + 4, none⟩ = some u4 := by simpa using hc 4 (by omega)
  have k5 : w.cell? ⟨b, off + 5, none⟩ = some u5 := by simpa using hc 5 (by omega)
  clear hc
  simp only [execOp, hx]
  simp [go_sem, k0, k1, k2, k3, k4, k5]
set_option maxRecDepth 100000 in
theorem load_e : LoadOk Tryd.prog 74 12 := by
  intro ρ w d x b off us ty pos af gd hl hc hx
  match us, hl with
  | [u0, u1, u2, u3, u4, u5, u6, u7, u8, u9, u10, u11], _ =>
  have k0 : w.cell? ⟨b, off, none⟩ = some u0 := by simpa using hc 0 (by omega)
  have k1 : w.cell? ⟨b, off + 1, none⟩ = some u1 := by simpa using hc 1 (by omega)
  have k2 : w.cell? ⟨b, off + 2, none⟩ = some u2 := by simpa using hc 2 (by omega)
  have k3 : w.cell? ⟨b, off + 3, none⟩ = some u3 := by simpa using hc 3 (by omega)
  have k4 : w.cell? ⟨b, off + 4, none⟩ = some u4 := by simpa using hc 4 (by omega)
  have k5 : w.cell? ⟨b, off + 5, none⟩ = some u5 := by simpa using hc 5 (by omega)
  have k6 : w.cell? ⟨b, off + 6, none⟩ = some u6 := by simpa using hc 6 (by omega)
  have k7 : w.cell? ⟨b, off + 7, none⟩ = some u7 := by simpa using hc 7 (by omega)
  have k8 : w.cell? ⟨b, off + 8, none⟩ = some u8 := by simpa using hc 8 (by omega)
  have k9 : w.cell? ⟨b, off + 9, none⟩ = some u9 := by simpa using hc 9 (by omega)
  have k10 : w.cell? ⟨b, off + 10, none⟩ = some u10 := by simpa using hc 10 (by omega)
  have k11 : w.cell? ⟨b, off + 11, none⟩ = some u11 := by simpa using hc 11 (by omega)
  clear hc
  simp only [execOp, hx]
  simp [go_sem, k0, k1, k2, k3, k4, k5, k6, k7, k8, k9, k10, k11]
set_option maxRecDepth 100000 in
theorem load_r : LoadOk Tryd.prog 23 2 := by
  intro ρ w d x b off us ty pos af gd hl hc hx
  match us, hl with
  | [u0, u1], _ =>
  have k0 : w.cell? ⟨b, off, none⟩ = some u0 := by simpa using hc 0 (by omega)
  have k1 : w.cell? ⟨b, off + 1, none⟩ = some u1 := by simpa using hc 1 (by omega)
  clear hc
  simp only [execOp, hx]
  simp [go_sem, k0, k1]
set_option maxRecDepth 100000 in
theorem load_s : LoadOk Tryd.prog 35 4 := by
  intro ρ w d x b off us ty pos af gd hl hc hx
  match us, hl with
  | [u0, u1, u2, u3], _ =>
  have k0 : w.cell? ⟨b, off, none⟩ = some u0 := by simpa using hc 0 (by omega)
  have k1 : w.cell? ⟨b, off + 1, none⟩ = some u1 := by simpa using hc 1 (by omega)
  have k2 : w.cell? ⟨b, off + 2, none⟩ = some u2 := by simpa using hc 2 (by omega)
  have k3 : w.cell? ⟨b, off + 3, none⟩ = some u3 := by simpa using hc 3 (by omega)
  clear hc
  simp only [execOp, hx]
  simp [go_sem, k0, k1, k2, k3]
set_option maxRecDepth 100000 in
theorem store_z : StoreOk Tryd.prog 46 3 := by
  intro ρ w d p x b off cs TB us ty pos af gd hl hu hb ho hp hx
  match us, hl with
  | [u0, u1, u2], _ =>
  have o0 := hu u0 (by simp)
  have o1 := hu u1 (by simp)
  have o2 := hu u2 (by simp)
  have f0 : w.frozen? ⟨b, off, none⟩ = false := unfrozen_of hb _
  have f1 : w.frozen? ⟨b, off + 1, none⟩ = false := unfrozen_of hb _
  have f2 : w.frozen? ⟨b, off + 2, none⟩ = false := unfrozen_of hb _
  obtain ⟨c0, k0⟩ : ∃ c, w.cell? ⟨b, off, none⟩ = some c := cell_some hb (by omega)
  obtain ⟨c1, k1⟩ : ∃ c, w.cell? ⟨b, off + 1, none⟩ = some c := cell_some hb (by omega)
  obtain ⟨c2, k2⟩ : ∃ c, w.cell? ⟨b, off + 2, none⟩ = some c := cell_some hb (by omega)
  have hlt := lt_of_block hb
  clear hb ho hu
  simp only [execOp, hp, hx, setM]
  simp [go_sem, hlt, run_store _ _ _ _ _ o0, o0, run_store _ _ _ _ _ o1, o1, run_store _ _ _ _ _ o2, o2, k0, k1, k2, f0, f1, f2]
set_option maxRecDepth 100000 in
theorem store_q : StoreOk Tryd.prog 48 6 := by
  intro ρ w d p x b off cs TB us ty pos af gd hl hu hb ho hp hx
  match us, hl with
  | [u0, u1, u2, u3, u4, u5], _ =>
  have o0 := hu u0 (by simp)
  have o1 := hu u1 (by simp)
  have o2 := hu u2 (by simp)
  have o3 := hu u3 (by simp)
  have o4 := hu u4 (by simp)
  have o5 := hu u5 (by simp)
  have f0 : w.frozen? ⟨b, off, none⟩ = false := unfrozen_of hb _
  have f1 : w.frozen? ⟨b, off + 1, none⟩ = false := unfrozen_of hb _
  have f2 : w.frozen? ⟨b, off + 2, none⟩ = false := unfrozen_of hb _
  have f3 : w.frozen? ⟨b, off + 3, none⟩ = false := unfrozen_of hb _
  have f4 : w.frozen? ⟨b, off + 4, none⟩ = false := unfrozen_of hb _
  have f5 : w.frozen? ⟨b, off + 5, none⟩ = false := unfrozen_of hb _
  obtain ⟨c0, k0⟩ : ∃ c, w.cell? ⟨b, off, none⟩ = some c := cell_some hb (by omega)
  obtain ⟨c1, k1⟩ : ∃ c, w.cell? ⟨b, off + 1, none⟩ = some c := cell_some hb (by omega)
  obtain ⟨c2, k2⟩ : ∃ c, w.cell? ⟨b, off + 2, none⟩ = some c := cell_some hb (by omega)
  obtain ⟨c3, k3⟩ : ∃ c, w.cell? ⟨b, off + 3, none⟩ = some c := cell_some hb (by omega)
  obtain ⟨c4, k4⟩ : ∃ c, w.cell? ⟨b, off + 4, none⟩ = some c := cell_some hb (by omega)
  obtain ⟨c5, k5⟩ : ∃ c, w.cell? ⟨b, off + 5, none⟩ = some c := cell_some hb (by omega)
  have hlt := lt_of_block hb
  clear hb ho hu
  simp only [execOp, hp, hx, setM]
  simp [go_sem, hlt, run_store _ _ _ _ _ o0, o0, run_store _ _ _ _ _ o1, o1, run_store _ _ _ _ _ o2, o2, run_store _ _ _ _ _ o3, o3, run_store _ _ _ _ _ o4, o4, run_store _ _ _ _ _ o5, o5, k0, k1, k2, k3, k4, k5, f0, f1, f2, f3, f4, f5]
set_option maxRecDepth 100000 in
theorem store_e : StoreOk Tryd.prog 74 12 := by
  intro ρ w d p x b off cs TB us ty pos af gd hl hu hb ho hp hx
  match us, hl with
  | [u0, u1, u2, u3, u4, u5, u6, u7, u8, u9, u10, u11], _ =>
  have o0 := hu u0 (by simp)
  have o1 := hu u1 (by simp)
  have o2 := hu u2 (by simp)
  have o3 := hu u3 (by simp)
  have o4 := hu u4 (by simp)
  have o5 := hu u5 (by simp)
  have o6 := hu u6 (by simp)
  have o7 := hu u7 (by simp)
  have o8 := hu u8 (by simp)
  have o9 := hu u9 (by simp)
  have o10 := hu u10 (by simp)
  have o11 := hu u11 (by simp)
  have f0 : w.frozen? ⟨b, off, none⟩ = false := unfrozen_of hb _
  have f1 : w.frozen? ⟨b, off + 1, none⟩ = false := unfrozen_of hb _
  have f2 : w.frozen? ⟨b, off + 2, none⟩ = false := unfrozen_of hb _
  have f3 : w.frozen? ⟨b, off + 3, none⟩ = false := unfrozen_of hb _
  have f4 : w.frozen? ⟨b, off + 4, none⟩ = false := unfrozen_of hb _
  have f5 : w.frozen? ⟨b, off + 5, none⟩ = false := unfrozen_of hb _
  have f6 : w.frozen? ⟨b, off + 6, none⟩ = false := unfrozen_of hb _
  have f7 : w.frozen? ⟨b, off + 7, none⟩ = false := unfrozen_of hb _
  have f8 : w.frozen? ⟨b, off + 8, none⟩ = false := unfrozen_of hb _
  have f9 : w.frozen? ⟨b, off + 9, none⟩ = false := unfrozen_of hb _
  have f10 : w.frozen? ⟨b, off + 10, none⟩ = false := unfrozen_of hb _
  have f11 : w.frozen? ⟨b, off + 11, none⟩ = false := unfrozen_of hb _
  obtain ⟨c0, k0⟩ : ∃ c, w.cell? ⟨b, off, none⟩ = some c := cell_some hb (by omega)
  obtain ⟨c1, k1⟩ : ∃ c, w.cell? ⟨b, off + 1, none⟩ = some c := cell_some hb (by omega)
  obtain ⟨c2, k2⟩ : ∃ c, w.cell? ⟨b, off + 2, none⟩ = some c := cell_some hb (by omega)
  obtain ⟨c3, k3⟩ : ∃ c, w.cell? ⟨b, off + 3, none⟩ = some c := cell_some hb (by omega)
  obtain ⟨c4, k4⟩ : ∃ c, w.cell? ⟨b, off + 4, none⟩ = some c := cell_some hb (by omega)
  obtain ⟨c5, k5⟩ : ∃ c, w.cell? ⟨b, off + 5, none⟩ = some c := cell_some hb (by omega)
  obtain ⟨c6, k6⟩ : ∃ c, w.cell? ⟨b, off + 6, none⟩ = some c := cell_some hb (by omega)
  obtain ⟨c7, k7⟩ : ∃ c, w.cell? ⟨b, off + 7, none⟩ = some c := cell_some hb (by omega)
  obtain ⟨c8, k8⟩ : ∃ c, w.cell? ⟨b, off + 8, none⟩ = some c := cell_some hb (by omega)
  obtain ⟨c9, k9⟩ : ∃ c, w.cell? ⟨b, off + 9, none⟩ = some c := cell_some hb (by omega)
  obtain ⟨c10, k10⟩ : ∃ c, w.cell? ⟨b, off + 10, none⟩ = some c := cell_some hb (by omega)
  obtain ⟨c11, k11⟩ : ∃ c, w.cell? ⟨b, off + 11, none⟩ = some c := cell_some hb (by omega)
  have hlt := lt_of_block hb
  clear hb ho hu
  simp only [execOp, hp, hx, setM]
  simp [go_sem, hlt, run_store _ _ _ _ _ o0, o0, run_store _ _ _ _ _ o1, o1, run_store _ _ _ _ _ o2, o2, run_store _ _ _ _ _ o3, o3, run_store _ _ _ _ _ o4, o4, run_store _ _ _ _ _ o5, o5, run_store _ _ _ _ _ o6, o6, run_store _ _ _ _ _ o7, o7, run_store _ _ _ _ _ o8, o8, run_store _ _ _ _ _ o9, o9, run_store _ _ _ _ _ o10, o10, run_store _ _ _ _ _ o11, o11, k0, k1, k2, k3, k4, k5, k6, k7, k8, k9, k10, k11, f0, f1, f2, f3, f4, f5, f6, f7, f8, f9, f10, f11]
set_option maxRecDepth 100000 in
theorem store_r : StoreOk Tryd.prog 23 2 := by
  intro ρ w d p x b off cs TB us ty pos af gd hl hu hb ho hp hx
  match us, hl with
  | [u0, u1], _ =>
  have o0 := hu u0 (by simp)
  have o1 := hu u1 (by simp)
  have f0 : w.frozen? ⟨b, off, none⟩ = false := unfrozen_of hb _
  have f1 : w.frozen? ⟨b, off + 1, none⟩ = false := unfrozen_of hb _
  obtain ⟨c0, k0⟩ : ∃ c, w.cell? ⟨b, off, none⟩ = some c := cell_some hb (by omega)
  obtain ⟨c1, k1⟩ : ∃ c, w.cell? ⟨b, off + 1, none⟩ = some c := cell_some hb (by omega)
  have hlt := lt_of_block hb
  clear hb ho hu
  simp only [execOp, hp, hx, setM]
  simp [go_sem, hlt, run_store _ _ _ _ _ o0, o0, run_store _ _ _ _ _ o1, o1, k0, k1, f0, f1]
set_option maxRecDepth 100000 in
theorem store_s : StoreOk Tryd.prog 35 4 := by
  intro ρ w d p x b off cs TB us ty pos af gd hl hu hb ho hp hx
  match us, hl with
  | [u0, u1, u2, u3], _ =>
  have o0 := hu u0 (by simp)
  have o1 := hu u1 (by simp)
  have o2 := hu u2 (by simp)
  have o3 := hu u3 (by simp)
  have f0 : w.frozen? ⟨b, off, none⟩ = false := unfrozen_of hb _
  have f1 : w.frozen? ⟨b, off + 1, none⟩ = false := unfrozen_of hb _
  have f2 : w.frozen? ⟨b, off + 2, none⟩ = false := unfrozen_of hb _
  have f3 : w.frozen? ⟨b, off + 3, none⟩ = false := unfrozen_of hb _
  obtain ⟨c0, k0⟩ : ∃ c, w.cell? ⟨b, off, none⟩ = some c := cell_some hb (by omega)
  obtain ⟨c1, k1⟩ : ∃ c, w.cell? ⟨b, off + 1, none⟩ = some c := cell_some hb (by omega)
  obtain ⟨c2, k2⟩ : ∃ c, w.cell? ⟨b, off + 2, none⟩ = some c := cell_some hb (by omega)
  obtain ⟨c3, k3⟩ : ∃ c, w.cell? ⟨b, off + 3, none⟩ = some c := cell_some hb (by omega)
  have hlt := lt_of_block hb
  clear hb ho hu
  simp only [execOp, hp, hx, setM]
  simp [go_sem, hlt, run_store _ _ _ _ _ o0, o0, run_store _ _ _ _ _ o1, o1, run_store _ _ _ _ _ o2, o2, run_store _ _ _ _ _ o3, o3, k0, k1, k2, k3, f0, f1, f2, f3]
theorem new_z : NewOk Tryd.prog 46 [.int .i64 0, .bool false, .slice none 0 0] := by
  intro ρ w d ty pos af gd
  simp only [execOp]
  simp [go_sem]
theorem new_q : NewOk Tryd.prog 48 [.int .i64 0, .bool false, .slice none 0 0, .int .i64 0, .bool false, .slice none 0 0] := by
  intro ρ w d ty pos af gd
  simp only [execOp]
  simp [go_sem]
theorem new_e : NewOk Tryd.prog 74 [.int .i64 0, .bool false, .slice none 0 0, .int .i64 0, .bool false, .slice none 0 0, .int .i64 0, .bool false, .slice none 0 0, .int .i64 0, .bool false, .slice none 0 0] := by
  intro ρ w d ty pos af gd
  simp only [execOp]
  simp [go_sem]
theorem new_r : NewOk Tryd.prog 23 [.int .i64 0, .int .i64 0] := by
  intro ρ w d ty pos af gd
  simp only [execOp]
  simp [go_sem]
theorem new_s : NewOk Tryd.prog 35 [.int .i64 0, .int .i64 0, .int .i64 0, .int .i64 0] := by
  intro ρ w d ty pos af gd
  simp only [execOp]
  simp [go_sem]
set_option maxRecDepth 100000 in
theorem build_e : Build2 Tryd.prog 74 6 6 := by
  intro ρ w d x y us vs ty pos af gd h1 h2 e1 e2
  match us, h1, vs, h2 with
  | [u0, u1, u2, u3, u4, u5], _, [v0, v1, v2, v3, v4, v5], _ =>
  simp only [execOp]
  simp [go_sem, e1, e2]
  try rfl
set_option maxRecDepth 100000 in
theorem build_s : Build2 Tryd.prog 35 2 2 := by
  intro ρ w d x y us vs ty pos af gd h1 h2 e1 e2
  match us, h1, vs, h2 with
  | [u0, u1], _, [v0, v1], _ =>
  simp only [execOp]
  simp [go_sem, e1, e2]
  try rfl
theorem build0_s : Build0 Tryd.prog 35 [.int .i64 0, .int .i64 0, .int .i64 0, .int .i64 0] := by
  intro ρ w d ty pos af gd
  simp only [execOp]
  simp [go_sem]
  try rfl
set_option maxRecDepth 100000 in
theorem buildsl_q1 : BuildSl Tryd.prog 110 48 1 6 := by
  intro ρ w d ps cs ty pos af gd hm h
  match ps, hm with
  | [(i0, x0)], _ =>
  obtain ⟨us0, r0, rfl, l0, e0, g0, h⟩ := h
  cases h
  match us0, l0 with
  | [a0_0, a0_1, a0_2, a0_3, a0_4, a0_5], _ =>
  dsimp only at e0 g0
  subst e0
  simp only [execOp]
  simp [go_sem, g0]
  try rfl
set_option maxRecDepth 100000 in
theorem buildsl_q3 : BuildSl Tryd.prog 110 48 3 6 := by
  intro ρ w d ps cs ty pos af gd hm h
  match ps, hm with
  | [(i0, x0), (i1, x1), (i2, x2)], _ =>
  obtain ⟨us0, r0, rfl, l0, e0, g0, h⟩ := h
  obtain ⟨us1, r1, rfl, l1, e1, g1, h⟩ := h
  obtain ⟨us2, r2, rfl, l2, e2, g2, h⟩ := h
  cases h
  match us0, l0 with
  | [a0_0, a0_1, a0_2, a0_3, a0_4, a0_5], _ =>
  match us1, l1 with
  | [a1_0, a1_1, a1_2, a1_3, a1_4, a1_5], _ =>
  match us2, l2 with
  | [a2_0, a2_1, a2_2, a2_3, a2_4, a2_5], _ =>
  dsimp only at e0 e1 e2 g0 g1 g2
  subst e0 e1 e2
  simp only [execOp]
  simp [go_sem, g0, g1, g2]
  try rfl
set_option maxRecDepth 100000 in
theorem buildsl_s2 : BuildSl Tryd.prog 109 35 2 4 := by
  intro ρ w d ps cs ty pos af gd hm h
  match ps, hm with
  | [(i0, x0), (i1, x1)], _ =>
  obtain ⟨us0, r0, rfl, l0, e0, g0, h⟩ := h
  obtain ⟨us1, r1, rfl, l1, e1, g1, h⟩ := h
  cases h
  match us0, l0 with
  | [a0_0, a0_1, a0_2, a0_3], _ =>
  match us1, l1 with
  | [a1_0, a1_1, a1_2, a1_3], _ =>
  dsimp only at e0 e1 g0 g1
  subst e0 e1
  simp only [execOp]
  simp [go_sem, g0, g1]
  try rfl
theorem addr_e0 : AddrOk Tryd.prog (fun x => .indexAddr 74 x (.const (.int .i64 0))) 0 := by
  intro a w d x b off ty pos af gd hx
  have hc : ∀ v, a.eval (.const v) = v := fun _ => rfl
  simp only [execOp, hx, hc]
  simp [go_sem]
set_option maxRecDepth 100000 in
theorem s_addr_e0 {Q : Exit → Act → World → Prop} {l : List Oper} {n : Nat} {T : Nat → World → Value → Prop} {G : World → Prop} {al : List Nat} {a0 : Act} {k d : Nat} {ty : TypeId} {pos : String} {af : Array Edge} {gd : Option (Nat × Bool)} {b off off' : Nat} {x : Operand} (hal : al.contains k = false) (hx : Rg.ArgOk l n T a0 k x (Rg.EqT (.pointer (some ⟨b, off, none⟩)))) (ho : off + 0 = off') (hT : T k = Rg.EqT (.pointer (some ⟨b, off', none⟩))) :
    Rg.Step Tryd.prog Q l n T G Bel al a0 k { dst := some d, op := .indexAddr 74 x (.const (.int .i64 0)), type := ty, pos := pos, after := af, guard := gd } := by
  exact s_addr (P := Tryd.prog) (o := fun x => .indexAddr 74 x (.const (.int .i64 0))) addr_e0 hal hx ho hT
theorem addr_e1 : AddrOk Tryd.prog (fun x => .indexAddr 74 x (.const (.int .i64 1))) 6 := by
  intro a w d x b off ty pos af gd hx
  have hc : ∀ v, a.eval (.const v) = v := fun _ => rfl
  simp only [execOp, hx, hc]
  simp [go_sem]
set_option maxRecDepth 100000 in
theorem s_addr_e1 {Q : Exit → Act → World → Prop} {l : List Oper} {n : Nat} {T : Nat → World → Value → Prop} {G : World → Prop} {al : List Nat} {a0 : Act} {k d : Nat} {ty : TypeId} {pos : String} {af : Array Edge} {gd : Option (Nat × Bool)} {b off off' : Nat} {x : Operand} (hal : al.contains k = false) (hx : Rg.ArgOk l n T a0 k x (Rg.EqT (.pointer (some ⟨b, off, none⟩)))) (ho : off + 6 = off') (hT : T k = Rg.EqT (.pointer (some ⟨b, off', none⟩))) :
    Rg.Step Tryd.prog Q l n T G Bel al a0 k { dst := some d, op := .indexAddr 74 x (.const (.int .i64 1)), type := ty, pos := pos, after := af, guard := gd } := by
  exact s_addr (P := Tryd.prog) (o := fun x => .indexAddr 74 x (.const (.int .i64 1))) addr_e1 hal hx ho hT
theorem addr_s0 : AddrOk Tryd.prog (fun x => .fieldAddr 35 x 0) 0 := by
  intro a w d x b off ty pos af gd hx
  have hc : ∀ v, a.eval (.const v) = v := fun _ => rfl
  simp only [execOp, hx, hc]
  simp [go_sem]
set_option maxRecDepth 100000 in
theorem s_addr_s0 {Q : Exit → Act → World → Prop} {l : List Oper} {n : Nat} {T : Nat → World → Value → Prop} {G : World → Prop} {al : List Nat} {a0 : Act} {k d : Nat} {ty : TypeId} {pos : String} {af : Array Edge} {gd : Option (Nat × Bool)} {b off off' : Nat} {x : Operand} (hal : al.contains k = false) (hx : Rg.ArgOk l n T a0 k x (Rg.EqT (.pointer (some ⟨b, off, none⟩)))) (ho : off + 0 = off') (hT : T k = Rg.EqT (.pointer (some ⟨b, off', none⟩))) :
    Rg.Step Tryd.prog Q l n T G Bel al a0 k { dst := some d, op := .fieldAddr 35 x 0, type := ty, pos := pos, after := af, guard := gd } := by
  exact s_addr (P := Tryd.prog) (o := fun x => .fieldAddr 35 x 0) addr_s0 hal hx ho hT
theorem addr_s1 : AddrOk Tryd.prog (fun x => .fieldAddr 35 x 1) 2 := by
  intro a w d x b off ty pos af gd hx
  have hc : ∀ v, a.eval (.const v) = v := fun _ => rfl
  simp only [execOp, hx, hc]
  simp [go_sem]
set_option maxRecDepth 100000 in
theorem s_addr_s1 {Q : Exit → Act → World → Prop} {l : List Oper} {n : Nat} {T : Nat → World → Value → Prop} {G : World → Prop} {al : List Nat} {a0 : Act} {k d : Nat} {ty : TypeId} {pos : String} {af : Array Edge} {gd : Option (Nat × Bool)} {b off off' : Nat} {x : Operand} (hal : al.contains k = false) (hx : Rg.ArgOk l n T a0 k x (Rg.EqT (.pointer (some ⟨b, off, none⟩)))) (ho : off + 2 = off') (hT : T k = Rg.EqT (.pointer (some ⟨b, off', none⟩))) :
    Rg.Step Tryd.prog Q l n T G Bel al a0 k { dst := some d, op := .fieldAddr 35 x 1, type := ty, pos := pos, after := af, guard := gd } := by
  exact s_addr (P := Tryd.prog) (o := fun x => .fieldAddr 35 x 1) addr_s1 hal hx ho hT
theorem addr_q0 : AddrOk Tryd.prog (fun x => .fieldAddr 48 x 0) 0 := by
  intro a w d x b off ty pos af gd hx
  have hc : ∀ v, a.eval (.const v) = v := fun _ => rfl
  simp only [execOp, hx, hc]
  simp [go_sem]
set_option maxRecDepth 100000 in
theorem s_addr_q0 {Q : Exit → Act → World → Prop} {l : List Oper} {n : Nat} {T : Nat → World → Value → Prop} {G : World → Prop} {al : List Nat} {a0 : Act} {k d : Nat} {ty : TypeId} {pos : String} {af : Array Edge} {gd : Option (Nat × Bool)} {b off off' : Nat} {x : Operand} (hal : al.contains k = false) (hx : Rg.ArgOk l n T a0 k x (Rg.EqT (.pointer (some ⟨b, off, none⟩)))) (ho : off + 0 = off') (hT : T k = Rg.EqT (.pointer (some ⟨b, off', none⟩))) :
    Rg.Step Tryd.prog Q l n T G Bel al a0 k { dst := some d, op := .fieldAddr 48 x 0, type := ty, pos := pos, after := af, guard := gd } := by
  exact s_addr (P := Tryd.prog) (o := fun x => .fieldAddr 48 x 0) addr_q0 hal hx ho hT
theorem addr_q1 : AddrOk Tryd.prog (fun x => .fieldAddr 48 x 1) 3 := by
  intro a w d x b off ty pos af gd hx
  have hc : ∀ v, a.eval (.const v) = v := fun _ => rfl
  simp only [execOp, hx, hc]
  simp [go_sem]
set_option maxRecDepth 100000 in
theorem s_addr_q1 {Q : Exit → Act → World → Prop} {l : List Oper} {n : Nat} {T : Nat → World → Value → Prop} {G : World → Prop} {al : List Nat} {a0 : Act} {k d : Nat} {ty : TypeId} {pos : String} {af : Array Edge} {gd : Option (Nat × Bool)} {b off off' : Nat} {x : Operand} (hal : al.contains k = false) (hx : Rg.ArgOk l n T a0 k x (Rg.EqT (.pointer (some ⟨b, off, none⟩)))) (ho : off + 3 = off') (hT : T k = Rg.EqT (.pointer (some ⟨b, off', none⟩))) :
    Rg.Step Tryd.prog Q l n T G Bel al a0 k { dst := some d, op := .fieldAddr 48 x 1, type := ty, pos := pos, after := af, guard := gd } := by
  exact s_addr (P := Tryd.prog) (o := fun x => .fieldAddr 48 x 1) addr_q1 hal hx ho hT
end Sb

end Go.Proofs.YtfbcdfoohpkfeaaDoor
/- Ends of calls; calls of function values and of an interface's method; comparisons of errors. -/
namespace Go.Proofs.YtfbcdfoohpkfeaaDoor
open Go.RowKit

namespace Sb
/-- What lies at an address, as one value. -/
def LoadV (P : Program) (T : TypeId) (n : Nat) : Prop := ∀ (w : World) (b off : Nat) (us : List Value), us.length = n → (∀ i, i < n → w.cell? ⟨b, off + i, none⟩ = us[i]?) → (loadVar T ⟨b, off, none⟩).run P w = .ok (.agg us.toArray) w
theorem BoxL.loadv {P : Program} {w : World} {b : Nat} {TB T : TypeId} {ls : List Leaf} {n : Nat} (h : BoxL w b TB ls) (hL : LoadV P T n) (hn : lsize ls = n) : ∃ cs : List Value, (loadVar T ⟨b, 0, none⟩).run P w = .ok (.agg cs.toArray) w ∧ LOk w ls cs := by
  obtain ⟨cs, h1, h2⟩ := h
  have h3 := hL w b 0 cs (by rw [h2.len, hn]) (fun i hi => by
    have e : cs.length = n := by rw [h2.len, hn]
    have := cells_mid (c := []) (m := cs) (d := []) (by simpa using h1) i (by omega)
    simpa using this)
  exact ⟨cs, h3, h2⟩
section
variable {P : Program} {fn : Func} {a : Act} {w w0 : World} {bs : List Ent} {s s2 t t2 b b2 : Nat} {TB T TB2 T2 : TypeId} {ls ls2 : List Leaf} {n n2 : Nat} {u u2 : Value}
theorem end_t (hr : fn.results = #[.tmp t]) (ht : a.tmps.getD t undef = u) (hB : Below w0.heap.size w0 w) (hd : a.defers = []) : bodyPost P fn (RetT (Rg.EqT u) w0) .ret a w :=
  bodyPost_ret (v := u) (by simp only [results, hr]; simp [go_sem]; simpa using ht) hd ⟨u, rfl, hB, rfl⟩
theorem end_c (hr : fn.results = #[.cell s T]) (hL : LoadV P T n) (ht : a.tmps.getD s undef = .pointer (some ⟨b, 0, none⟩)) (hO : Own w0 bs w) (hm : (b, TB, ls) ∈ bs) (hn : lsize ls = n) (hd : a.defers = []) : bodyPost P fn (RetT (AggT ls) w0) .ret a w := by
  obtain ⟨cs, h1, h2⟩ := (hO.box b TB ls hm).2.loadv hL hn
  refine bodyPost_ret (v := .agg cs.toArray) ?_ hd ⟨_, rfl, hO.bel, cs, rfl, h2⟩
  rw [Array.getD_eq_getD_getElem?] at ht
  simp only [results, hr]
  clear hO hL
  generalize loadVar = ldv at *
  simp [ht, go_sem, h1]
theorem end_ct (hr : fn.results = #[.cell s T, .tmp t]) (hL : LoadV P T n) (ht : a.tmps.getD s undef = .pointer (some ⟨b, 0, none⟩)) (hu : a.tmps.getD t undef = u) (hO : Own w0 bs w) (hm : (b, TB, ls) ∈ bs) (hn : lsize ls = n) (hd : a.defers = []) : bodyPost P fn (RetT (TupT [AggT ls, Rg.EqT u]) w0) .ret a w := by
  obtain ⟨cs, h1, h2⟩ := (hO.box b TB ls hm).2.loadv hL hn
  refine bodyPost_ret (v := .tuple [.agg cs.toArray, u].toArray) ?_ hd ⟨_, rfl, hO.bel, _, rfl, ⟨_, _, rfl, ⟨cs, rfl, h2⟩, _, _, rfl, rfl, rfl⟩⟩
  rw [Array.getD_eq_getD_getElem?] at ht hu
  simp only [results, hr]
  clear hO hL
  generalize loadVar = ldv at *
  simp [ht, hu, go_sem, h1]
theorem end_ctt (hr : fn.results = #[.cell s T, .tmp t, .tmp t2]) (hL : LoadV P T n) (ht : a.tmps.getD s undef = .pointer (some ⟨b, 0, none⟩)) (hu : a.tmps.getD t undef = u) (hu2 : a.tmps.getD t2 undef = u2) (hO : Own w0 bs w) (hm : (b, TB, ls) ∈ bs) (hn : lsize ls = n) (hd : a.defers = []) : bodyPost P fn (RetT (TupT [AggT ls, Rg.EqT u, Rg.EqT u2]) w0) .ret a w := by
  obtain ⟨cs, h1, h2⟩ := (hO.box b TB ls hm).2.loadv hL hn
  refine bodyPost_ret (v := .tuple [.agg cs.toArray, u, u2].toArray) ?_ hd ⟨_, rfl, hO.bel, _, rfl, ⟨_, _, rfl, ⟨cs, rfl, h2⟩, _, _, rfl, rfl, _, _, rfl, rfl, rfl⟩⟩
  rw [Array.getD_eq_getD_getElem?] at ht hu hu2
  simp only [results, hr]
  clear hO hL
  generalize loadVar = ldv at *
  simp [ht, hu, hu2, go_sem, h1]
theorem end_cc (hr : fn.results = #[.cell s T, .cell s2 T2]) (hL : LoadV P T n) (hL2 : LoadV P T2 n2) (ht : a.tmps.getD s undef = .pointer (some ⟨b, 0, none⟩)) (ht2 : a.tmps.getD s2 undef = .pointer (some ⟨b2, 0, none⟩)) (hO : Own w0 bs w) (hm : (b, TB, ls) ∈ bs) (hm2 : (b2, TB2, ls2) ∈ bs) (hn : lsize ls = n) (hn2 : lsize ls2 = n2) (hd : a.defers = []) : bodyPost P fn (RetT (TupT [AggT ls, AggT ls2]) w0) .ret a w := by
  obtain ⟨cs, h1, h2⟩ := (hO.box b TB ls hm).2.loadv hL hn
  obtain ⟨cs2, h3, h4⟩ := (hO.box b2 TB2 ls2 hm2).2.loadv hL2 hn2
  refine bodyPost_ret (v := .tuple [.agg cs.toArray, .agg cs2.toArray].toArray) ?_ hd ⟨_, rfl, hO.bel, _, rfl, ⟨_, _, rfl, ⟨cs, rfl, h2⟩, _, _, rfl, ⟨cs2, rfl, h4⟩, rfl⟩⟩
  rw [Array.getD_eq_getD_getElem?] at ht ht2
  simp only [results, hr]
  clear hO hL
  generalize loadVar = ldv at *
  simp [ht, ht2, go_sem, h1, h3]
theorem end_cct (hr : fn.results = #[.cell s T, .cell s2 T2, .tmp t]) (hL : LoadV P T n) (hL2 : LoadV P T2 n2) (ht : a.tmps.getD s undef = .pointer (some ⟨b, 0, none⟩)) (ht2 : a.tmps.getD s2 undef = .pointer (some ⟨b2, 0, none⟩)) (hu : a.tmps.getD t undef = u) (hO : Own w0 bs w) (hm : (b, TB, ls) ∈ bs) (hm2 : (b2, TB2, ls2) ∈ bs) (hn : lsize ls = n) (hn2 : lsize ls2 = n2) (hd : a.defers = []) : bodyPost P fn (RetT (TupT [AggT ls, AggT ls2, Rg.EqT u]) w0) .ret a w := by
  obtain ⟨cs, h1, h2⟩ := (hO.box b TB ls hm).2.loadv hL hn
  obtain ⟨cs2, h3, h4⟩ := (hO.box b2 TB2 ls2 hm2).2.loadv hL2 hn2
  refine bodyPost_ret (v := .tuple [.agg cs.toArray, .agg cs2.toArray, u].toArray) ?_ hd ⟨_, rfl, hO.bel, _, rfl, ⟨_, _, rfl, ⟨cs, rfl, h2⟩, _, _, rfl, ⟨cs2, rfl, h4⟩, _, _, rfl, rfl, rfl⟩⟩
  rw [Array.getD_eq_getD_getElem?] at ht ht2 hu
  simp only [results, hr]
  clear hO hL
  generalize loadVar = ldv at *
  simp [ht, ht2, hu, go_sem, h1, h3]
end
theorem run_callv {P : Program} {F : Nat} (hF : ∀ (vs : Array Value) (w : World), (callFunc F vs).run P w = .ok (.enter F vs) w) {a : Act} {w : World} {d : Option Tmp} {x : Operand} {xs : Array Operand} {ats : Array TypeId} {ty : TypeId} {pos : String} {af : Array Edge} {gd : Option (Nat × Bool)} (hx : a.eval x = .func (.func F) #[] #[]) :
    (execOp a.eval { dst := d, op := .call { callee := .value x, args := xs, argTypes := ats }, type := ty, pos := pos, after := af, guard := gd }).run P w = .ok (.enter F (xs.map a.eval)) w := by
  have h := hF (#[] ++ xs.map a.eval ++ #[]) w
  rw [Array.empty_append, Array.append_empty] at h
  rw [← h]
  simp only [execOp, resolve, hx, Deferred.ofValue, invoke]
  simp only [pure_bind, Array.empty_append, Array.append_empty]
theorem s_callv2 {P : Program} {Q : Exit → Act → World → Prop} {l : List Oper} {n : Nat} {T : Nat → World → Value → Prop} {G : World → Prop} {al : List Nat} {a0 : Act} {k d : Nat} {ty : TypeId} {pos : String} {af : Array Edge} {gd : Option (Nat × Bool)} {F : Nat} {fn : Func} {f x1 x2 : Operand} {A1 A2 : World → Value → Prop} {ats : Array TypeId}
    (hF : P.funcs[F]? = some fn) (hn : (!(fn.name == "runtime.NumGoroutine") && fn.body.isSome) = true) (hal : al.contains k = false) (hGs : ∀ W W', G W → Bel W W' → G W') (hf : Rg.ArgOk l n T a0 k f (Rg.EqT (.func (.func F) #[] #[]))) (h1 : Rg.ArgOk l n T a0 k x1 A1) (h2 : Rg.ArgOk l n T a0 k x2 A2)
    (hc : ∀ (W : World) (v1 v2 : Value), G W → A1 W v1 → A2 W v2 → Calls P F #[v1, v2] W fun e w' => ∃ u, e = .returned u ∧ Bel W w' ∧ T k w' u) :
    Rg.Step P Q l n T G Bel al a0 k { dst := some d, op := .call { callee := .value f, args := #[x1, x2], argTypes := ats }, type := ty, pos := pos, after := af, guard := gd } := by
  intro a w hG hO hN
  refine wp_enter (run_callv (callFunc_ok hF hn) (hf a w hO hN)) ?_
  simp only [List.map_toArray, List.map_cons, List.map_nil]
  refine (hc w (a.eval x1) (a.eval x2) hG (h1 a w hO hN) (h2 a w hO hN)).mono ?_
  rintro e w' ⟨u, rfl, hb, ht⟩
  exact ⟨u, rfl, u, rfl, hGs _ _ hG hb, hb, ht, fun h => by rw [hal] at h; cases h⟩
/-- A number as an interface's value. -/
def IfT (TI : TypeId) (ls : List Leaf) : World → Value → Prop := fun W v => ∃ u, v = .iface TI u ∧ AggT ls W u
theorem stab_if (TI : TypeId) (ls : List Leaf) : Rg.Stab Bel (IfT TI ls) := by
  rintro w w' v hb ⟨u, rfl, h2⟩
  exact ⟨u, rfl, stab_agg ls _ _ _ hb h2⟩
set_option maxRecDepth 100000 in
theorem s_iface {Q : Exit → Act → World → Prop} {l : List Oper} {n : Nat} {T : Nat → World → Value → Prop} {G : World → Prop} {al : List Nat} {a0 : Act} {k d : Nat} {ty : TypeId} {pos : String} {af : Array Edge} {gd : Option (Nat × Bool)} {x : Operand} {ls : List Leaf} (hal : al.contains k = false) (hx : Rg.ArgOk l n T a0 k x (AggT ls)) (hT : T k = IfT 48 ls) :
    Rg.Step Tryd.prog Q l n T G Bel al a0 k { dst := some d, op := .makeInterface 48 x, type := ty, pos := pos, after := af, guard := gd } := by
  intro a w hG hO hN
  have h := hx a w hO hN
  have hr : (execOp a.eval { dst := some d, op := .makeInterface 48 x, type := ty, pos := pos, after := af, guard := gd }).run Tryd.prog w = .ok (.value (.iface 48 (a.eval x))) w := by
    simp only [execOp]
    simp [go_sem]
  exact wp_value hr ⟨_, rfl, hG, Below.refl _ _, by rw [hT]; exact ⟨_, rfl, h⟩, fun h => by rw [hal] at h; cases h⟩
theorem meth_cmp (u v : Value) (w : World) : (callMethod (.iface 48 u) "Cmp" #[v]).run Tryd.prog w = .ok (.enter 28 #[u, v]) w := by kernel_rfl
set_option maxRecDepth 100000 in
theorem s_invoke {Q : Exit → Act → World → Prop} {l : List Oper} {n : Nat} {T : Nat → World → Value → Prop} {G : World → Prop} {al : List Nat} {a0 : Act} {k d : Nat} {ty : TypeId} {pos : String} {af : Array Edge} {gd : Option (Nat × Bool)} {x y : Operand} {ls : List Leaf} {A : World → Value → Prop} {ats : Array TypeId}
    (hal : al.contains k = false) (hGs : ∀ W W', G W → Bel W W' → G W') (hx : Rg.ArgOk l n T a0 k x (IfT 48 ls)) (hy : Rg.ArgOk l n T a0 k y A)
    (hc : ∀ (W : World) (v1 v2 : Value), G W → AggT ls W v1 → A W v2 → Calls Tryd.prog 28 #[v1, v2] W fun e w' => ∃ u, e = .returned u ∧ Bel W w' ∧ T k w' u) :
    Rg.Step Tryd.prog Q l n T G Bel al a0 k { dst := some d, op := .call { callee := .invoke x "Cmp", args := #[y], argTypes := ats }, type := ty, pos := pos, after := af, guard := gd } := by
  intro a w hG hO hN
  obtain ⟨u, e, h⟩ := hx a w hO hN
  have hr : (execOp a.eval { dst := some d, op := .call { callee := .invoke x "Cmp", args := #[y], argTypes := ats }, type := ty, pos := pos, after := af, guard := gd }).run Tryd.prog w = .ok (.enter 28 #[u, a.eval y]) w := by
    have hm := meth_cmp u (a.eval y) w
    have he : (#[Value.iface 48 u] ++ #[a.eval y]).extract 1 (#[Value.iface 48 u] ++ #[a.eval y]).size = #[a.eval y] := by simp
    simp only [execOp, resolve, e, invoke, pure_bind, List.map_toArray, List.map_cons, List.map_nil]
    have h0 : (#[Value.iface 48 u] ++ #[a.eval y])[0]? = some (Value.iface 48 u) := by simp
    simp only [h0, he]
    exact hm
  refine wp_enter hr ?_
  refine (hc w u (a.eval y) hG h (hy a w hO hN)).mono ?_
  rintro e w' ⟨u, rfl, hb, ht⟩
  exact ⟨u, rfl, u, rfl, hGs _ _ hG hb, hb, ht, fun h => by rw [hal] at h; cases h⟩
theorem argFn {l : List Oper} {n : Nat} {T : Nat → World → Value → Prop} {a0 : Act} {k : Nat} (f : Nat) : Rg.ArgOk l n T a0 k (.func f) (Rg.EqT (.func (.func f) #[] #[])) := fun _ _ _ _ => rfl
theorem bel_refl (w : World) : Bel w w := Below.refl _ _
theorem guard_un {P : Program} {Q : Exit → Act → World → Prop} {l : List Oper} {n : Nat} {T : Nat → World → Value → Prop} {G : World → Prop} {E : World → World → Prop} {al : List Nat} {a0 : Act} {k : Nat} {o : Oper} {g : Nat} {d : Tmp} {c : Bool} (hg : o.guard = some (g, c)) (hw : Rg.waits l k g d = true) (hT : T g = Rg.EqT undef) (hE : ∀ w, E w w) (hk : al.contains k = false) (hu : T k = Rg.EqT undef) : Rg.Step2 P Q l n T G E al a0 k o := fun a w hG hO hN => by
  have hv := hN g d hw
  rw [hT] at hv
  have hv' : a.tmps.getD d undef = undef := hv
  have hy : yielded l.toArray a.tmps g = none := by
    have h1 : (l.toArray[g]?).bind (·.dst) = some d := by simpa [Rg.dstOf] using Rg.waits_dst hw
    unfold yielded
    rw [h1]
    cases h : a.tmps[d]? with
    | none => simp [h]
    | some v => simp [h] at hv'; simp [h, hv', undef]
  rw [if_neg (by simp [Region.wanted, hg, hy])]
  exact ⟨hE w, by rw [hu]; rfl, fun h => by rw [hk] at h; cases h⟩
set_option maxRecDepth 100000 in
theorem loadv_z : LoadV Tryd.prog 46 3 := by
  intro w b off us hl hc
  match us, hl with
  | [u0, u1, u2], _ =>
  have k0 : w.cell? ⟨b, off, none⟩ = some u0 := by simpa using hc 0 (by omega)
  have k1 : w.cell? ⟨b, off + 1, none⟩ = some u1 := by simpa using hc 1 (by omega)
  have k2 : w.cell? ⟨b, off + 2, none⟩ = some u2 := by simpa using hc 2 (by omega)
  clear hc
  simp [go_sem, k0, k1, k2]
set_option maxRecDepth 100000 in
theorem loadv_q : LoadV Tryd.prog 48 6 := by
  intro w b off us hl hc
  match us, hl with
  | [u0, u1, u2, u3, u4, u5], _ =>
  have k0 : w.cell? ⟨b, off, none⟩ = some u0 := by simpa using hc 0 (by omega)
  have k1 : w.cell? ⟨b, off + 1, none⟩ = some u1 := by simpa using hc 1 (by omega)
  have k2 : w.cell? ⟨b, off + 2, none⟩ = some u2 := by simpa using hc 2 (by omega)
  have k3 : w.cell? ⟨b, off + 3, none⟩ = some u3 := by simpa using hc 3 (by omega)
  have k4 : w.cell? ⟨b, off + 4, none⟩ = some u4 := by simpa using hc 4 (by omega)
  have k5 : w.cell? ⟨b, off + 5, none⟩ = some u5 := by simpa using hc 5 (by omega)
  clear hc
  simp [go_sem, k0, k1, k2, k3, k4, k5]
set_option maxRecDepth 100000 in
theorem loadv_e : LoadV Tryd.prog 74 12 := by
  intro w b off us hl hc
  match us, hl with
  | [u0, u1, u2, u3, u4, u5, u6, u7, u8, u9, u10, u11], _ =>
  have k0 : w.cell? ⟨b, off, none⟩ = some u0 := by simpa using hc 0 (by omega)
  have k1 : w.cell? ⟨b, off + 1, none⟩ = some u1 := by simpa using hc 1 (by omega)
  have k2 : w.cell? ⟨b, off + 2, none⟩ = some u2 := by simpa using hc 2 (by omega)
  have k3 : w.cell? ⟨b, off + 3, none⟩ = some u3 := by simpa using hc 3 (by omega)
  have k4 : w.cell? ⟨b, off + 4, none⟩ = some u4 := by simpa using hc 4 (by omega)
  have k5 : w.cell? ⟨b, off + 5, none⟩ = some u5 := by simpa using hc 5 (by omega)
  have k6 : w.cell? ⟨b, off + 6, none⟩ = some u6 := by simpa using hc 6 (by omega)
  have k7 : w.cell? ⟨b, off + 7, none⟩ = some u7 := by simpa using hc 7 (by omega)
  have k8 : w.cell? ⟨b, off + 8, none⟩ = some u8 := by simpa using hc 8 (by omega)
  have k9 : w.cell? ⟨b, off + 9, none⟩ = some u9 := by simpa using hc 9 (by omega)
  have k10 : w.cell? ⟨b, off + 10, none⟩ = some u10 := by simpa using hc 10 (by omega)
  have k11 : w.cell? ⟨b, off + 11, none⟩ = some u11 := by simpa using hc 11 (by omega)
  clear hc
  simp [go_sem, k0, k1, k2, k3, k4, k5, k6, k7, k8, k9, k10, k11]
set_option maxRecDepth 100000 in
theorem loadv_s : LoadV Tryd.prog 35 4 := by
  intro w b off us hl hc
  match us, hl with
  | [u0, u1, u2, u3], _ =>
  have k0 : w.cell? ⟨b, off, none⟩ = some u0 := by simpa using hc 0 (by omega)
  have k1 : w.cell? ⟨b, off + 1, none⟩ = some u1 := by simpa using hc 1 (by omega)
  have k2 : w.cell? ⟨b, off + 2, none⟩ = some u2 := by simpa using hc 2 (by omega)
  have k3 : w.cell? ⟨b, off + 3, none⟩ = some u3 := by simpa using hc 3 (by omega)
  clear hc
  simp [go_sem, k0, k1, k2, k3]
theorem run_eqlE {ρ : Operand → Value} {w : World} {d : Option Tmp} {x y : Operand} {o z : Int} {ty : TypeId} {pos : String} {af : Array Edge} {gd : Option (Nat × Bool)} (h : ρ x = .int .i64 o) (h' : ρ y = .int .i64 z) :
    (execOp ρ { dst := d, op := .binOp .eql 24 x y 24, type := ty, pos := pos, after := af, guard := gd }).run Tryd.prog w = .ok (.value (.bool (o == z))) w := by
  simp only [execOp, h, h']
  simp [go_sem, Tryd.underlying24]
theorem s_eqlE {Q : Exit → Act → World → Prop} {l : List Oper} {n : Nat} {T : Nat → World → Value → Prop} {G : World → Prop} {al : List Nat} {a0 : Act} {k d : Nat} {ty : TypeId} {pos : String} {af : Array Edge} {gd : Option (Nat × Bool)} {x y : Operand} {o z : Int} {b : Bool}
    (hal : al.contains k = false) (hx : Rg.ArgOk l n T a0 k x (Rg.EqT (.int .i64 o))) (hy : Rg.ArgOk l n T a0 k y (Rg.EqT (.int .i64 z))) (hT : T k = Rg.EqT (.bool b)) (hb : (o == z) = b) : Rg.Step Tryd.prog Q l n T G Bel al a0 k { dst := some d, op := .binOp .eql 24 x y 24, type := ty, pos := pos, after := af, guard := gd } := by
  intro a w hG hO hN
  exact wp_value (P := Tryd.prog) (run_eqlE (hx a w hO hN) (hy a w hO hN)) ⟨_, rfl, hG, Below.refl _ _, by rw [hT, hb]; rfl, fun h => by rw [hal] at h; cases h⟩
theorem run_neqE {ρ : Operand → Value} {w : World} {d : Option Tmp} {x y : Operand} {o z : Int} {ty : TypeId} {pos : String} {af : Array Edge} {gd : Option (Nat × Bool)} (h : ρ x = .int .i64 o) (h' : ρ y = .int .i64 z) :
    (execOp ρ { dst := d, op := .binOp .neq 24 x y 24, type := ty, pos := pos, after := af, guard := gd }).run Tryd.prog w = .ok (.value (.bool (o != z))) w := by
  simp only [execOp, h, h']
  simp [go_sem, Tryd.underlying24]
theorem s_neqE {Q : Exit → Act → World → Prop} {l : List Oper} {n : Nat} {T : Nat → World → Value → Prop} {G : World → Prop} {al : List Nat} {a0 : Act} {k d : Nat} {ty : TypeId} {pos : String} {af : Array Edge} {gd : Option (Nat × Bool)} {x y : Operand} {o z : Int} {b : Bool}
    (hal : al.contains k = false) (hx : Rg.ArgOk l n T a0 k x (Rg.EqT (.int .i64 o))) (hy : Rg.ArgOk l n T a0 k y (Rg.EqT (.int .i64 z))) (hT : T k = Rg.EqT (.bool b)) (hb : (o != z) = b) : Rg.Step Tryd.prog Q l n T G Bel al a0 k { dst := some d, op := .binOp .neq 24 x y 24, type := ty, pos := pos, after := af, guard := gd } := by
  intro a w hG hO hN
  exact wp_value (P := Tryd.prog) (run_neqE (hx a w hO hN) (hy a w hO hN)) ⟨_, rfl, hG, Below.refl _ _, by rw [hT, hb]; rfl, fun h => by rw [hal] at h; cases h⟩
end Sb

end Go.Proofs.YtfbcdfoohpkfeaaDoor
/- The number of two ints. -/
namespace Go.Proofs.YtfbcdfoohpkfeaaDoor
open Go.RowKit

end Go.Proofs.YtfbcdfoohpkfeaaDoor
/- The simplest number between two: on natural numbers. -/
namespace Go.Proofs.YtfbcdfoohpkfeaaDoor
namespace Wd

/-- Numerator and denominator of the simplest number from a/b to c/d. -/
def simp : Nat → Nat → Nat → Nat → Nat → Nat × Nat
  | 0, _, _, _, _ => (0, 1)
  | f + 1, a, b, c, d => if b = 1 then (a, 1) else if a / b < c / d then (a / b + 1, 1)
    else (a / b * (simp f d (c - a / b * d) b (a - a / b * b)).1 + (simp f d (c - a / b * d) b (a - a / b * b)).2, (simp f d (c - a / b * d) b (a - a / b * b)).1)

structure SimpOk (a b c d : Nat) : Prop where
  pa : 0 < a
  pb : 0 < b
  pc : 0 < c
  pd : 0 < d
  co : a.Coprime b
  co2 : c.Coprime d
  le : a * d ≤ c * b

theorem sub_div_mul (a b : Nat) : a - a / b * b = a % b := by
  have := Nat.div_add_mod a b
  rw [Nat.mul_comm] at this
  omega
theorem SimpOk.step {a b c d : Nat} (h : SimpOk a b c d) (hb : b ≠ 1) (hk : ¬ a / b < c / d) :
    SimpOk d (c - a / b * d) b (a - a / b * b) ∧ c / d = a / b ∧ c - a / b * d = c % d ∧ c - a / b * d < d ∧ a - a / b * b < b := by
  have ha := h.pa; have hb0 := h.pb; have hc := h.pc; have hd := h.pd
  have e1 := Nat.div_add_mod a b
  have r0 : a % b ≠ 0 := fun e => by
    have hdv := Nat.dvd_of_mod_eq_zero e
    have := Nat.Coprime.eq_one_of_dvd h.co.symm hdv
    exact hb this
  have hkd : a / b ≤ c / d := by
    rw [Nat.le_div_iff_mul_le hd]
    have h2 : a / b * b * d ≤ c * b := Nat.le_trans (Nat.mul_le_mul_right _ (Nat.div_mul_le_self a b)) h.le
    rw [Nat.mul_right_comm] at h2
    exact Nat.le_of_mul_le_mul_right h2 hb0
  have hq : c / d = a / b := by omega
  have e2 : c - a / b * d = c % d := by rw [← hq]; exact sub_div_mul c d
  have e3 := sub_div_mul a b
  have e4 := Nat.div_add_mod c d
  have hle : a % b * d ≤ c % d * b := by
    have hle := h.le
    rw [hq] at e4
    generalize a / b = k at *
    generalize a % b = r at *
    generalize c % d = s at *
    subst e1 e4
    rw [Nat.add_mul, Nat.add_mul] at hle
    have : b * k * d = d * k * b := by rw [Nat.mul_comm b k, Nat.mul_assoc, Nat.mul_comm b d, ← Nat.mul_assoc, Nat.mul_comm k d]
    omega
  have s0 : 0 < c % d := by
    rcases Nat.eq_zero_or_pos (c % d) with e | e
    · rw [e, Nat.zero_mul] at hle
      have := Nat.mul_pos (Nat.pos_of_ne_zero r0) hd
      omega
    · exact e
  rw [e2, e3]
  refine ⟨⟨hd, s0, hb0, Nat.pos_of_ne_zero r0, ?_, ?_, ?_⟩, hq, rfl, Nat.mod_lt _ hd, Nat.mod_lt _ hb0⟩
  · have := h.co2
    unfold Nat.Coprime at *
    rw [Nat.gcd_comm, ← Nat.gcd_rec, Nat.gcd_comm]; exact this
  · have := h.co
    unfold Nat.Coprime at *
    rw [Nat.gcd_comm, ← Nat.gcd_rec, Nat.gcd_comm]; exact this
  · rw [Nat.mul_comm, Nat.mul_comm b]; exact hle
/-- A fraction of natural numbers. -/
def fr (n d : Nat) : Rat := Rat.divInt (n : Int) (d : Int)
end Wd
end Go.Proofs.YtfbcdfoohpkfeaaDoor
