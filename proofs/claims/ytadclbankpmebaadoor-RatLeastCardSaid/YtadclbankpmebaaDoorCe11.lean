/- Part 11 of the texts beneath a law of layer 1: RfQn, RfQs, Simp, NearM, NearS, NbG, SimT, SimpL, NearT, RfAbs. -/
import Derived.Test.YtadclbankpmebaaDoorCe10
/- The walks through the opposite and the difference of numbers of the reference. -/
namespace Go.Proofs.YtadclbankpmebaaDoor
open Go.RowKit

set_option maxRecDepth 100000 in
set_option maxHeartbeats 16000000 in
theorem qneg_walk (A1 : Option Addr) (c1 : Nat) (l1 : List Nat) (m1 : Bool) (A2 : Option Addr) (c2 : Nat) (l2 : List Nat) (m2 : Bool) (z1 b1 n : Int) (p q : Rat) (w : World) (f1 : WholeF w A1 c1 l1 m1 z1)
    (hd1 : ∀ W, Below w.heap.size w W → Calls Tryd.prog 46 #[(Value.agg #[.slice A1 l1.length c1, .bool m1, .slice A2 l2.length c2, .bool m2])] W fun e w' => WholeR W b1 e w') (hn : ∀ (A7 : Option Addr) (c7 : Nat) (l7 : List Nat) (m7 : Bool) (W : World), Below w.heap.size w W → WholeF W A7 c7 l7 m7 z1 → Calls Tryd.prog 79 #[(Value.agg #[.slice A7 l7.length c7, .bool m7])] W fun e w' => WholeR W n e w') (hnum : n = q.num) (hden : b1 = (q.den : Int)) :
    Calls Tryd.prog 52 #[(Value.agg #[.slice A1 l1.length c1, .bool m1, .slice A2 l2.length c2, .bool m2])] w fun e w' => QR w q e w' := by
  have H1 := hide f1
  clear f1
  have HD1 := hide hd1
  have HN := hide hn
  clear hd1 hn
  go_enter Tryd.func52, Tryd.ntmps52
  go_upto_region 1 with fail
  obtain ⟨n0, n1, hsz, hw0⟩ := two_new w (.cells #[.slice A1 l1.length c1, .bool m1, .slice A2 l2.length c2, .bool m2] 37) (.cells #[.slice none 0 0, .bool false, .slice none 0 0, .bool false] 37)
  generalize ((w.alloc (.cells #[.slice A1 l1.length c1, .bool m1, .slice A2 l2.length c2, .bool m2] 37)).alloc (.cells #[.slice none 0 0, .bool false, .slice none 0 0, .bool false] 37)) = W0 at *
  have k0_0 : W0.cell? ⟨w.heap.size, 0, none⟩ = some (.slice A1 l1.length c1) := cells_of n0 0
  have k0_1 : W0.cell? ⟨w.heap.size, 1, none⟩ = some (.bool m1) := cells_of n0 1
  have k0_2 : W0.cell? ⟨w.heap.size, 2, none⟩ = some (.slice A2 l2.length c2) := cells_of n0 2
  have k0_3 : W0.cell? ⟨w.heap.size, 3, none⟩ = some (.bool m2) := cells_of n0 3
  have q0 : w.heap.size < W0.heap.size := by omega
  have k1_0 : W0.cell? ⟨w.heap.size + 1, 0, none⟩ = some (.slice none 0 0) := cells_of n1 0
  have k1_1 : W0.cell? ⟨w.heap.size + 1, 1, none⟩ = some (.bool false) := cells_of n1 1
  have k1_2 : W0.cell? ⟨w.heap.size + 1, 2, none⟩ = some (.slice none 0 0) := cells_of n1 2
  have k1_3 : W0.cell? ⟨w.heap.size + 1, 3, none⟩ = some (.bool false) := cells_of n1 3
  have q1 : w.heap.size + 1 < W0.heap.size := by omega
  have f1_0 := unfrozen_of n1 0
  have f1_1 := unfrozen_of n1 1
  have f1_2 := unfrozen_of n1 2
  have f1_3 := unfrozen_of n1 3
  have NR := Lib.hid n1
  clear hsz n0 n1
  replace H1 := hide ((unhide H1).below hw0)
  go_upto_region 1 with fail
  have KEEP := hide (show ∀ X, Below W0.heap.size W0 X → X.cell? ⟨w.heap.size, 0, none⟩ = some (.slice A1 l1.length c1) ∧ X.cell? ⟨w.heap.size, 1, none⟩ = some (.bool m1) ∧ X.cell? ⟨w.heap.size, 2, none⟩ = some (.slice A2 l2.length c2) ∧ X.cell? ⟨w.heap.size, 3, none⟩ = some (.bool m2) from fun X hB => ⟨keep_cell hB q0 k0_0, keep_cell hB q0 k0_1, keep_cell hB q0 k0_2, keep_cell hB q0 k0_3⟩)
  go_region_held3 (fun w' => w'.cell? ⟨w.heap.size, 0, none⟩ = some (.slice A1 l1.length c1) ∧ w'.cell? ⟨w.heap.size, 1, none⟩ = some (.bool m1) ∧ w'.cell? ⟨w.heap.size, 2, none⟩ = some (.slice A2 l2.length c2) ∧ w'.cell? ⟨w.heap.size, 3, none⟩ = some (.bool m2)) (first | with_reducible exact ⟨(cell_set4 _ _ _ _ _ _ (by omega)).trans (keep_cell hbw q0 k0_0), (cell_set4 _ _ _ _ _ _ (by omega)).trans (keep_cell hbw q0 k0_1), (cell_set4 _ _ _ _ _ _ (by omega)).trans (keep_cell hbw q0 k0_2), (cell_set4 _ _ _ _ _ _ (by omega)).trans (keep_cell hbw q0 k0_3)⟩ | with_reducible exact (unhide KEEP) _ (by (repeat (first | with_reducible exact Below.refl _ _ | with_reducible assumption | with_reducible refine Below.drew ?_ | with_reducible refine below_alloc ?_ _)))) (first | (go_at_call_of 79 (Value.agg #[.slice A1 l1.length c1, .bool m1]); refine ((unhide HN) A1 c1 l1 m1 _ (below_step' hw0 (by (repeat (first | with_reducible exact Below.refl _ _ | with_reducible assumption | with_reducible refine Below.drew ?_ | with_reducible refine below_alloc ?_ _)))) (WholeF.below (unhide H1) (by (repeat (first | with_reducible exact Below.refl _ _ | with_reducible assumption | with_reducible refine Below.drew ?_ | with_reducible refine below_alloc ?_ _))))).mono ?_; rintro e w' ⟨A8, c8, l8, m8, rfl, hf8, hb8⟩; have hbw := below_step (w := W0) (by (repeat (first | with_reducible exact Below.refl _ _ | with_reducible assumption | with_reducible refine Below.drew ?_ | with_reducible refine below_alloc ?_ _))) hb8; have hsw := hbw.size; obtain ⟨hc, hfz⟩ := bcell hbw) | (go_at_call_of 46 (Value.agg #[.slice A1 l1.length c1, .bool m1, .slice A2 l2.length c2, .bool m2]); refine ((unhide HD1) _ (below_step' hw0 (by (repeat (first | with_reducible exact Below.refl _ _ | with_reducible assumption | with_reducible refine Below.drew ?_ | with_reducible refine below_alloc ?_ _))))).mono ?_; rintro e w' ⟨A5, c5, l5, m5, rfl, hf5, hb5⟩; have hf8 := WholeF.below (WholeF.below hf8 (by (repeat (first | with_reducible exact Below.refl _ _ | with_reducible assumption | with_reducible refine Below.drew ?_ | with_reducible refine below_alloc ?_ _)))) hb5; have hbw := below_step (w := W0) (by (repeat (first | with_reducible exact Below.refl _ _ | with_reducible assumption | with_reducible refine Below.drew ?_ | with_reducible refine below_alloc ?_ _))) hb5; have hsw := hbw.size; obtain ⟨hc, hfz⟩ := bcell hbw))
  all_goals
    have hblk : w'.heap[w.heap.size + 1]? = some (.cells #[.slice none 0 0, .bool false, .slice none 0 0, .bool false] 37 (0, 0)) := (hbw.block _ q1).trans NR.out
    have HBLK := Lib.hid hblk
    have hb9 : Below w.heap.size w w' := below_step' hw0 hbw
    have hfi := (hf8)
    have hfj := (hf5)
    clear hblk
    go_wp2_with fail
    exact bodyPost_ret (v := (Value.agg #[.slice A8 l8.length c8, .bool m8, .slice A5 l5.length c5, .bool m5])) (by simp [results, Tryd.results52, go_sem, hc, k1_0, k1_1, k1_2, k1_3, q1]) rfl
      ⟨A8, c8, l8, m8, A5, c5, l5, m5, rfl, hnum ▸ hfi.upto HBLK.out (noW2_4 _ _ _ _ _ _ _ _) (set4_grown _ _ _ _ _ _), hden ▸ hfj.upto HBLK.out (noW2_4 _ _ _ _ _ _ _ _) (set4_grown _ _ _ _ _ _), hb9.grown (set4_grown _ _ _ _ _ _) hb9.size (fun k hk => by injection hk with hk; omega)⟩

set_option maxRecDepth 100000 in
set_option maxHeartbeats 16000000 in
theorem qsub_walk (A1 : Option Addr) (c1 : Nat) (l1 : List Nat) (m1 : Bool) (A2 : Option Addr) (c2 : Nat) (l2 : List Nat) (m2 : Bool) (A3 : Option Addr) (c3 : Nat) (l3 : List Nat) (m3 : Bool) (A4 : Option Addr) (c4 : Nat) (l4 : List Nat) (m4 : Bool) (z1 : Int) (p q : Rat) (w : World) 
    (hn : ∀ W, Below w.heap.size w W → Calls Tryd.prog 52 #[(Value.agg #[.slice A3 l3.length c3, .bool m3, .slice A4 l4.length c4, .bool m4])] W fun e w' => QR W p e w') (ha : ∀ (A7 : Option Addr) (c7 : Nat) (l7 : List Nat) (m7 : Bool) (A8 : Option Addr) (c8 : Nat) (l8 : List Nat) (m8 : Bool) (W : World), Below w.heap.size w W → WholeF W A7 c7 l7 m7 p.num → WholeF W A8 c8 l8 m8 (p.den : Int) → Calls Tryd.prog 51 #[(Value.agg #[.slice A1 l1.length c1, .bool m1, .slice A2 l2.length c2, .bool m2]), (Value.agg #[.slice A7 l7.length c7, .bool m7, .slice A8 l8.length c8, .bool m8])] W fun e w' => QR W q e w') :
    Calls Tryd.prog 20 #[(Value.agg #[.slice A1 l1.length c1, .bool m1, .slice A2 l2.length c2, .bool m2]), (Value.agg #[.slice A3 l3.length c3, .bool m3, .slice A4 l4.length c4, .bool m4])] w fun e w' => QR w q e w' := by
  have HN := hide hn
  have HA := hide ha
  clear hn ha
  go_enter Tryd.func20, Tryd.ntmps20
  go_upto_region 1 with fail
  obtain ⟨n0, n1, n2, hsz, hw0⟩ := three_new w (.cells #[.slice A1 l1.length c1, .bool m1, .slice A2 l2.length c2, .bool m2] 37) (.cells #[.slice A3 l3.length c3, .bool m3, .slice A4 l4.length c4, .bool m4] 37) (.cells #[.slice none 0 0, .bool false, .slice none 0 0, .bool false] 37)
  generalize (((w.alloc (.cells #[.slice A1 l1.length c1, .bool m1, .slice A2 l2.length c2, .bool m2] 37)).alloc (.cells #[.slice A3 l3.length c3, .bool m3, .slice A4 l4.length c4, .bool m4] 37)).alloc (.cells #[.slice none 0 0, .bool false, .slice none 0 0, .bool false] 37)) = W0 at *
  have k0_0 : W0.cell? ⟨w.heap.size, 0, none⟩ = some (.slice A1 l1.length c1) := cells_of n0 0
  have k0_1 : W0.cell? ⟨w.heap.size, 1, none⟩ = some (.bool m1) := cells_of n0 1
  have k0_2 : W0.cell? ⟨w.heap.size, 2, none⟩ = some (.slice A2 l2.length c2) := cells_of n0 2
  have k0_3 : W0.cell? ⟨w.heap.size, 3, none⟩ = some (.bool m2) := cells_of n0 3
  have q0 : w.heap.size < W0.heap.size := by omega
  have k1_0 : W0.cell? ⟨w.heap.size + 1, 0, none⟩ = some (.slice A3 l3.length c3) := cells_of n1 0
  have k1_1 : W0.cell? ⟨w.heap.size + 1, 1, none⟩ = some (.bool m3) := cells_of n1 1
  have k1_2 : W0.cell? ⟨w.heap.size + 1, 2, none⟩ = some (.slice A4 l4.length c4) := cells_of n1 2
  have k1_3 : W0.cell? ⟨w.heap.size + 1, 3, none⟩ = some (.bool m4) := cells_of n1 3
  have q1 : w.heap.size + 1 < W0.heap.size := by omega
  have k2_0 : W0.cell? ⟨w.heap.size + 1 + 1, 0, none⟩ = some (.slice none 0 0) := cells_of n2 0
  have k2_1 : W0.cell? ⟨w.heap.size + 1 + 1, 1, none⟩ = some (.bool false) := cells_of n2 1
  have k2_2 : W0.cell? ⟨w.heap.size + 1 + 1, 2, none⟩ = some (.slice none 0 0) := cells_of n2 2
  have k2_3 : W0.cell? ⟨w.heap.size + 1 + 1, 3, none⟩ = some (.bool false) := cells_of n2 3
  have q2 : w.heap.size + 1 + 1 < W0.heap.size := by omega
  have f2_0 := unfrozen_of n2 0
  have f2_1 := unfrozen_of n2 1
  have f2_2 := unfrozen_of n2 2
  have f2_3 := unfrozen_of n2 3
  have NR := Lib.hid n2
  clear hsz n0 n1 n2
  go_upto_region 1 with fail
  have KEEP := hide (show ∀ X, Below W0.heap.size W0 X → X.cell? ⟨w.heap.size, 0, none⟩ = some (.slice A1 l1.length c1) ∧ X.cell? ⟨w.heap.size, 1, none⟩ = some (.bool m1) ∧ X.cell? ⟨w.heap.size, 2, none⟩ = some (.slice A2 l2.length c2) ∧ X.cell? ⟨w.heap.size, 3, none⟩ = some (.bool m2) ∧ X.cell? ⟨w.heap.size + 1, 0, none⟩ = some (.slice A3 l3.length c3) ∧ X.cell? ⟨w.heap.size + 1, 1, none⟩ = some (.bool m3) ∧ X.cell? ⟨w.heap.size + 1, 2, none⟩ = some (.slice A4 l4.length c4) ∧ X.cell? ⟨w.heap.size + 1, 3, none⟩ = some (.bool m4) from fun X hB => ⟨keep_cell hB q0 k0_0, keep_cell hB q0 k0_1, keep_cell hB q0 k0_2, keep_cell hB q0 k0_3, keep_cell hB q1 k1_0, keep_cell hB q1 k1_1, keep_cell hB q1 k1_2, keep_cell hB q1 k1_3⟩)
  go_region_held3 (fun w' => w'.cell? ⟨w.heap.size, 0, none⟩ = some (.slice A1 l1.length c1) ∧ w'.cell? ⟨w.heap.size, 1, none⟩ = some (.bool m1) ∧ w'.cell? ⟨w.heap.size, 2, none⟩ = some (.slice A2 l2.length c2) ∧ w'.cell? ⟨w.heap.size, 3, none⟩ = some (.bool m2) ∧ w'.cell? ⟨w.heap.size + 1, 0, none⟩ = some (.slice A3 l3.length c3) ∧ w'.cell? ⟨w.heap.size + 1, 1, none⟩ = some (.bool m3) ∧ w'.cell? ⟨w.heap.size + 1, 2, none⟩ = some (.slice A4 l4.length c4) ∧ w'.cell? ⟨w.heap.size + 1, 3, none⟩ = some (.bool m4)) (first | with_reducible exact ⟨(cell_set4 _ _ _ _ _ _ (by omega)).trans (keep_cell hbw q0 k0_0), (cell_set4 _ _ _ _ _ _ (by omega)).trans (keep_cell hbw q0 k0_1), (cell_set4 _ _ _ _ _ _ (by omega)).trans (keep_cell hbw q0 k0_2), (cell_set4 _ _ _ _ _ _ (by omega)).trans (keep_cell hbw q0 k0_3), (cell_set4 _ _ _ _ _ _ (by omega)).trans (keep_cell hbw q1 k1_0), (cell_set4 _ _ _ _ _ _ (by omega)).trans (keep_cell hbw q1 k1_1), (cell_set4 _ _ _ _ _ _ (by omega)).trans (keep_cell hbw q1 k1_2), (cell_set4 _ _ _ _ _ _ (by omega)).trans (keep_cell hbw q1 k1_3)⟩ | with_reducible exact (unhide KEEP) _ (by (repeat (first | with_reducible exact Below.refl _ _ | with_reducible assumption | with_reducible refine Below.drew ?_ | with_reducible refine below_alloc ?_ _)))) (first | (go_at_call_of 52 (Value.agg #[.slice A3 l3.length c3, .bool m3, .slice A4 l4.length c4, .bool m4]); refine ((unhide HN) _ (below_step' hw0 (by (repeat (first | with_reducible exact Below.refl _ _ | with_reducible assumption | with_reducible refine Below.drew ?_ | with_reducible refine below_alloc ?_ _))))).mono ?_; rintro e w' ⟨A5, c5, l5, m5, A6, c6, l6, m6, rfl, hf5, hf6, hb5⟩; have hbw := below_step (w := W0) (by (repeat (first | with_reducible exact Below.refl _ _ | with_reducible assumption | with_reducible refine Below.drew ?_ | with_reducible refine below_alloc ?_ _))) hb5; have hsw := hbw.size; obtain ⟨hc, hfz⟩ := bcell hbw) | (go_at_call_of 51 (Value.agg #[.slice A1 l1.length c1, .bool m1, .slice A2 l2.length c2, .bool m2]); refine ((unhide HA) A5 c5 l5 m5 A6 c6 l6 m6 _ (below_step' hw0 (by (repeat (first | with_reducible exact Below.refl _ _ | with_reducible assumption | with_reducible refine Below.drew ?_ | with_reducible refine below_alloc ?_ _)))) (WholeF.below hf5 (by (repeat (first | with_reducible exact Below.refl _ _ | with_reducible assumption | with_reducible refine Below.drew ?_ | with_reducible refine below_alloc ?_ _)))) (WholeF.below hf6 (by (repeat (first | with_reducible exact Below.refl _ _ | with_reducible assumption | with_reducible refine Below.drew ?_ | with_reducible refine below_alloc ?_ _))))).mono ?_; rintro e w' ⟨A7, c7, l7, m7, A8, c8, l8, m8, rfl, hf7, hf8, hb7⟩; have hf5 := WholeF.below (WholeF.below hf5 (by (repeat (first | with_reducible exact Below.refl _ _ | with_reducible assumption | with_reducible refine Below.drew ?_ | with_reducible refine below_alloc ?_ _)))) hb7; have hf6 := WholeF.below (WholeF.below hf6 (by (repeat (first | with_reducible exact Below.refl _ _ | with_reducible assumption | with_reducible refine Below.drew ?_ | with_reducible refine below_alloc ?_ _)))) hb7; have hbw := below_step (w := W0) (by (repeat (first | with_reducible exact Below.refl _ _ | with_reducible assumption | with_reducible refine Below.drew ?_ | with_reducible refine below_alloc ?_ _))) hb7; have hsw := hbw.size; obtain ⟨hc, hfz⟩ := bcell hbw))
  all_goals
    have hblk : w'.heap[w.heap.size + 1 + 1]? = some (.cells #[.slice none 0 0, .bool false, .slice none 0 0, .bool false] 37 (0, 0)) := (hbw.block _ q2).trans NR.out
    have HBLK := Lib.hid hblk
    have hb9 : Below w.heap.size w w' := below_step' hw0 hbw
    have hfi := (hf7)
    have hfj := (hf8)
    clear hblk
    go_wp2_with fail
    exact bodyPost_ret (v := (Value.agg #[.slice A7 l7.length c7, .bool m7, .slice A8 l8.length c8, .bool m8])) (by simp [results, Tryd.results20, go_sem, hc, k2_0, k2_1, k2_2, k2_3, q2]) rfl
      ⟨A7, c7, l7, m7, A8, c8, l8, m8, rfl, hfi.upto HBLK.out (noW2_4 _ _ _ _ _ _ _ _) (set4_grown _ _ _ _ _ _), hfj.upto HBLK.out (noW2_4 _ _ _ _ _ _ _ _) (set4_grown _ _ _ _ _ _), hb9.grown (set4_grown _ _ _ _ _ _) hb9.size (fun k hk => by injection hk with hk; omega)⟩

end Go.Proofs.YtadclbankpmebaaDoor
/- The reference's numbers: what their sums and differences are. -/
namespace Go.Proofs.YtadclbankpmebaaDoor
open Go.RowKit

namespace Wd
theorem add_q (x y : Rat) : x + y = Rat.divInt (x.num * (y.den : Int) + y.num * (x.den : Int)) ((x.den : Int) * (y.den : Int)) := by
  have hx := x.den_nz; have hy := y.den_nz
  conv => lhs; rw [← Rat.num_divInt_den x, ← Rat.num_divInt_den y]
  exact Rat.divInt_add_divInt _ _ (by omega) (by omega)
theorem int_q (n : Int) : (Rat.divInt n 1).num = n ∧ (Rat.divInt n 1).den = 1 := by
  have h : Rat.divInt n 1 = (n : Rat) := by
    rw [← Rat.num_divInt_den (n : Rat)]; rfl
  rw [h]
  exact ⟨rfl, rfl⟩
theorem add_i {x y : Rat} (hx : (x.den : Int) = 1) (hy : (y.den : Int) = 1) : x.num + y.num = (x + y).num ∧ (x.den : Int) = ((x + y).den : Int) := by
  have h : x + y = Rat.divInt (x.num + y.num) 1 := by
    rw [add_q, hx, hy]; simp
  rw [h, (int_q _).1, (int_q _).2]; exact ⟨rfl, hx⟩
/-- Both parts of a number are below the base to the power of K. -/
def SzQ (B K : Nat) (q : Rat) : Prop := Sz B K q.num ∧ Sz B K (q.den : Int)
end Wd

theorem ow_mul {w : World} {a b c : Int} {K L : Nat} (ha : Wd.Sz B32 K a) (hb : Wd.Sz B32 L b) (hK : K + L ≤ 35184372088832) (e : c = a * b) : OpW2 w 45 a b c := by
  subst e
  exact fun A1 c1 l1 m1 A2 c2 l2 m2 W _ f g => tmul_any A1 c1 l1 m1 a A2 c2 l2 m2 b W f g (by have := f.len ha; have := g.len hb; omega)
theorem ow_add {w : World} {a b c : Int} {K L : Nat} (ha : Wd.Sz B32 K a) (hb : Wd.Sz B32 L b) (hK : K + L + 1 ≤ 35184372088832) (e : c = a + b) : OpW2 w 89 a b c := by
  subst e
  exact fun A1 c1 l1 m1 A2 c2 l2 m2 W _ f g => tadd_any A1 c1 l1 m1 a A2 c2 l2 m2 b W f g (by have := f.len ha; have := g.len hb; omega)
theorem oq_ratio {w : World} {a b : Int} {q : Rat} {K : Nat} (ha : Wd.Sz B32 K a) (hb : Wd.Sz B32 K b) (h0 : b ≠ 0) (hK : K + 1 ≤ 35184372088832) (e : q = Rat.divInt a b) : OpRQ w 43 a b q := by
  subst e
  exact fun A1 c1 l1 m1 A2 c2 l2 m2 W _ f g => tratio_any A1 c1 l1 m1 a A2 c2 l2 m2 b K W f g h0 ha hb hK
theorem o_one {w : World} {b : Int} {o : Bool} (h : o = decide (b = 1)) : ∀ (A7 : Option Addr) (c7 : Nat) (l7 : List Nat) (m7 : Bool) (W : World), Below w.heap.size w W → WholeF W A7 c7 l7 m7 b → Calls Tryd.prog 80 #[(Value.agg #[.slice A7 l7.length c7, .bool m7])] W fun e w' => e = .returned (.bool o) ∧ Below W.heap.size W w' := by
  subst h
  exact fun A c l m W _ f => tisOne_any A c l m b W f

theorem tqadd_any (K : Nat) (A1 : Option Addr) (c1 : Nat) (l1 : List Nat) (m1 : Bool) (A2 : Option Addr) (c2 : Nat) (l2 : List Nat) (m2 : Bool) (A3 : Option Addr) (c3 : Nat) (l3 : List Nat) (m3 : Bool) (A4 : Option Addr) (c4 : Nat) (l4 : List Nat) (m4 : Bool) (x y : Rat) (w : World) (h1 : QV w A1 c1 l1 m1 A2 c2 l2 m2 x) (h2 : QV w A3 c3 l3 m3 A4 c4 l4 m4 y) (sx : Wd.SzQ B32 K x) (sy : Wd.SzQ B32 K y) (hK : 4 * K + 4 ≤ 35184372088832) :
    Calls Tryd.prog 51 #[.agg #[.slice A1 l1.length c1, .bool m1, .slice A2 l2.length c2, .bool m2], .agg #[.slice A3 l3.length c3, .bool m3, .slice A4 l4.length c4, .bool m4]] w fun e w' => QR w (x + y) e w' := by
  have hd1 := fun W (hW : Below w.heap.size w W) => tdenv_any A1 c1 l1 m1 A2 c2 l2 m2 x W (h1.below hW)
  have hd3 := fun W (hW : Below w.heap.size w W) => tdenv_any A3 c3 l3 m3 A4 c4 l4 m4 y W (h2.below hW)
  have hx := x.den_nz; have hy := y.den_nz
  have s1 : Wd.Sz B32 (2 * K + 1) (x.num * (y.den : Int) + y.num * (x.den : Int)) := by
    have a := sx.1.mul sy.2; have b := sy.1.mul sx.2
    rw [← Nat.two_mul] at a b
    exact a.add B32_pos b
  have s2 : Wd.Sz B32 (2 * K + 1) ((x.den : Int) * (y.den : Int)) := (sx.2.mul sy.2).mono B32_pos (by omega)
  have a1 := ow_mul (w := w) sx.1 sy.2 (by omega) rfl
  have a3 := ow_mul (w := w) sy.1 sx.2 (by omega) rfl
  have an := ow_add (w := w) (sx.1.mul sy.2) (sy.1.mul sx.2) (by omega) rfl
  have am := ow_mul (w := w) sx.2 sy.2 (by omega) rfl
  have ar := oq_ratio (w := w) s1 s2 (Int.mul_ne_zero (by omega) (by omega)) (by omega) (Wd.add_q x y)
  by_cases e1 : (x.den : Int) = 1
  · by_cases e2 : (y.den : Int) = 1
    · exact qadd_tt A1 c1 l1 m1 A2 c2 l2 m2 A3 c3 l3 m3 A4 c4 l4 m4 x.num (x.den : Int) y.num (y.den : Int) _ (x + y) w h1.num h2.num hd1 hd3 (o_one (decide_eq_true e1).symm) (o_one (decide_eq_true e2).symm) (ow_add sx.1 sy.1 (by omega) rfl) (Wd.add_i e1 e2).1 (Wd.add_i e1 e2).2
    · exact qadd_tf A1 c1 l1 m1 A2 c2 l2 m2 A3 c3 l3 m3 A4 c4 l4 m4 x.num (x.den : Int) y.num (y.den : Int) _ _ _ _ (x + y) w h1.num h2.num hd1 hd3 (o_one (decide_eq_true e1).symm) (o_one (decide_eq_false e2).symm) a1 a3 an am ar
  · exact qadd_f A1 c1 l1 m1 A2 c2 l2 m2 A3 c3 l3 m3 A4 c4 l4 m4 x.num (x.den : Int) y.num (y.den : Int) _ _ _ _ (x + y) w h1.num h2.num hd1 hd3 (o_one (decide_eq_false e1).symm) a1 a3 an am ar
theorem tqneg_any (A1 : Option Addr) (c1 : Nat) (l1 : List Nat) (m1 : Bool) (A2 : Option Addr) (c2 : Nat) (l2 : List Nat) (m2 : Bool) (x : Rat) (w : World) (h1 : QV w A1 c1 l1 m1 A2 c2 l2 m2 x) :
    Calls Tryd.prog 52 #[.agg #[.slice A1 l1.length c1, .bool m1, .slice A2 l2.length c2, .bool m2]] w fun e w' => QR w (-x) e w' :=
  qneg_walk A1 c1 l1 m1 A2 c2 l2 m2 x.num (x.den : Int) (-x.num) x (-x) w h1.num (fun W hW => tdenv_any A1 c1 l1 m1 A2 c2 l2 m2 x W (h1.below hW)) (fun A c l m W _ f => tneg_any A c l m x.num W f) rfl rfl
theorem tqsub_any (K : Nat) (A1 : Option Addr) (c1 : Nat) (l1 : List Nat) (m1 : Bool) (A2 : Option Addr) (c2 : Nat) (l2 : List Nat) (m2 : Bool) (A3 : Option Addr) (c3 : Nat) (l3 : List Nat) (m3 : Bool) (A4 : Option Addr) (c4 : Nat) (l4 : List Nat) (m4 : Bool) (x y : Rat) (w : World) (h1 : QV w A1 c1 l1 m1 A2 c2 l2 m2 x) (h2 : QV w A3 c3 l3 m3 A4 c4 l4 m4 y) (sx : Wd.SzQ B32 K x) (sy : Wd.SzQ B32 K y) (hK : 4 * K + 4 ≤ 35184372088832) :
    Calls Tryd.prog 20 #[.agg #[.slice A1 l1.length c1, .bool m1, .slice A2 l2.length c2, .bool m2], .agg #[.slice A3 l3.length c3, .bool m3, .slice A4 l4.length c4, .bool m4]] w fun e w' => QR w (x - y) e w' := by
  rw [Rat.sub_eq_add_neg]
  exact qsub_walk A1 c1 l1 m1 A2 c2 l2 m2 A3 c3 l3 m3 A4 c4 l4 m4 0 (-y) (x + -y) w (fun W hW => tqneg_any A3 c3 l3 m3 A4 c4 l4 m4 y W (h2.below hW))
    (fun A5 c5 l5 m5 A6 c6 l6 m6 W hW f g => tqadd_any K A1 c1 l1 m1 A2 c2 l2 m2 A5 c5 l5 m5 A6 c6 l6 m6 x (-y) W (h1.below hW) (QV.of f g) sx ⟨sy.1.neg, sy.2⟩ hK)
end Go.Proofs.YtadclbankpmebaaDoor
/- The simplest number between two: on natural numbers. -/
namespace Go.Proofs.YtadclbankpmebaaDoor
namespace Wd

/-- Numerator and denominator of the simplest number from a/b to c/d. -/
def simp : Nat → Nat → Nat → Nat → Nat → Nat × Nat
  | 0, _, _, _, _ => (0, 1)
  | f + 1, a, b, c, d => if b = 1 then (a, 1) else if a / b < c / d then (a / b + 1, 1)
    else (a / b * (simp f d (c - a / b * d) b (a - a / b * b)).1 + (simp f d (c - a / b * d) b (a - a / b * b)).2, (simp f d (c - a / b * d) b (a - a / b * b)).1)

structure SimpOk (a b c d : Nat) : Prop where
  pa : 0 < a
  pb : 0 < b
  pc : 0 < c
  pd : 0 < d
  co : a.Coprime b
  co2 : c.Coprime d
  le : a * d ≤ c * b

theorem sub_div_mul (a b : Nat) : a - a / b * b = a % b := by
  have := Nat.div_add_mod a b
  rw [Nat.mul_comm] at this
  omega
theorem SimpOk.step {a b c d : Nat} (h : SimpOk a b c d) (hb : b ≠ 1) (hk : ¬ a / b < c / d) :
    SimpOk d (c - a / b * d) b (a - a / b * b) ∧ c / d = a / b ∧ c - a / b * d = c % d ∧ c - a / b * d < d ∧ a - a / b * b < b := by
  have ha := h.pa; have hb0 := h.pb; have hc := h.pc; have hd := h.pd
  have e1 := Nat.div_add_mod a b
  have r0 : a % b ≠ 0 := fun e => by
    have hdv := Nat.dvd_of_mod_eq_zero e
    have := Nat.Coprime.eq_one_of_dvd h.co.symm hdv
    exact hb this
  have hkd : a / b ≤ c / d := by
    rw [Nat.le_div_iff_mul_le hd]
    have h2 : a / b * b * d ≤ c * b := Nat.le_trans (Nat.mul_le_mul_right _ (Nat.div_mul_le_self a b)) h.le
    rw [Nat.mul_right_comm] at h2
    exact Nat.le_of_mul_le_mul_right h2 hb0
  have hq : c / d = a / b := by omega
  have e2 : c - a / b * d = c % d := by rw [← hq]; exact sub_div_mul c d
  have e3 := sub_div_mul a b
  have e4 := Nat.div_add_mod c d
  have hle : a % b * d ≤ c % d * b := by
    have hle := h.le
    rw [hq] at e4
    generalize a / b = k at *
    generalize a % b = r at *
    generalize c % d = s at *
    subst e1 e4
    rw [Nat.add_mul, Nat.add_mul] at hle
    have : b * k * d = d * k * b := by rw [Nat.mul_comm b k, Nat.mul_assoc, Nat.mul_comm b d, ← Nat.mul_assoc, Nat.mul_comm k d]
    omega
  have s0 : 0 < c % d := by
    rcases Nat.eq_zero_or_pos (c % d) with e | e
    · rw [e, Nat.zero_mul] at hle
      have := Nat.mul_pos (Nat.pos_of_ne_zero r0) hd
      omega
    · exact e
  rw [e2, e3]
  refine ⟨⟨hd, s0, hb0, Nat.pos_of_ne_zero r0, ?_, ?_, ?_⟩, hq, rfl, Nat.mod_lt _ hd, Nat.mod_lt _ hb0⟩
  · have := h.co2
    unfold Nat.Coprime at *
    rw [Nat.gcd_comm, ← Nat.gcd_rec, Nat.gcd_comm]; exact this
  · have := h.co
    unfold Nat.Coprime at *
    rw [Nat.gcd_comm, ← Nat.gcd_rec, Nat.gcd_comm]; exact this
  · rw [Nat.mul_comm, Nat.mul_comm b]; exact hle
structure SimpRes (a b c d n e : Nat) : Prop where
  pn : 0 < n
  pe : 0 < e
  co : n.Coprime e
  na : n ≤ a
  eb : e ≤ b
  nc : n ≤ c
  ed : e ≤ d
theorem simp_res : ∀ (f a b c d : Nat), SimpOk a b c d → b + d ≤ f → SimpRes a b c d (simp f a b c d).1 (simp f a b c d).2
  | 0, a, b, c, d, h, hf => by have := h.pb; omega
  | f + 1, a, b, c, d, h, hf => by
    have ha := h.pa; have hb0 := h.pb; have hc := h.pc; have hd := h.pd
    by_cases h1 : b = 1
    · simp only [simp, if_pos h1]
      subst h1
      have hle := h.le
      rw [Nat.mul_one] at hle
      have := Nat.le_mul_of_pos_right a hd
      exact ⟨ha, by omega, by simp [Nat.Coprime], by omega, by omega, by omega, by omega⟩
    · by_cases h2 : a / b < c / d
      · simp only [simp, if_neg h1, if_pos h2]
        have h3 := Nat.div_le_self c d
        have h4 := Nat.div_add_mod a b
        refine ⟨Nat.succ_pos _, Nat.one_pos, by simp [Nat.Coprime], ?_, hb0, Nat.le_trans h2 h3, hd⟩
        have h5 : 2 * (a / b) ≤ b * (a / b) := Nat.mul_le_mul_right _ (by omega)
        generalize b * (a / b) = u at *
        generalize a / b = k at *
        generalize a % b = r at *
        omega
      · simp only [simp, if_neg h1, if_neg h2]
        obtain ⟨hok, hq, e2, l1, l2⟩ := h.step h1 h2
        have ih := simp_res f d (c - a / b * d) b (a - a / b * b) hok (by omega)
        generalize simp f d (c - a / b * d) b (a - a / b * b) = r at *
        obtain ⟨n, e⟩ := r
        have p1 := ih.pn; have p2 := ih.pe; have p3 := ih.na; have p4 := ih.eb; have p5 := ih.nc; have p6 := ih.ed
        have h4 := Nat.div_mul_le_self a b
        have h6 : a / b * d ≤ c := by rw [← hq]; exact Nat.div_mul_le_self c d
        have m1 : a / b * n ≤ a / b * b := Nat.mul_le_mul_left _ p5
        have m2 : a / b * n ≤ a / b * d := Nat.mul_le_mul_left _ p3
        have hco := ih.co
        dsimp only at *
        clear ih hok l1 l2 e2 hq h2
        generalize a / b = k at *
        have hab : k * b ≤ a := h4
        refine ⟨Nat.add_pos_right _ p2, p1, ?_, ?_, p5, ?_, p3⟩
        rotate_left
        · generalize k * n = t at *; generalize k * b = u at *; omega
        · generalize k * n = t at *; generalize k * d = u at *; omega
        have := hco
        unfold Nat.Coprime at *
        rw [Nat.add_comm, Nat.gcd_comm, Nat.gcd_add_mul_right_right]
        exact this

/-- A fraction of natural numbers. -/
def fr (n d : Nat) : Rat := Rat.divInt (n : Int) (d : Int)
end Wd
end Go.Proofs.YtadclbankpmebaaDoor
/- The search for the nearest number: what its rounds keep, and why no other number lies between its two ends. -/
namespace Go.Proofs.YtadclbankpmebaaDoor
namespace Wd

/-- Between a/b and c/d with b * c - a * d = 1 no number has a lesser denominator than b + d. -/
theorem farey {a b c d p q : Int} (hb : 0 < b) (hd : 0 < d) (det : b * c - a * d = 1) (h1 : 0 < p * b - a * q) (h2 : 0 < c * q - p * d) : b + d ≤ q := by
  have e : q = b * (c * q - p * d) + d * (p * b - a * q) := by
    have e1 : b * (c * q - p * d) + d * (p * b - a * q) = (b * c - a * d) * q := by
      rw [Int.mul_sub, Int.mul_sub, Int.sub_mul]
      have i1 : b * (c * q) = b * c * q := (Int.mul_assoc b c q).symm
      have i2 : d * (a * q) = a * d * q := by rw [← Int.mul_assoc, Int.mul_comm d a]
      have i3 : b * (p * d) = d * (p * b) := by rw [Int.mul_comm b, Int.mul_assoc, Int.mul_comm p, Int.mul_assoc, Int.mul_comm b p]
      omega
    rw [e1, det, Int.one_mul]
  have m1 : b * 1 ≤ b * (c * q - p * d) := Int.mul_le_mul_of_nonneg_left (by omega) (by omega)
  have m2 : d * 1 ≤ d * (p * b - a * q) := Int.mul_le_mul_of_nonneg_left (by omega) (by omega)
  generalize b * (c * q - p * d) = u at *
  generalize d * (p * b - a * q) = v at *
  omega
/-- Ahead of a round of the search: before = bn/bd, last = ln/ld, n and d are left of N/D. -/
structure NearInv (N D bn bd ln ld n d s : Int) : Prop where
  num : N = ln * n + bn * d
  den : D = ld * n + bd * d
  det : ln * bd - bn * ld = s
  sgn : s = 1 ∨ s = -1
  bd0 : 0 ≤ bd
  ld0 : 0 ≤ ld
  d0 : 0 ≤ d
theorem NearInv.start (N : Int) {D : Int} (h : 0 < D) : NearInv N D 0 1 1 0 N D 1 :=
  ⟨by omega, by omega, by omega, .inl rfl, by omega, by omega, by omega⟩
theorem NearInv.step {N D bn bd ln ld n d s : Int} (h : NearInv N D bn bd ln ld n d s) (hd : 0 < d) (a : Int) (ha : a = n / d) (h0 : 0 ≤ bd + a * ld) : NearInv N D ln ld (bn + a * ln) (bd + a * ld) d (n - a * d) (-s) := by
  have e1 := Int.emod_nonneg n (show d ≠ 0 by omega)
  have e3 := Int.mul_ediv_add_emod n d
  rw [← ha, Int.mul_comm] at e3
  refine ⟨?_, ?_, ?_, ?_, h.ld0, h0, by omega⟩
  · rw [h.num, Int.add_mul, Int.mul_sub]
    have i1 : ln * (a * d) = a * ln * d := by rw [← Int.mul_assoc, Int.mul_comm ln a]
    omega
  · rw [h.den, Int.add_mul, Int.mul_sub]
    have i1 : ld * (a * d) = a * ld * d := by rw [← Int.mul_assoc, Int.mul_comm ld a]
    omega
  · rw [← h.det, Int.add_mul, Int.mul_add]
    have i1 : ln * (a * ld) = a * ln * ld := by rw [← Int.mul_assoc, Int.mul_comm ln a]
    omega
  · rcases h.sgn with e | e
    · exact .inr (by omega)
    · exact .inl (by omega)
/-- At the break: how far both ends are from N/D, and their determinant. -/
theorem NearInv.ends {N D bn bd ln ld n d s : Int} (h : NearInv N D bn bd ln ld n d s) (t : Int) :
    N * ld - D * ln = -(s * d) ∧ N * (bd + t * ld) - D * (bn + t * ln) = s * (n - t * d) ∧ ln * (bd + t * ld) - (bn + t * ln) * ld = s := by
  have hdet := h.det
  have b1 : N * ld - D * ln = -(s * d) := by
    rw [h.num, h.den, ← hdet, Int.add_mul, Int.add_mul, Int.sub_mul]
    have i1 : ln * n * ld = ld * n * ln := by rw [Int.mul_right_comm, Int.mul_comm ln ld, Int.mul_right_comm]
    have i2 : bn * d * ld = bn * ld * d := Int.mul_right_comm bn d ld
    have i3 : bd * d * ln = ln * bd * d := by rw [Int.mul_right_comm, Int.mul_comm bd ln]
    omega
  have b2 : N * bd - D * bn = s * n := by
    rw [h.num, h.den, ← hdet, Int.add_mul, Int.add_mul, Int.sub_mul]
    have i1 : ln * n * bd = ln * bd * n := Int.mul_right_comm ln n bd
    have i2 : ld * n * bn = bn * ld * n := by rw [Int.mul_right_comm, Int.mul_comm ld bn]
    have i3 : bn * d * bd = bd * d * bn := by rw [Int.mul_comm bn d, Int.mul_assoc, Int.mul_comm bn bd, ← Int.mul_assoc, Int.mul_comm d bd]
    omega
  refine ⟨b1, ?_, ?_⟩
  · rw [Int.mul_add, Int.mul_add, Int.mul_sub]
    have i1 : N * (t * ld) = t * (N * ld) := Int.mul_left_comm N t ld
    have i2 : D * (t * ln) = t * (D * ln) := Int.mul_left_comm D t ln
    have i3 : t * (N * ld) - t * (D * ln) = -(s * (t * d)) := by
      rw [← Int.mul_sub, b1, Int.mul_neg, Int.mul_left_comm]
    omega
  · rw [Int.mul_add, Int.add_mul]
    have i1 : ln * (t * ld) = t * ln * ld := by rw [← Int.mul_assoc, Int.mul_comm ln t]
    omega
end Wd
end Go.Proofs.YtadclbankpmebaaDoor
/- The search for the nearest number: what a round does, with its bounds. -/
namespace Go.Proofs.YtadclbankpmebaaDoor
namespace Wd

/-- Ahead of a round, for a denominator of at most m. -/
structure NearSt (N D m bn bd ln ld n d s : Int) : Prop where
  inv : NearInv N D bn bd ln ld n d s
  dp : 0 < d
  lm : ld ≤ m
  bm : bd ≤ m
  way : (ld = 0 ∧ bd = 1) ∨ (1 ≤ ld ∧ d < n)
  nb : -1000000000000 ≤ n ∧ n ≤ 1000000000000
  db : d ≤ D
  lb : -1000000000001 ≤ ln ∧ ln ≤ 1000000000001
  bb : -1000000000001 ≤ bn ∧ bn ≤ 1000000000001
theorem NearSt.start {N D m : Int} (h : okR N D) (hm : 1 ≤ m) : NearSt N D m 0 1 1 0 N D 1 := by
  obtain ⟨h1, h2, h3, h4, _⟩ := h
  exact ⟨NearInv.start N (by omega), by omega, by omega, by omega, .inl ⟨rfl, rfl⟩, ⟨by omega, by omega⟩, by omega, by omega, by omega⟩
/-- What a round makes: the next two numbers, and how large they are. -/
structure NearNx (N D bd ln ld n d a : Int) (bn nx ny : Int) : Prop where
  ny0 : 1 ≤ ny
  nyD : ny ≤ D
  nxb : -1000000000001 ≤ nx ∧ nx ≤ 1000000000001
  kc : -2000000000002 ≤ a * ln ∧ a * ln ≤ 2000000000002
  kd : -1000000000000 ≤ a * ld ∧ a * ld ≤ 1000000000000
  ab : -1000000000000 ≤ a ∧ a ≤ 1000000000000
theorem div_bound {n d : Int} (hd : 0 < d) (hn : -1000000000000 ≤ n ∧ n ≤ 1000000000000) : -1000000000000 ≤ n / d ∧ n / d ≤ 1000000000000 := by
  constructor
  · rw [Int.le_ediv_iff_mul_le hd]; omega
  · rcases Int.lt_or_le n 0 with h | h
    · have : n / d < 0 := Int.ediv_neg_of_neg_of_pos h hd
      omega
    · have := Int.ediv_le_self d h
      omega
theorem NearSt.nx {N D m bn bd ln ld n d s a nx ny : Int} (h : NearSt N D m bn bd ln ld n d s) (ok : okR N D) (hmD : m < D) (ha : a = n / d) (hx : nx = bn + a * ln) (hy : ny = bd + a * ld) : NearNx N D bd ln ld n d a bn nx ny := by
  have hab := div_bound h.dp h.nb
  rw [← ha] at hab
  have e1 := Int.emod_nonneg n (show d ≠ 0 by have := h.dp; omega)
  have e2 := Int.emod_lt_of_pos n h.dp
  have e3 := Int.mul_ediv_add_emod n d
  rw [← ha, Int.mul_comm] at e3
  have hny1 : 1 ≤ ny := by
    rcases h.way with ⟨h1, h2⟩ | ⟨h1, h2⟩
    · rw [hy, h1, h2]; simp
    · have a1 : 1 ≤ a := by
        rw [ha, Int.le_ediv_iff_mul_le h.dp]; omega
      have m1 : 1 * 1 ≤ a * ld := Int.mul_le_mul a1 h1 (by omega) (by omega)
      have := h.inv.bd0
      omega
  have hst := h.inv.step h.dp a ha (by omega)
  rw [← hx, ← hy] at hst
  have hyD : ny ≤ D := by
    have := hst.den
    have m1 : ny * 1 ≤ ny * d := Int.mul_le_mul_of_nonneg_left (by have := h.dp; omega) (by omega)
    have m2 : 0 ≤ ld * (n - a * d) := Int.mul_nonneg h.inv.ld0 (by omega)
    generalize ny * d = u at *
    generalize ld * (n - a * d) = v at *
    omega
  obtain ⟨o1, o2, o3, o4, o5⟩ := ok
  have he := (h.inv.ends a).2.1
  rw [← hx, ← hy] at he
  have hs : -d ≤ s * (n - a * d) ∧ s * (n - a * d) ≤ d := by
    rcases h.inv.sgn with e | e <;> rw [e] <;> constructor <;> omega
  have hNy : -(1000000000000 * D) ≤ N * ny ∧ N * ny ≤ 1000000000000 * D := by
    have t1 : N * ny ≤ 1000000000000 * ny := Int.mul_le_mul_of_nonneg_right (by omega) (by omega)
    have t2 : -1000000000000 * ny ≤ N * ny := Int.mul_le_mul_of_nonneg_right (by omega) (by omega)
    generalize N * ny = u at *
    omega
  have hdb := h.db
  have hnx : -1000000000001 ≤ nx ∧ nx ≤ 1000000000001 := by
    have hD : 0 < D := by omega
    constructor
    · refine Int.le_of_mul_le_mul_left (a := D) ?_ hD
      generalize N * ny = u at *
      generalize s * (n - a * d) = v at *
      generalize D * nx = z at *
      omega
    · refine Int.le_of_mul_le_mul_left (a := D) ?_ hD
      generalize N * ny = u at *
      generalize s * (n - a * d) = v at *
      generalize D * nx = z at *
      omega
  have hbb := h.bb
  have hbm := h.bm; have hb0 := h.inv.bd0
  refine ⟨hny1, hyD, hnx, ⟨?_, ?_⟩, ⟨?_, ?_⟩, hab⟩
  · generalize a * ln = u at *; omega
  · generalize a * ln = u at *; omega
  · generalize a * ld = u at *; omega
  · generalize a * ld = u at *; omega
theorem NearSt.next {N D m bn bd ln ld n d s a nx ny : Int} (h : NearSt N D m bn bd ln ld n d s) (ok : okR N D) (hmD : m < D) (ha : a = n / d) (hx : nx = bn + a * ln) (hy : ny = bd + a * ld) (hm : ny ≤ m) : NearSt N D m ln ld nx ny d (n - a * d) (-s) := by
  have hn := h.nx ok hmD ha hx hy
  have e1 := Int.emod_nonneg n (show d ≠ 0 by have := h.dp; omega)
  have e2 := Int.emod_lt_of_pos n h.dp
  have e3 := Int.mul_ediv_add_emod n d
  rw [← ha, Int.mul_comm] at e3
  have hst := h.inv.step h.dp a ha (by have := hn.ny0; omega)
  rw [← hx, ← hy] at hst
  have hdp := h.dp; have hdb := h.db
  obtain ⟨o1, o2, o3, o4, o5⟩ := ok
  have hr : 0 < n - a * d := by
    rcases Int.lt_or_eq_of_le (show 0 ≤ n - a * d by omega) with h1 | h1
    · exact h1
    · exfalso
      have q1 := hst.num; have q2 := hst.den
      rw [← h1, Int.mul_zero, Int.add_zero] at q1 q2
      have g1 : d.natAbs ∣ N.natAbs := by rw [q1, Int.natAbs_mul]; exact Nat.dvd_mul_left _ _
      have g2 : d.natAbs ∣ D.natAbs := by rw [q2, Int.natAbs_mul]; exact Nat.dvd_mul_left _ _
      have g3 := Nat.dvd_gcd g1 g2
      rw [o5, Nat.dvd_one] at g3
      have g4 : d = 1 := by omega
      rw [g4, Int.mul_one] at q2
      omega
  exact ⟨hst, hr, hm, h.lm, .inr ⟨hn.ny0, by omega⟩, ⟨by omega, by omega⟩, by omega, hn.nxb, h.lb⟩
/-- What the search hands back, of a number N/D whose denominator is above m: last = ln/ld and between = c/e. -/
structure NearEnd (N D m ln ld c e d s u : Int) : Prop where
  ld1 : 1 ≤ ld
  lm : ld ≤ m
  e1 : 1 ≤ e
  em : e ≤ m
  sum : m < e + ld
  det : ln * e - c * ld = s
  sgn : s = 1 ∨ s = -1
  far1 : N * ld - D * ln = -(s * d)
  far2 : N * e - D * c = s * u
  dp : 0 < d
  up : 0 < u
  lb : -1000000000001 ≤ ln ∧ ln ≤ 1000000000001
  cb : -1000000000001 ≤ c ∧ c ≤ 1000000000001
theorem NearSt.stop {N D m bn bd ln ld n d s a nx ny t c e : Int} (h : NearSt N D m bn bd ln ld n d s) (ok : okR N D) (hm1 : 1 ≤ m) (hmD : m < D) (ha : a = n / d) (hx : nx = bn + a * ln) (hy : ny = bd + a * ld) (hm : m < ny) (ht : t = (m - bd) / ld) (hc : c = bn + t * ln) (he : e = bd + t * ld) :
    NearEnd N D m ln ld c e d s (n - t * d) ∧ 0 ≤ t ∧ t ≤ 1000000000000 ∧ (-2000000000002 ≤ t * ln ∧ t * ln ≤ 2000000000002) ∧ (0 ≤ t * ld ∧ t * ld ≤ 1000000000000) := by
  have hn := h.nx ok hmD ha hx hy
  have hld : 1 ≤ ld := by
    rcases h.way with ⟨h1, h2⟩ | ⟨h1, _⟩
    · rw [h1, Int.mul_zero, h2] at hy; omega
    · exact h1
  have hbm := h.bm
  have t0 : 0 ≤ t := by rw [ht]; exact Int.ediv_nonneg (by omega) (by omega)
  have ta : t < a := by
    rw [ht, Int.ediv_lt_iff_lt_mul (by omega)]; omega
  have tm : t * ld ≤ m - bd := by rw [ht]; exact Int.ediv_mul_le _ (by omega)
  have tm2 : m - bd < (t + 1) * ld := by rw [ht]; exact Int.lt_ediv_add_one_mul_self _ (by omega)
  rw [Int.add_mul, Int.one_mul] at tm2
  have e1 := Int.emod_nonneg n (show d ≠ 0 by have := h.dp; omega)
  have e3 := Int.mul_ediv_add_emod n d
  rw [← ha, Int.mul_comm] at e3
  have hdp := h.dp
  have td : t * d ≤ (a - 1) * d := Int.mul_le_mul_of_nonneg_right (by omega) (by omega)
  rw [Int.sub_mul, Int.one_mul] at td
  obtain ⟨f1, f2, f3⟩ := h.inv.ends t
  rw [← hc, ← he] at f2 f3
  have hkc := hn.kc
  have tl : -2000000000002 ≤ t * ln ∧ t * ln ≤ 2000000000002 ∧ ((0 ≤ t * ln ∧ t * ln ≤ a * ln) ∨ (a * ln ≤ t * ln ∧ t * ln ≤ 0)) := by
    rcases Int.lt_or_le ln 0 with hl | hl
    · have m1 : t * (-ln) ≤ a * (-ln) := Int.mul_le_mul_of_nonneg_right (by omega) (by omega)
      have m2 : 0 ≤ t * (-ln) := Int.mul_nonneg t0 (by omega)
      rw [Int.mul_neg, Int.mul_neg] at m1
      rw [Int.mul_neg] at m2
      generalize t * ln = u at *
      generalize a * ln = v at *
      exact ⟨by omega, by omega, .inr ⟨by omega, by omega⟩⟩
    · have m1 : t * ln ≤ a * ln := Int.mul_le_mul_of_nonneg_right (by omega) hl
      have m2 : 0 ≤ t * ln := Int.mul_nonneg t0 hl
      generalize t * ln = u at *
      generalize a * ln = v at *
      exact ⟨by omega, by omega, .inl ⟨by omega, by omega⟩⟩
  have tld : 0 ≤ t * ld := Int.mul_nonneg t0 (by omega)
  have hb0 := h.inv.bd0
  have hbb := h.bb; have hnxb := hn.nxb
  obtain ⟨o1, o2, o3, o4, o5⟩ := ok
  have hab := hn.ab
  refine ⟨⟨hld, h.lm, ?_, ?_, ?_, f3, h.inv.sgn, f1, f2, hdp, ?_, h.lb, ?_⟩, t0, by omega, ⟨tl.1, tl.2.1⟩, tld, ?_⟩
  · have := h.lm
    generalize t * ld = u at *
    omega
  · generalize t * ld = u at *; omega
  · generalize t * ld = u at *; omega
  · generalize t * d = u at *; generalize a * d = v at *; omega
  · obtain ⟨_, _, tl⟩ := tl
    generalize t * ln = u at *
    generalize a * ln = v at *
    omega
  · generalize t * ld = u at *; omega
end Wd
end Go.Proofs.YtadclbankpmebaaDoor
/- The search for both neighbours: its memory, and what it ends with. -/
namespace Go.Proofs.YtadclbankpmebaaDoor
open Go.RowKit

/-- What lies in the memory of the search at its rounds' heads. -/
structure NbG (w wr : World) (N D b0 b1 l0 l1 : Int) : Prop where
  below : Below w.heap.size w wr
  x : wr.heap[w.heap.size]? = some (.cells #[.int .i64 N, .int .i64 D] 23 (0, 0))
  lo : wr.heap[w.heap.size + 1]? = some (.cells #[.int .i64 0, .int .i64 0] 23 (0, 0))
  hi : wr.heap[w.heap.size + 2]? = some (.cells #[.int .i64 0, .int .i64 0] 23 (0, 0))
  bef : wr.heap[w.heap.size + 3]? = some (.cells #[.int .i64 b0, .int .i64 b1] 23 (0, 0))
  last : wr.heap[w.heap.size + 4]? = some (.cells #[.int .i64 l0, .int .i64 l1] 23 (0, 0))
theorem NbG.step {w wr w' : World} {N D b0 b1 l0 l1 : Int} (h : NbG w wr N D b0 b1 l0 l1) (hb : Below wr.heap.size wr w') : NbG w w' N D b0 b1 l0 l1 :=
  ⟨below_step' h.below hb, (hb.block _ (lt_of_block h.x)).trans h.x, (hb.block _ (lt_of_block h.lo)).trans h.lo, (hb.block _ (lt_of_block h.hi)).trans h.hi, (hb.block _ (lt_of_block h.bef)).trans h.bef, (hb.block _ (lt_of_block h.last)).trans h.last⟩
theorem NbG.set {w wr : World} {N D b0 b1 l0 l1 : Int} (h : NbG w wr N D b0 b1 l0 l1) (u0 u1 v0 v1 : Int) :
    NbG w ((((wr.setCell ⟨w.heap.size + 3, 0, none⟩ (.int .i64 u0)).setCell ⟨w.heap.size + 3, 1, none⟩ (.int .i64 u1)).setCell ⟨w.heap.size + 4, 0, none⟩ (.int .i64 v0)).setCell ⟨w.heap.size + 4, 1, none⟩ (.int .i64 v1)) N D u0 u1 v0 v1 := by
  have g1 := set2_grown wr (w.heap.size + 3) (.int .i64 u0) (.int .i64 u1)
  have g2 := set2_grown ((wr.setCell ⟨w.heap.size + 3, 0, none⟩ (.int .i64 u0)).setCell ⟨w.heap.size + 3, 1, none⟩ (.int .i64 u1)) (w.heap.size + 4) (.int .i64 v0) (.int .i64 v1)
  have s1 := g1.size
  have old : ∀ k, k < w.heap.size + 3 → ((((wr.setCell ⟨w.heap.size + 3, 0, none⟩ (.int .i64 u0)).setCell ⟨w.heap.size + 3, 1, none⟩ (.int .i64 u1)).setCell ⟨w.heap.size + 4, 0, none⟩ (.int .i64 v0)).setCell ⟨w.heap.size + 4, 1, none⟩ (.int .i64 v1)).heap[k]? = wr.heap[k]? := fun k hk => by
    have hl := lt_of_block h.last
    exact (g2.block k (by omega) (fun e => by injection e with e; omega)).trans (g1.block k (by omega) (fun e => by injection e with e; omega))
  have hl := lt_of_block h.last
  have e1 := set2_block (u0 := .int .i64 u0) (u1 := .int .i64 u1) h.bef
  refine ⟨(h.below.grown g1 h.below.size (fun k hk => by injection hk with hk; omega)).grown g2 (by have := h.below.size; omega) (fun k hk => by injection hk with hk; omega), (old _ (by omega)).trans h.x, (old _ (by omega)).trans h.lo, (old _ (by omega)).trans h.hi, ?_, ?_⟩
  · exact (g2.block _ (lt_of_block e1) (fun e => by injection e with e; omega)).trans e1
  · exact set2_block ((g1.block _ hl (fun e => by injection e with e; omega)).trans h.last)
theorem nbg_start (w : World) (N D : Int) (n : Nat) : NbG w ((((((w.alloc (.cells #[.int .i64 N, .int .i64 D] 23)).alloc (.cells #[.int .i64 0, .int .i64 0] 23)).alloc (.cells #[.int .i64 0, .int .i64 0] 23)).alloc (.cells #[.int .i64 0, .int .i64 1] 23)).alloc (.cells #[.int .i64 1, .int .i64 0] 23)).drewN n) N D 0 1 1 0 := by
  obtain ⟨h1, h2, h3, h4, h5⟩ := three_new w (.cells #[.int .i64 N, .int .i64 D] 23) (.cells #[.int .i64 0, .int .i64 0] 23) (.cells #[.int .i64 0, .int .i64 0] 23)
  obtain ⟨g1, g2, g3, g4⟩ := two_new (((w.alloc (.cells #[.int .i64 N, .int .i64 D] 23)).alloc (.cells #[.int .i64 0, .int .i64 0] 23)).alloc (.cells #[.int .i64 0, .int .i64 0] 23)) (.cells #[.int .i64 0, .int .i64 1] 23) (.cells #[.int .i64 1, .int .i64 0] 23)
  have up := g4.block
  rw [h4] at g1 g2 up
  exact ⟨(below_step' h5 g4).grown (grown_drewN (grown_refl _ none) n) (by have := (below_step' h5 g4).size; omega) (fun k hk => by cases hk), (up _ (by omega)).trans h1, (up _ (by omega)).trans h2, (up _ (by omega)).trans h3, g1, g2⟩

theorem end_ok {N D m ln ld c e d s u : Int} (h : Wd.NearEnd N D m ln ld c e d s u) (ok : Wd.okR N D) (hmD : m < D) : Wd.okR c e ∧ Wd.okR ln ld := by
  obtain ⟨o1, o2, o3, o4, o5⟩ := ok
  have g1 := h.ld1; have g2 := h.e1; have g3 := h.dp; have g4 := h.up; have g5 := h.lm; have g6 := h.em
  have key : ld * u + e * d = D := by
    have k1 : s * (ld * u + e * d) = s * D := by
      have a1 : ld * (N * e - D * c) - e * (N * ld - D * ln) = D * (ln * e - c * ld) := by
        rw [Int.mul_sub, Int.mul_sub, Int.mul_sub]
        have i1 : ld * (N * e) = e * (N * ld) := by rw [Int.mul_comm ld, Int.mul_assoc, Int.mul_comm e ld, ← Int.mul_assoc, Int.mul_comm (N * ld) e]
        have i2 : ld * (D * c) = D * (c * ld) := by rw [Int.mul_comm ld, Int.mul_assoc]
        have i3 : e * (D * ln) = D * (ln * e) := by rw [Int.mul_comm e, Int.mul_assoc]
        omega
      rw [h.far2, h.far1, h.det, Int.mul_neg] at a1
      rw [Int.mul_add, Int.mul_left_comm s ld u, Int.mul_left_comm s e d, Int.mul_comm s D]
      omega
    rcases h.sgn with e | e <;> rw [e] at k1 <;> omega
  have p1 : 1 * 1 ≤ ld * u := Int.mul_le_mul (by omega) (by omega) (by omega) (by omega)
  have p2 : 1 * 1 ≤ e * d := Int.mul_le_mul (by omega) (by omega) (by omega) (by omega)
  have p3 : 1 * u ≤ ld * u := Int.mul_le_mul_of_nonneg_right (by omega) (by omega)
  have p4 : 1 * d ≤ e * d := Int.mul_le_mul_of_nonneg_right (by omega) (by omega)
  have hu : u < D := by generalize ld * u = x at *; generalize e * d = y at *; omega
  have hd : d < D := by generalize ld * u = x at *; generalize e * d = y at *; omega
  have cop : ln.natAbs.Coprime ld.natAbs ∧ c.natAbs.Coprime e.natAbs := by
    have hdet := h.det
    constructor
    · apply Nat.dvd_one.1
      have d1 : ((ln.natAbs.gcd ld.natAbs : Nat) : Int) ∣ ln := Int.dvd_trans (Int.ofNat_dvd.2 (Nat.gcd_dvd_left _ _)) (Int.natAbs_dvd.2 (Int.dvd_refl _))
      have d2 : ((ln.natAbs.gcd ld.natAbs : Nat) : Int) ∣ ld := Int.dvd_trans (Int.ofNat_dvd.2 (Nat.gcd_dvd_right _ _)) (Int.natAbs_dvd.2 (Int.dvd_refl _))
      have d3 := Int.dvd_sub (Int.dvd_trans d1 (Int.dvd_mul_right ln e)) (Int.dvd_trans d2 (Int.dvd_mul_left c ld))
      rw [hdet] at d3
      have d4 := Int.natAbs_dvd_natAbs.2 d3
      rw [Int.natAbs_natCast] at d4
      rcases h.sgn with e | e <;> rw [e] at d4 <;> exact d4
    · apply Nat.dvd_one.1
      have d1 : ((c.natAbs.gcd e.natAbs : Nat) : Int) ∣ c := Int.dvd_trans (Int.ofNat_dvd.2 (Nat.gcd_dvd_left _ _)) (Int.natAbs_dvd.2 (Int.dvd_refl _))
      have d2 : ((c.natAbs.gcd e.natAbs : Nat) : Int) ∣ e := Int.dvd_trans (Int.ofNat_dvd.2 (Nat.gcd_dvd_right _ _)) (Int.natAbs_dvd.2 (Int.dvd_refl _))
      have d3 := Int.dvd_sub (Int.dvd_trans d2 (Int.dvd_mul_left ln e)) (Int.dvd_trans d1 (Int.dvd_mul_right c ld))
      rw [hdet] at d3
      have d4 := Int.natAbs_dvd_natAbs.2 d3
      rw [Int.natAbs_natCast] at d4
      rcases h.sgn with e | e <;> rw [e] at d4 <;> exact d4
  have big : ∀ (x y z v : Int), 1 ≤ y → y ≤ m → N * y - D * x = v → -D < v → v < D → -1000000000000 ≤ x ∧ x ≤ 1000000000000 := fun x y z v hy hym hv v1 v2 => by
    have t1 : N * y ≤ 1000000000000 * y := Int.mul_le_mul_of_nonneg_right (by omega) (by omega)
    have t2 : -1000000000000 * y ≤ N * y := Int.mul_le_mul_of_nonneg_right (by omega) (by omega)
    constructor
    · have : D * (-1000000000001) < D * x := by generalize N * y = a at *; generalize D * x = b at *; omega
      have := Int.lt_of_mul_lt_mul_left this (by omega)
      omega
    · have : D * x < D * 1000000000001 := by generalize N * y = a at *; generalize D * x = b at *; omega
      have := Int.lt_of_mul_lt_mul_left this (by omega)
      omega
  have q1 := big c e 0 (s * u) (by omega) (by omega) h.far2 (by rcases h.sgn with e | e <;> rw [e] <;> omega) (by rcases h.sgn with e | e <;> rw [e] <;> omega)
  have q2 := big ln ld 0 (-(s * d)) (by omega) (by omega) h.far1 (by rcases h.sgn with e | e <;> rw [e] <;> omega) (by rcases h.sgn with e | e <;> rw [e] <;> omega)
  exact ⟨⟨by omega, by omega, q1.1, q1.2, cop.2⟩, ⟨by omega, by omega, q2.1, q2.2, cop.1⟩⟩
end Go.Proofs.YtadclbankpmebaaDoor
/- The simplest number between two: what is told. -/
namespace Go.Proofs.YtadclbankpmebaaDoor
open Go.RowKit

namespace Wd
/-- What the simplest number between two is told as. -/
def simpT (n1 d1 n2 d2 : Int) : Told :=
  if okR n1 d1 ∧ okR n2 d2 then
    if 0 < n1 * d2 - n2 * d1 then ⟨0, 0, 1⟩
    else if 0 < n1 then ⟨((simp (d1.natAbs + d2.natAbs) n1.natAbs d1.natAbs n2.natAbs d2.natAbs).1 : Nat), ((simp (d1.natAbs + d2.natAbs) n1.natAbs d1.natAbs n2.natAbs d2.natAbs).2 : Nat), 0⟩
    else if n2 < 0 then ⟨-((simp (d2.natAbs + d1.natAbs) n2.natAbs d2.natAbs n1.natAbs d1.natAbs).1 : Nat), ((simp (d2.natAbs + d1.natAbs) n2.natAbs d2.natAbs n1.natAbs d1.natAbs).2 : Nat), 0⟩
    else ⟨0, 1, 0⟩
  else ⟨0, 0, 1⟩
theorem okR_nat {n d : Int} (h : okR n d) : 0 < d ∧ d.natAbs ≤ 1000000000000 ∧ n.natAbs ≤ 1000000000000 ∧ n.natAbs.Coprime d.natAbs := by
  obtain ⟨h1, h2, h3, h4, h5⟩ := h
  exact ⟨by omega, by omega, by omega, h5⟩
theorem simpOk_pos {n1 d1 n2 d2 : Int} (h1 : okR n1 d1) (h2 : okR n2 d2) (hle : ¬ 0 < n1 * d2 - n2 * d1) (hp : 0 < n1) : 0 < n2 ∧ SimpOk n1.natAbs d1.natAbs n2.natAbs d2.natAbs := by
  obtain ⟨a1, a2, a3, a4⟩ := okR_nat h1
  obtain ⟨b1, b2, b3, b4⟩ := okR_nat h2
  have hm := Int.mul_pos hp b1
  have hn : 0 < n2 := by
    rcases Int.lt_or_le 0 n2 with h | h
    · exact h
    · have := Int.mul_nonneg (a := -n2) (b := d1) (by omega) (by omega)
      rw [Int.neg_mul] at this
      omega
  refine ⟨hn, by omega, by omega, by omega, by omega, a4, b4, ?_⟩
  have : ((n1.natAbs * d2.natAbs : Nat) : Int) ≤ ((n2.natAbs * d1.natAbs : Nat) : Int) := by
    rw [Int.natCast_mul, Int.natCast_mul, Int.natAbs_of_nonneg (by omega), Int.natAbs_of_nonneg (by omega), Int.natAbs_of_nonneg (by omega), Int.natAbs_of_nonneg (by omega)]
    omega
  omega
theorem okR_neg {n d : Int} (h : okR n d) : okR (-n) d := by
  obtain ⟨h1, h2, h3, h4, h5⟩ := h
  exact ⟨h1, h2, by omega, by omega, by rw [Int.natAbs_neg]; exact h5⟩
theorem simpOk_neg {n1 d1 n2 d2 : Int} (h1 : okR n1 d1) (h2 : okR n2 d2) (hle : ¬ 0 < n1 * d2 - n2 * d1) (hp : n2 < 0) : n1 < 0 ∧ SimpOk n2.natAbs d2.natAbs n1.natAbs d1.natAbs := by
  have h := simpOk_pos (okR_neg h2) (okR_neg h1) (by rw [Int.neg_mul, Int.neg_mul]; omega) (by omega)
  rw [Int.natAbs_neg, Int.natAbs_neg] at h
  exact ⟨by omega, h.2⟩
end Wd

end Go.Proofs.YtadclbankpmebaaDoor
/- No number with a lesser denominator lies between two than the simplest one. -/
namespace Go.Proofs.YtadclbankpmebaaDoor
namespace Wd

/-- The simplest number's parts are at most those of any number between. -/
theorem simp_least : ∀ (f a b c d p q : Nat), SimpOk a b c d → b + d ≤ f → 0 < q → a * q ≤ p * b → p * d ≤ c * q → (simp f a b c d).2 ≤ q ∧ (simp f a b c d).1 ≤ p
  | 0, a, b, c, d, p, q, h, hf, _, _, _ => by have := h.pb; omega
  | f + 1, a, b, c, d, p, q, h, hf, hq, h1, h2 => by
    have ha := h.pa; have hb0 := h.pb; have hc := h.pc; have hd := h.pd
    by_cases b1 : b = 1
    · simp only [simp, if_pos b1]
      subst b1
      rw [Nat.mul_one] at h1
      exact ⟨hq, Nat.le_trans (Nat.le_mul_of_pos_right a hq) h1⟩
    · by_cases hk : a / b < c / d
      · simp only [simp, if_neg b1, if_pos hk]
        refine ⟨hq, ?_⟩
        obtain ⟨hok⟩ := And.intro h trivial
        have e1 := Nat.div_add_mod a b
        have r0 : a % b ≠ 0 := fun e => b1 (Nat.Coprime.eq_one_of_dvd h.co.symm (Nat.dvd_of_mod_eq_zero e))
        have : a / b < p := by
          rcases Nat.lt_or_ge (a / b) p with h3 | h3
          · exact h3
          · have h4 : p * b ≤ a / b * b := Nat.mul_le_mul_right _ h3
            have h5 : a ≤ a * q := Nat.le_mul_of_pos_right a hq
            have h6 := Nat.div_mul_le_self a b
            have h7 : a / b * b + a % b = a := by rw [Nat.mul_comm]; exact e1
            generalize a / b * b = u at *
            omega
        omega
      · simp only [simp, if_neg b1, if_neg hk]
        obtain ⟨hok, hqq, e2, l1, l2⟩ := h.step b1 hk
        have hkb : a / b * b ≤ a := Nat.div_mul_le_self a b
        have hkd : a / b * d ≤ c := by rw [← hqq]; exact Nat.div_mul_le_self c d
        generalize a / b = k at *
        -- p is above k * q
        have hpq : k * q ≤ p := by
          have h3 : k * b * q ≤ a * q := Nat.mul_le_mul_right _ hkb
          have h4 : k * q * b ≤ p * b := by rw [Nat.mul_right_comm]; exact Nat.le_trans h3 h1
          exact Nat.le_of_mul_le_mul_right h4 hb0
        have m1 : (a - k * b) * q ≤ (p - k * q) * b := by
          rw [Nat.sub_mul, Nat.sub_mul, Nat.mul_right_comm k b q]
          exact Nat.sub_le_sub_right h1 _
        have m2 : (p - k * q) * d ≤ (c - k * d) * q := by
          rw [Nat.sub_mul, Nat.sub_mul, Nat.mul_right_comm k q d]
          exact Nat.sub_le_sub_right h2 _
        have hp0 : 0 < p - k * q := by
          rcases Nat.eq_zero_or_pos (p - k * q) with e | e
          · rw [e, Nat.zero_mul] at m1
            have := Nat.mul_pos hok.pd hq
            omega
          · exact e
        have ih := simp_least f d (c - k * d) b (a - k * b) q (p - k * q) hok (by omega) hp0 (by rw [Nat.mul_comm d, Nat.mul_comm q]; exact m2) (by rw [Nat.mul_comm q, Nat.mul_comm b]; exact m1)
        generalize simp f d (c - k * d) b (a - k * b) = r at *
        obtain ⟨n, e⟩ := r
        dsimp only at *
        refine ⟨ih.2, ?_⟩
        have : k * n ≤ k * q := Nat.mul_le_mul_left _ ih.2
        omega
end Wd
end Go.Proofs.YtadclbankpmebaaDoor
/- Both neighbours of a number, and which one is nearer. -/
namespace Go.Proofs.YtadclbankpmebaaDoor
namespace Wd

/-- a/b and c/e are the neighbours of N/D among the numbers with denominators of at most m. -/
structure Sides (N D m a b c e : Int) : Prop where
  b1 : 1 ≤ b
  bm : b ≤ m
  e1 : 1 ≤ e
  em : e ≤ m
  det : b * c - a * e = 1
  sum : m < b + e
  lo : 0 < N * b - a * D
  hi : 0 < c * D - N * e
theorem Sides.of_end {N D m ln ld c e d s u : Int} (h : NearEnd N D m ln ld c e d s u) : (s = -1 → Sides N D m ln ld c e) ∧ (s = 1 → Sides N D m c e ln ld) := by
  have g1 := h.far1; have g2 := h.far2; have g3 := h.det; have g4 := h.sum; have g5 := h.dp; have g6 := h.up
  rw [Int.mul_comm D ln] at g1
  rw [Int.mul_comm D c] at g2
  constructor
  · intro hs
    rw [hs, Int.neg_mul, Int.one_mul] at g1 g2
    rw [hs] at g3
    refine ⟨h.ld1, h.lm, h.e1, h.em, ?_, by omega, by omega, by omega⟩
    rw [Int.mul_comm ld c]; omega
  · intro hs
    rw [hs, Int.one_mul] at g1 g2
    rw [hs] at g3
    refine ⟨h.e1, h.em, h.ld1, h.lm, ?_, by omega, by omega, by omega⟩
    rw [Int.mul_comm e ln]; omega
theorem Sides.out {N D m a b c e p q : Int} (h : Sides N D m a b c e) (h1 : 1 ≤ q) (h2 : q ≤ m) : p * b ≤ a * q ∨ c * q ≤ p * e := by
  rcases Int.lt_or_le (a * q) (p * b) with h3 | h3
  · rcases Int.lt_or_le (p * e) (c * q) with h4 | h4
    · have := farey (a := a) (b := b) (c := c) (d := e) (p := p) (q := q) (by have := h.b1; omega) (by have := h.e1; omega) h.det (by omega) (by omega)
      have := h.sum
      omega
    · exact .inr h4
  · exact .inl h3
theorem least_lo {N D a b p q : Int} (hD : 0 < D) (h : p * b ≤ a * q) : (N * b - a * D) * q ≤ (N * q - p * D) * b := by
  have m1 : p * b * D ≤ a * q * D := Int.mul_le_mul_of_nonneg_right h (by omega)
  rw [Int.sub_mul, Int.sub_mul, Int.mul_right_comm N b q, Int.mul_right_comm a D q, Int.mul_right_comm p D b]
  omega
theorem least_hi {N D c e p q : Int} (hD : 0 < D) (h : c * q ≤ p * e) : (c * D - N * e) * q ≤ (p * D - N * q) * e := by
  have m1 : c * q * D ≤ p * e * D := Int.mul_le_mul_of_nonneg_right h (by omega)
  rw [Int.sub_mul, Int.sub_mul, Int.mul_right_comm N e q, Int.mul_right_comm c D q, Int.mul_right_comm p D e]
  omega
theorem cross {u v q y b e : Int} (hb : 0 < b) (he : 0 < e) (hq : 0 < q) (h1 : u * e ≤ v * b) (h2 : v * q ≤ y * e) : u * q ≤ y * b := by
  refine Int.le_of_mul_le_mul_right (a := e) ?_ he
  have a1 : u * e * q ≤ v * b * q := Int.mul_le_mul_of_nonneg_right h1 (by omega)
  have a2 : v * q * b ≤ y * e * b := Int.mul_le_mul_of_nonneg_right h2 (by omega)
  rw [Int.mul_right_comm u q e, Int.mul_right_comm y b e]
  rw [Int.mul_right_comm v b q] at a1
  omega
/-- The nearer one of both neighbours; of two equally near ones the one with the lesser denominator. -/
def pick (N D a b c e : Int) : Int × Int := if (N * b - a * D) * e < (c * D - N * e) * b ∨ ((N * b - a * D) * e = (c * D - N * e) * b ∧ b ≤ e) then (a, b) else (c, e)
theorem pick_or (N D a b c e : Int) : pick N D a b c e = (a, b) ∨ pick N D a b c e = (c, e) := by
  unfold pick; split
  · exact .inl rfl
  · exact .inr rfl
theorem pick_least {N D m a b c e p q : Int} (hD : 0 < D) (h : Sides N D m a b c e) (h1 : 1 ≤ q) (h2 : q ≤ m) :
    (((pick N D a b c e).1 * D - N * (pick N D a b c e).2).natAbs : Int) * q ≤ ((p * D - N * q).natAbs : Int) * (pick N D a b c e).2 := by
  have hb := h.b1; have he := h.e1; have hlo := h.lo; have hhi := h.hi
  have out := h.out (p := p) h1 h2
  have habs1 : p * D - N * q ≤ ((p * D - N * q).natAbs : Int) := by omega
  have habs2 : N * q - p * D ≤ ((p * D - N * q).natAbs : Int) := by omega
  generalize ((p * D - N * q).natAbs : Int) = y at *
  have yb : (N * q - p * D) * b ≤ y * b := Int.mul_le_mul_of_nonneg_right habs2 (by omega)
  have ye : (p * D - N * q) * e ≤ y * e := Int.mul_le_mul_of_nonneg_right habs1 (by omega)
  have e1 : ((a * D - N * b).natAbs : Int) = N * b - a * D := by omega
  have e2 : ((c * D - N * e).natAbs : Int) = c * D - N * e := by omega
  unfold pick
  split
  · rename_i hc
    dsimp only
    rw [e1]
    rcases out with ho | ho
    · exact Int.le_trans (least_lo hD ho) yb
    · have g := Int.le_trans (least_hi (N := N) hD ho) ye
      exact cross (by omega) (by omega) (by omega) (by rcases hc with hc | hc <;> omega) g
  · rename_i hc
    dsimp only
    rw [e2]
    rcases out with ho | ho
    · have g := Int.le_trans (least_lo (N := N) hD ho) yb
      exact cross (by omega) (by omega) (by omega) (by omega) g
    · exact Int.le_trans (least_hi hD ho) ye
/-- n/d is the number nearest to N/D with a denominator of at most m. -/
def NearO (N D m n d : Int) : Prop := (D ≤ m ∧ n = N ∧ d = D) ∨ (m < D ∧ ∃ a b c e, Sides N D m a b c e ∧ okR a b ∧ okR c e ∧ n = (pick N D a b c e).1 ∧ d = (pick N D a b c e).2)
theorem NearO.ok {N D m n d : Int} (h : NearO N D m n d) (ok : okR N D) : okR n d ∧ d ≤ m := by
  rcases h with ⟨h1, rfl, rfl⟩ | ⟨_, a, b, c, e, hs, o1, o2, rfl, rfl⟩
  · exact ⟨ok, h1⟩
  · rcases pick_or N D a b c e with h | h <;> rw [h]
    · exact ⟨o1, hs.bm⟩
    · exact ⟨o2, hs.em⟩
theorem NearO.least {N D m n d : Int} (h : NearO N D m n d) (ok : okR N D) (p q : Int) (h1 : 1 ≤ q) (h2 : q ≤ m) : ((n * D - N * d).natAbs : Int) * q ≤ ((p * D - N * q).natAbs : Int) * d := by
  have hD := ok.1
  rcases h with ⟨_, rfl, rfl⟩ | ⟨_, a, b, c, e, hs, o1, o2, rfl, rfl⟩
  · rw [Int.sub_self, Int.natAbs_zero]
    have := Int.mul_nonneg (a := ((p * d - n * q).natAbs : Int)) (b := d) (by omega) (by omega)
    omega
  · exact pick_least (by omega) hs h1 h2

/-- The amount of a number. -/
def absQ (q : Rat) : Rat := if q.num < 0 then -q else q
theorem num_neg_iff {x y : Int} (hy : 0 < y) : (Rat.divInt x y).num < 0 ↔ x < 0 := by
  have h1 : 0 ≤ Rat.divInt x y ↔ 0 ≤ x := Rat.divInt_nonneg_iff_of_pos_right hy
  rw [← Rat.num_nonneg] at h1
  omega
theorem absQ_divInt {x y : Int} (hy : 0 < y) : absQ (Rat.divInt x y) = Rat.divInt (x.natAbs : Int) y := by
  unfold absQ
  by_cases h : x < 0
  · rw [if_pos ((num_neg_iff hy).2 h), Rat.neg_divInt, show (x.natAbs : Int) = -x by omega]
  · rw [if_neg (fun h2 => h ((num_neg_iff hy).1 h2)), show (x.natAbs : Int) = x by omega]
theorem le_divInt {x y x' y' : Int} (hy : 0 < y) (hy' : 0 < y') (h : x * y' ≤ x' * y) :
    (Rat.divInt x y).num * ((Rat.divInt x' y').den : Int) - (Rat.divInt x' y').num * ((Rat.divInt x y).den : Int) ≤ 0 := by
  have A : (Rat.divInt x y).num * y = x * ((Rat.divInt x y).den : Int) := (Rat.divInt_eq_divInt_iff (by have := (Rat.divInt x y).den_nz; omega) (by omega)).1 (Rat.num_divInt_den (Rat.divInt x y))
  have B : (Rat.divInt x' y').num * y' = x' * ((Rat.divInt x' y').den : Int) := (Rat.divInt_eq_divInt_iff (by have := (Rat.divInt x' y').den_nz; omega) (by omega)).1 (Rat.num_divInt_den (Rat.divInt x' y'))
  have p1 : 0 < ((Rat.divInt x y).den : Int) := by have := (Rat.divInt x y).den_pos; omega
  have p2 : 0 < ((Rat.divInt x' y').den : Int) := by have := (Rat.divInt x' y').den_pos; omega
  generalize (Rat.divInt x y).num = n1 at *
  generalize ((Rat.divInt x y).den : Int) = d1 at *
  generalize (Rat.divInt x' y').num = n2 at *
  generalize ((Rat.divInt x' y').den : Int) = d2 at *
  have h3 : n1 * d2 ≤ n2 * d1 := by
    refine Int.le_of_mul_le_mul_right (a := y * y') ?_ (Int.mul_pos hy hy')
    have m1 : x * y' * (d1 * d2) ≤ x' * y * (d1 * d2) := Int.mul_le_mul_of_nonneg_right h (Int.le_of_lt (Int.mul_pos p1 p2))
    have i1 : n1 * d2 * (y * y') = x * y' * (d1 * d2) := by
      calc n1 * d2 * (y * y') = n1 * y * (d2 * y') := by ac_rfl
        _ = x * d1 * (d2 * y') := by rw [A]
        _ = x * y' * (d1 * d2) := by ac_rfl
    have i2 : n2 * d1 * (y * y') = x' * y * (d1 * d2) := by
      calc n2 * d1 * (y * y') = n2 * y' * (d1 * y) := by ac_rfl
        _ = x' * d2 * (d1 * y) := by rw [B]
        _ = x' * y * (d1 * d2) := by ac_rfl
    rw [i1, i2]; exact m1
  omega
theorem qR_sub {n d N D : Int} (hd : 0 < d) (hD : 0 < D) : qR n d - qR N D = Rat.divInt (n * D - N * d) (d * D) := by
  unfold qR
  rw [Rat.divInt_sub_divInt _ _ (by omega) (by omega)]
/-- The nearest number is no farther than any other of its denominators. -/
theorem NearO.far {N D m n d : Int} (h : NearO N D m n d) (ok : okR N D) (p q : Int) (h1 : 1 ≤ q) (h2 : q ≤ m) :
    (absQ (qR n d - qR N D)).num * ((absQ (qR p q - qR N D)).den : Int) - (absQ (qR p q - qR N D)).num * ((absQ (qR n d - qR N D)).den : Int) ≤ 0 := by
  have hD := ok.1
  have hd := (h.ok ok).1.1
  have hl := h.least ok p q h1 h2
  rw [qR_sub (by omega) (by omega), qR_sub (by omega) (by omega), absQ_divInt (Int.mul_pos (by omega) (by omega)), absQ_divInt (Int.mul_pos (by omega) (by omega))]
  refine le_divInt (Int.mul_pos (by omega) (by omega)) (Int.mul_pos (by omega) (by omega)) ?_
  rw [← Int.mul_assoc, ← Int.mul_assoc]
  exact Int.mul_le_mul_of_nonneg_right hl (by omega)
theorem simpT_ok {n1 d1 n2 d2 : Int} (h0 : (simpT n1 d1 n2 d2).e = 0) : okR n1 d1 ∧ okR n2 d2 := by
  unfold simpT at h0
  by_cases ok : okR n1 d1 ∧ okR n2 d2
  · exact ok
  · rw [if_neg ok] at h0; exact absurd h0 (by decide)
/-- No representable number between two has a lesser denominator than the simplest one. -/
theorem simpT_least {n1 d1 n2 d2 p q : Int} (h0 : (simpT n1 d1 n2 d2).e = 0) (hp : okR p q) (h1 : n1 * q ≤ p * d1) (h2 : p * d2 ≤ n2 * q) : (simpT n1 d1 n2 d2).d ≤ q := by
  have hq := hp.1
  unfold simpT at *
  by_cases ok : okR n1 d1 ∧ okR n2 d2
  · rw [if_pos ok] at h0 ⊢
    have hd1 := ok.1.1; have hd2 := ok.2.1
    by_cases hle : 0 < n1 * d2 - n2 * d1
    · rw [if_pos hle] at h0; exact absurd h0 (by decide)
    · rw [if_neg hle] at h0 ⊢
      by_cases hp1 : 0 < n1
      · rw [if_pos hp1] at h0 ⊢
        obtain ⟨hn2, hs⟩ := simpOk_pos ok.1 ok.2 hle hp1
        have m1 : 0 < n1 * q := Int.mul_pos hp1 (by omega)
        have hpp : 0 < p := by
          rcases Int.lt_or_le 0 p with h | h
          · exact h
          · have := Int.mul_nonneg (a := -p) (b := d1) (by omega) (by omega)
            rw [Int.neg_mul] at this
            omega
        have hl := simp_least (d1.natAbs + d2.natAbs) n1.natAbs d1.natAbs n2.natAbs d2.natAbs p.natAbs q.natAbs hs (Nat.le_refl _) (by omega)
          (by
            have : ((n1.natAbs * q.natAbs : Nat) : Int) ≤ ((p.natAbs * d1.natAbs : Nat) : Int) := by
              rw [Int.natCast_mul, Int.natCast_mul, Int.natAbs_of_nonneg (by omega), Int.natAbs_of_nonneg (by omega), Int.natAbs_of_nonneg (by omega), Int.natAbs_of_nonneg (by omega)]
              exact h1
            omega)
          (by
            have : ((p.natAbs * d2.natAbs : Nat) : Int) ≤ ((n2.natAbs * q.natAbs : Nat) : Int) := by
              rw [Int.natCast_mul, Int.natCast_mul, Int.natAbs_of_nonneg (by omega), Int.natAbs_of_nonneg (by omega), Int.natAbs_of_nonneg (by omega), Int.natAbs_of_nonneg (by omega)]
              exact h2
            omega)
        have := hl.1
        dsimp only
        omega
      · rw [if_neg hp1] at h0 ⊢
        by_cases hp2 : n2 < 0
        · rw [if_pos hp2] at h0 ⊢
          obtain ⟨hn1, hs⟩ := simpOk_neg ok.1 ok.2 hle hp2
          have m1 : 0 < -n2 * q := Int.mul_pos (by omega) (by omega)
          rw [Int.neg_mul] at m1
          have hpp : p < 0 := by
            rcases Int.lt_or_le p 0 with h | h
            · exact h
            · have := Int.mul_nonneg (a := p) (b := d2) (by omega) (by omega)
              omega
          have hl := simp_least (d2.natAbs + d1.natAbs) n2.natAbs d2.natAbs n1.natAbs d1.natAbs p.natAbs q.natAbs hs (Nat.le_refl _) (by omega)
            (by
              have : ((n2.natAbs * q.natAbs : Nat) : Int) ≤ ((p.natAbs * d2.natAbs : Nat) : Int) := by
                rw [Int.natCast_mul, Int.natCast_mul, show (n2.natAbs : Int) = -n2 by omega, show (p.natAbs : Int) = -p by omega, Int.natAbs_of_nonneg (by omega), Int.natAbs_of_nonneg (by omega), Int.neg_mul, Int.neg_mul]
                omega
              omega)
            (by
              have : ((p.natAbs * d1.natAbs : Nat) : Int) ≤ ((n1.natAbs * q.natAbs : Nat) : Int) := by
                rw [Int.natCast_mul, Int.natCast_mul, show (n1.natAbs : Int) = -n1 by omega, show (p.natAbs : Int) = -p by omega, Int.natAbs_of_nonneg (by omega), Int.natAbs_of_nonneg (by omega), Int.neg_mul, Int.neg_mul]
                omega
              omega)
          have := hl.1
          dsimp only
          omega
        · rw [if_neg hp2]
          dsimp only
          omega
  · rw [if_neg ok] at h0; exact absurd h0 (by decide)
end Wd
end Go.Proofs.YtadclbankpmebaaDoor
/- The reference: the amount of a number. -/
namespace Go.Proofs.YtadclbankpmebaaDoor
open Go.RowKit

set_option maxRecDepth 100000 in
set_option maxHeartbeats 16000000 in
theorem tabs_neg (A1 : Option Addr) (c1 : Nat) (l1 : List Nat) (m1 : Bool) (A2 : Option Addr) (c2 : Nat) (l2 : List Nat) (m2 : Bool) (q : Rat) (w : World)
    (hs : ∀ W, Below w.heap.size w W → Calls Tryd.prog 53 #[(Value.agg #[.slice A1 l1.length c1, .bool m1, .slice A2 l2.length c2, .bool m2])] W fun e w' => e = .returned (.int .i64 (-1)) ∧ Below W.heap.size W w')
    (hn : ∀ W, Below w.heap.size w W → Calls Tryd.prog 52 #[(Value.agg #[.slice A1 l1.length c1, .bool m1, .slice A2 l2.length c2, .bool m2])] W fun e w' => QR W q e w') :
    Calls Tryd.prog 21 #[(Value.agg #[.slice A1 l1.length c1, .bool m1, .slice A2 l2.length c2, .bool m2])] w fun e w' => QR w q e w' := by
  have HS := hide hs
  have HN := hide hn
  clear hs hn
  go_enter Tryd.func21, Tryd.ntmps21
  go_upto_region 1 with fail
  obtain ⟨n0, n1, hsz, hw0⟩ := two_new w (.cells #[.slice A1 l1.length c1, .bool m1, .slice A2 l2.length c2, .bool m2] 37) (.cells #[.slice none 0 0, .bool false, .slice none 0 0, .bool false] 37)
  generalize ((w.alloc (.cells #[.slice A1 l1.length c1, .bool m1, .slice A2 l2.length c2, .bool m2] 37)).alloc (.cells #[.slice none 0 0, .bool false, .slice none 0 0, .bool false] 37)) = W0 at *
  have k0_0 : W0.cell? ⟨w.heap.size, 0, none⟩ = some (.slice A1 l1.length c1) := cells_of n0 0
  have k0_1 : W0.cell? ⟨w.heap.size, 1, none⟩ = some (.bool m1) := cells_of n0 1
  have k0_2 : W0.cell? ⟨w.heap.size, 2, none⟩ = some (.slice A2 l2.length c2) := cells_of n0 2
  have k0_3 : W0.cell? ⟨w.heap.size, 3, none⟩ = some (.bool m2) := cells_of n0 3
  have q0 : w.heap.size < W0.heap.size := by omega
  have k1_0 : W0.cell? ⟨w.heap.size + 1, 0, none⟩ = some (.slice none 0 0) := cells_of n1 0
  have k1_1 : W0.cell? ⟨w.heap.size + 1, 1, none⟩ = some (.bool false) := cells_of n1 1
  have k1_2 : W0.cell? ⟨w.heap.size + 1, 2, none⟩ = some (.slice none 0 0) := cells_of n1 2
  have k1_3 : W0.cell? ⟨w.heap.size + 1, 3, none⟩ = some (.bool false) := cells_of n1 3
  have q1 : w.heap.size + 1 < W0.heap.size := by omega
  have f1_0 := unfrozen_of n1 0
  have f1_1 := unfrozen_of n1 1
  have f1_2 := unfrozen_of n1 2
  have f1_3 := unfrozen_of n1 3
  have NR := Lib.hid n1
  clear hsz n0 n1
  go_wp2_with fail
  refine ((unhide HS) _ hw0).mono ?_
  rintro e V1 ⟨rfl, hbx⟩
  obtain ⟨hc, hfz⟩ := bcell hbx
  replace k0_0 := (hc _ _ q0).trans k0_0
  replace k0_1 := (hc _ _ q0).trans k0_1
  replace k0_2 := (hc _ _ q0).trans k0_2
  replace k0_3 := (hc _ _ q0).trans k0_3
  replace q0 := Nat.lt_of_lt_of_le q0 hbx.size
  replace k1_0 := (hc _ _ q1).trans k1_0
  replace f1_0 := (hfz _ _ q1).trans f1_0
  replace k1_1 := (hc _ _ q1).trans k1_1
  replace f1_1 := (hfz _ _ q1).trans f1_1
  replace k1_2 := (hc _ _ q1).trans k1_2
  replace f1_2 := (hfz _ _ q1).trans f1_2
  replace k1_3 := (hc _ _ q1).trans k1_3
  replace f1_3 := (hfz _ _ q1).trans f1_3
  replace NR := Lib.hid ((hbx.block _ q1).trans NR.out)
  replace q1 := Nat.lt_of_lt_of_le q1 hbx.size
  replace hw0 := below_step' hw0 hbx
  clear hbx hc hfz
  go_wp2_with fail
  refine ((unhide HN) _ hw0).mono ?_
  rintro e V2 ⟨A5, c5, l5, m5, A6, c6, l6, m6, rfl, g5, g6, hbx⟩
  obtain ⟨hc, hfz⟩ := bcell hbx
  replace k0_0 := (hc _ _ q0).trans k0_0
  replace k0_1 := (hc _ _ q0).trans k0_1
  replace k0_2 := (hc _ _ q0).trans k0_2
  replace k0_3 := (hc _ _ q0).trans k0_3
  replace q0 := Nat.lt_of_lt_of_le q0 hbx.size
  replace k1_0 := (hc _ _ q1).trans k1_0
  replace f1_0 := (hfz _ _ q1).trans f1_0
  replace k1_1 := (hc _ _ q1).trans k1_1
  replace f1_1 := (hfz _ _ q1).trans f1_1
  replace k1_2 := (hc _ _ q1).trans k1_2
  replace f1_2 := (hfz _ _ q1).trans f1_2
  replace k1_3 := (hc _ _ q1).trans k1_3
  replace f1_3 := (hfz _ _ q1).trans f1_3
  replace NR := Lib.hid ((hbx.block _ q1).trans NR.out)
  replace q1 := Nat.lt_of_lt_of_le q1 hbx.size
  replace hw0 := below_step' hw0 hbx
  clear hbx hc hfz
  have H5 := hide g5; have H6 := hide g6
  clear g5 g6
  have HBLK := NR
  have g5 := (unhide H5); have g6 := (unhide H6)
  go_wp2_with fail
  exact bodyPost_ret (v := (Value.agg #[.slice A5 l5.length c5, .bool m5, .slice A6 l6.length c6, .bool m6])) (by simp [results, Tryd.results21, go_sem, k1_0, k1_1, k1_2, k1_3, q1]) rfl
    ⟨A5, c5, l5, m5, A6, c6, l6, m6, rfl, g5.upto HBLK.out (noW2_4 _ _ _ _ _ _ _ _) (set4_grown _ _ _ _ _ _), g6.upto HBLK.out (noW2_4 _ _ _ _ _ _ _ _) (set4_grown _ _ _ _ _ _), hw0.grown (set4_grown _ _ _ _ _ _) hw0.size (fun k hk => by injection hk with hk; omega)⟩

set_option maxRecDepth 100000 in
set_option maxHeartbeats 16000000 in
theorem tabs_pos (A1 : Option Addr) (c1 : Nat) (l1 : List Nat) (m1 : Bool) (A2 : Option Addr) (c2 : Nat) (l2 : List Nat) (m2 : Bool) (q : Rat) (o : Int) (w : World) (f1 : WholeF w A1 c1 l1 m1 q.num) (f2 : WholeF w A2 c2 l2 m2 (q.den : Int))
    (hs : ∀ W, Below w.heap.size w W → Calls Tryd.prog 53 #[(Value.agg #[.slice A1 l1.length c1, .bool m1, .slice A2 l2.length c2, .bool m2])] W fun e w' => e = .returned (.int .i64 o) ∧ Below W.heap.size W w') (ho : ¬ o < 0) :
    Calls Tryd.prog 21 #[(Value.agg #[.slice A1 l1.length c1, .bool m1, .slice A2 l2.length c2, .bool m2])] w fun e w' => QR w q e w' := by
  have d1 : decide (o < 0) = false := decide_eq_false ho
  have H1 := hide f1; have H2 := hide f2
  clear f1 f2 ho
  have HS := hide hs
  clear hs
  go_enter Tryd.func21, Tryd.ntmps21
  go_upto_region 1 with fail
  obtain ⟨n0, n1, hsz, hw0⟩ := two_new w (.cells #[.slice A1 l1.length c1, .bool m1, .slice A2 l2.length c2, .bool m2] 37) (.cells #[.slice none 0 0, .bool false, .slice none 0 0, .bool false] 37)
  generalize ((w.alloc (.cells #[.slice A1 l1.length c1, .bool m1, .slice A2 l2.length c2, .bool m2] 37)).alloc (.cells #[.slice none 0 0, .bool false, .slice none 0 0, .bool false] 37)) = W0 at *
  have k0_0 : W0.cell? ⟨w.heap.size, 0, none⟩ = some (.slice A1 l1.length c1) := cells_of n0 0
  have k0_1 : W0.cell? ⟨w.heap.size, 1, none⟩ = some (.bool m1) := cells_of n0 1
  have k0_2 : W0.cell? ⟨w.heap.size, 2, none⟩ = some (.slice A2 l2.length c2) := cells_of n0 2
  have k0_3 : W0.cell? ⟨w.heap.size, 3, none⟩ = some (.bool m2) := cells_of n0 3
  have q0 : w.heap.size < W0.heap.size := by omega
  have k1_0 : W0.cell? ⟨w.heap.size + 1, 0, none⟩ = some (.slice none 0 0) := cells_of n1 0
  have k1_1 : W0.cell? ⟨w.heap.size + 1, 1, none⟩ = some (.bool false) := cells_of n1 1
  have k1_2 : W0.cell? ⟨w.heap.size + 1, 2, none⟩ = some (.slice none 0 0) := cells_of n1 2
  have k1_3 : W0.cell? ⟨w.heap.size + 1, 3, none⟩ = some (.bool false) := cells_of n1 3
  have q1 : w.heap.size + 1 < W0.heap.size := by omega
  have f1_0 := unfrozen_of n1 0
  have f1_1 := unfrozen_of n1 1
  have f1_2 := unfrozen_of n1 2
  have f1_3 := unfrozen_of n1 3
  have NR := Lib.hid n1
  clear hsz n0 n1
  replace H1 := hide ((unhide H1).below hw0)
  replace H2 := hide ((unhide H2).below hw0)
  go_wp2_with fail
  refine ((unhide HS) _ hw0).mono ?_
  rintro e V1 ⟨rfl, hbx⟩
  obtain ⟨hc, hfz⟩ := bcell hbx
  replace k0_0 := (hc _ _ q0).trans k0_0
  replace k0_1 := (hc _ _ q0).trans k0_1
  replace k0_2 := (hc _ _ q0).trans k0_2
  replace k0_3 := (hc _ _ q0).trans k0_3
  replace q0 := Nat.lt_of_lt_of_le q0 hbx.size
  replace k1_0 := (hc _ _ q1).trans k1_0
  replace f1_0 := (hfz _ _ q1).trans f1_0
  replace k1_1 := (hc _ _ q1).trans k1_1
  replace f1_1 := (hfz _ _ q1).trans f1_1
  replace k1_2 := (hc _ _ q1).trans k1_2
  replace f1_2 := (hfz _ _ q1).trans f1_2
  replace k1_3 := (hc _ _ q1).trans k1_3
  replace f1_3 := (hfz _ _ q1).trans f1_3
  replace NR := Lib.hid ((hbx.block _ q1).trans NR.out)
  replace q1 := Nat.lt_of_lt_of_le q1 hbx.size
  replace hw0 := below_step' hw0 hbx
  replace H1 := hide ((unhide H1).below hbx)
  replace H2 := hide ((unhide H2).below hbx)
  clear hbx hc hfz
  have HBLK := NR
  have g1 := (unhide H1); have g2 := (unhide H2)
  go_wp2_with fail
  exact bodyPost_ret (v := (Value.agg #[.slice A1 l1.length c1, .bool m1, .slice A2 l2.length c2, .bool m2])) (by simp [results, Tryd.results21, go_sem, k1_0, k1_1, k1_2, k1_3, q1]) rfl
    ⟨A1, c1, l1, m1, A2, c2, l2, m2, rfl, g1.upto HBLK.out (noW2_4 _ _ _ _ _ _ _ _) (set4_grown _ _ _ _ _ _), g2.upto HBLK.out (noW2_4 _ _ _ _ _ _ _ _) (set4_grown _ _ _ _ _ _), hw0.grown (set4_grown _ _ _ _ _ _) hw0.size (fun k hk => by injection hk with hk; omega)⟩

theorem tqabs_any (A1 : Option Addr) (c1 : Nat) (l1 : List Nat) (m1 : Bool) (A2 : Option Addr) (c2 : Nat) (l2 : List Nat) (m2 : Bool) (q : Rat) (w : World) (f1 : WholeF w A1 c1 l1 m1 q.num) (f2 : WholeF w A2 c2 l2 m2 (q.den : Int)) :
    Calls Tryd.prog 21 #[(Value.agg #[.slice A1 l1.length c1, .bool m1, .slice A2 l2.length c2, .bool m2])] w fun e w' => QR w (Wd.absQ q) e w' := by
  have hs := fun W (hW : Below w.heap.size w W) => tqsign_any A1 c1 l1 m1 A2 c2 l2 m2 q W ((QV.of f1 f2).below hW)
  unfold Wd.absQ
  by_cases h : q.num < 0
  · rw [if_pos h]
    rw [show sgn q.num = -1 from if_pos h] at hs
    exact tabs_neg A1 c1 l1 m1 A2 c2 l2 m2 (-q) w hs (fun W hW => tqneg_any A1 c1 l1 m1 A2 c2 l2 m2 q W ((QV.of f1 f2).below hW))
  · rw [if_neg h]
    exact tabs_pos A1 c1 l1 m1 A2 c2 l2 m2 q (sgn q.num) w f1 f2 hs (by unfold sgn; rw [if_neg h]; split <;> omega)

end Go.Proofs.YtadclbankpmebaaDoor
