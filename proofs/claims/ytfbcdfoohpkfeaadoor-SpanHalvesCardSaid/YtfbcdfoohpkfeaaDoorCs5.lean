/- Part 5 of the texts beneath a law of layer 1: IntAddB, IntAdd, Rat, Sz, RatioF, IntMul, RtBox. -/
import Derived.Test.YtfbcdfoohpkfeaaDoorCs4
import Derived.IntWalk
import Derived.Deep.DeepCutAuto
import Derived.Deep.CutBlock
/- Sums of whole numbers that are not both small. -/
namespace Go.Proofs.YtfbcdfoohpkfeaaDoor
open Go.RowKit

set_option maxRecDepth 100000 in
set_option maxHeartbeats 8000000 in
theorem iadd_big (s1 : Int) (neg1 : Bool) (A1 : Option Addr) (c1 : Nat) (l1 : List Nat) (z1 : Int) (s2 : Int) (neg2 : Bool) (A2 : Option Addr) (c2 : Nat) (l2 : List Nat) (z2 : Int) (w : World)
    (h1 : IntF w s1 neg1 A1 c1 l1 z1) (h2 : IntF w s2 neg2 A2 c2 l2 z2) (hl1 : l1.length ≤ lim) (hl2 : l2.length ≤ lim) (a : ¬ (l1.length = 0 ∧ l2.length = 0)) :
    Calls Tryd.prog 68 #[.agg #[.int .i64 s1, .bool neg1, .slice A1 l1.length c1], .agg #[.int .i64 s2, .bool neg2, .slice A2 l2.length c2]] w fun e w' => IntR w (z1 + z2) e w' := by
  have HLEN := hide (fun (W : World) (A5 : Option Addr) (c5 : Nat) (l5 : List Nat) (_ : Unit) (g : NatV W A5 c5 l5 z1.natAbs) => h1.len_lim hl1 g)
  have HLEN2 := hide (fun (W : World) (A5 : Option Addr) (c5 : Nat) (l5 : List Nat) (_ : Unit) (g : NatV W A5 c5 l5 z2.natAbs) => h2.len_lim hl2 g)
  have G1 : ∀ W0, Below w.heap.size w W0 → Hid (∀ W, Below W0.heap.size W0 W → Calls Tryd.prog 50 #[.agg #[.int .i64 s1, .bool neg1, .slice A1 l1.length c1]] W fun e w' => e = .returned (.int .i64 (sgn z1)) ∧ Below W.heap.size W w') := fun W0 h0 W hW => sign_any s1 neg1 A1 c1 l1 z1 W (IntF.below h1 (below_step' h0 hW))
  have G2 : ∀ W0, Below w.heap.size w W0 → Hid (∀ W, Below W0.heap.size W0 W → Calls Tryd.prog 50 #[.agg #[.int .i64 s2, .bool neg2, .slice A2 l2.length c2]] W fun e w' => e = .returned (.int .i64 (sgn z2)) ∧ Below W.heap.size W w') := fun W0 h0 W hW => sign_any s2 neg2 A2 c2 l2 z2 W (IntF.below h2 (below_step' h0 hW))
  have B1 : ∀ W0, Below w.heap.size w W0 → Hid (∀ W, Below W0.heap.size W0 W → Calls Tryd.prog 77 #[.agg #[.int .i64 s1, .bool neg1, .slice A1 l1.length c1]] W fun e w' => NatR W z1.natAbs e w') := fun W0 h0 W hW => abs_any s1 neg1 A1 c1 l1 z1 W (IntF.below h1 (below_step' h0 hW))
  have B2 : ∀ W0, Below w.heap.size w W0 → Hid (∀ W, Below W0.heap.size W0 W → Calls Tryd.prog 77 #[.agg #[.int .i64 s2, .bool neg2, .slice A2 l2.length c2]] W fun e w' => NatR W z2.natAbs e w') := fun W0 h0 W hW => abs_any s2 neg2 A2 c2 l2 z2 W (IntF.below h2 (below_step' h0 hW))
  obtain ⟨m1, hm1⟩ : ∃ o, o = z1.natAbs := ⟨_, rfl⟩
  obtain ⟨m2, hm2⟩ : ∃ o, o = z2.natAbs := ⟨_, rfl⟩
  obtain ⟨o1, ho1⟩ : ∃ o, o = sgn z1 := ⟨_, rfl⟩
  obtain ⟨o2, ho2⟩ : ∃ o, o = sgn z2 := ⟨_, rfl⟩
  obtain ⟨Z, hZ⟩ : ∃ o, o = z1 + z2 := ⟨_, rfl⟩
  have hs1 : (o1 < 0) ↔ z1 < 0 := by rw [ho1]; exact sgn_neg z1
  have hs2 : (o2 < 0) ↔ z2 < 0 := by rw [ho2]; exact sgn_neg z2
  have HS1 := hide (fun W => isSmall_any s1 neg1 A1 c1 l1.length W)
  have HS2 := hide (fun W => isSmall_any s2 neg2 A2 c2 l2.length W)
  rw [← ho1] at G1
  rw [← ho2] at G2
  rw [← hm1] at B1 HLEN
  rw [← hm2] at B2 HLEN2
  rw [← hZ]
  have HG1 := hide G1; have HG2 := hide G2; have HB1 := hide B1; have HB2 := hide B2
  clear G1 G2 B1 B2
  obtain ⟨n1, hn1⟩ : ∃ b, b = decide (o1 < 0) := ⟨_, rfl⟩
  obtain ⟨n2, hn2⟩ : ∃ b, b = decide (o2 < 0) := ⟨_, rfl⟩
  have D1 := hn1.symm
  have D2 := hn2.symm
  have q1 : n1 = true ↔ z1 < 0 := by rw [hn1, decide_eq_true_iff, hs1]
  have q2 : n2 = true ↔ z2 < 0 := by rw [hn2, decide_eq_true_iff, hs2]
  obtain ⟨od, hod⟩ : ∃ o, o = ord3 m1 m2 := ⟨_, rfl⟩
  have HOD := Lib.hid hod
  have hcase : (l1.length = 0 ∧ ¬ l2.length = 0) ∨ ¬ l1.length = 0 := by omega
  clear hs1 hs2 ho1 ho2 hn1 hn2 h1 h2 hl1 hl2
  by_cases he : n1 = n2
  · have EQ : (n1 == n2) = true := beq_iff_eq.2 he
    have HSG := hide (fun (W : World) (A : Option Addr) (c : Nat) (l : List Nat) (g : NatV W A c l (m1 + m2)) => (show Calls Tryd.prog 76 #[.bool (n1), .slice A l.length c] W fun e w' => IntR W Z e w' by
      have := signed_any (n1) A c l (m1 + m2) W g
      rw [show (if (n1) = true then -(((m1 + m2) : Nat) : Int) else (((m1 + m2) : Nat) : Int)) = Z by cases n1 <;> cases n2 <;> simp at he q1 q2 ⊢ <;> omega] at this
      exact this))
    clear hod he q1 q2 hZ hm1 hm2
    rcases hcase with ⟨a1, a2⟩ | a1
    · rw [decide_eq_true a1] at HS1
      rw [decide_eq_false a2] at HS2
      clear a a1 a2
      go_enter Tryd.func68, Tryd.ntmps68
      go_wp2_with fail
      obtain ⟨n1, n2, n3, hsz, hw0⟩ := three_new w (.cells #[.int .i64 s1, .bool neg1, .slice A1 l1.length c1] 46) (.cells #[.int .i64 s2, .bool neg2, .slice A2 l2.length c2] 46) (.cells #[.int .i64 0, .bool false, .slice none 0 0] 46)
      generalize (((w.alloc (.cells #[.int .i64 s1, .bool neg1, .slice A1 l1.length c1] 46)).alloc (.cells #[.int .i64 s2, .bool neg2, .slice A2 l2.length c2] 46)).alloc (.cells #[.int .i64 0, .bool false, .slice none 0 0] 46)) = W0 at *
      have k1 := cells_of n1 0
      have k2 := cells_of n1 1
      have k3 := cells_of n1 2
      simp only [Array.getElem?_eq_getElem, three0, three1, three2] at k1 k2 k3
      have k4 := cells_of n2 0
      have k5 := cells_of n2 1
      have k6 := cells_of n2 2
      simp only [Array.getElem?_eq_getElem, three0, three1, three2] at k4 k5 k6
      have q0 : w.heap.size < W0.heap.size := by omega
      have q1 : w.heap.size + 1 < W0.heap.size := by omega
      have q2 : w.heap.size + 1 + 1 < W0.heap.size := by omega
      have k7 := cells_of n3 0
      have k8 := cells_of n3 1
      have k9 := cells_of n3 2
      simp only [Array.getElem?_eq_getElem, three0, three1, three2] at k7 k8 k9
      have f7 := unfrozen_of n3 0
      have f8 := unfrozen_of n3 1
      have f9 := unfrozen_of n3 2
      have N3 := Lib.hid n3
      clear n3
      clear n1 n2
      refine ((unhide HS1) _).mono ?_
      rintro e w1 ⟨rfl, hw1⟩
      have hbw1 := below_eq (w := W0) (by (first | assumption | (repeat (first | exact Below.refl _ _ | assumption | refine Below.drew ?_ | (refine Below.alloc ?_ (by simp <;> omega) _))))) hw1
      obtain ⟨hc, hfz⟩ := bcell hbw1
      clear hw1
      go_wp2_with fail
      refine ((unhide HS2) _).mono ?_
      rintro e w2 ⟨rfl, hw2⟩
      have hbw2 := below_eq (w := W0) (by (first | assumption | (repeat (first | exact Below.refl _ _ | assumption | refine Below.drew ?_ | (refine Below.alloc ?_ (by simp <;> omega) _))))) hw2
      obtain ⟨hc, hfz⟩ := bcell hbw2
      clear hw2
      go_wp2_with fail
      have B1 := (unhide HB1) W0 hw0; have B2 := (unhide HB2) W0 hw0; have G1 := (unhide HG1) W0 hw0; have G2 := (unhide HG2) W0 hw0
      go_region_held3 (fun w' => w'.cell? ⟨w.heap.size, 0, none⟩ = some (.int .i64 s1) ∧ w'.cell? ⟨w.heap.size, 1, none⟩ = some (.bool neg1) ∧ w'.cell? ⟨w.heap.size, 2, none⟩ = some (.slice A1 l1.length c1) ∧ w'.cell? ⟨w.heap.size + 1, 0, none⟩ = some (.int .i64 s2) ∧ w'.cell? ⟨w.heap.size + 1, 1, none⟩ = some (.bool neg2) ∧ w'.cell? ⟨w.heap.size + 1, 2, none⟩ = some (.slice A2 l2.length c2)) ((first | with_reducible exact ⟨(hc _ _ q0).trans k1, (hc _ _ q0).trans k2, (hc _ _ q0).trans k3, (hc _ _ q1).trans k4, (hc _ _ q1).trans k5, (hc _ _ q1).trans k6⟩ | with_reducible exact ⟨k1, k2, k3, k4, k5, k6⟩ | with_reducible exact ⟨(cell_set3 _ _ _ _ _ (by omega)).trans ((hc _ _ q0).trans k1), (cell_set3 _ _ _ _ _ (by omega)).trans ((hc _ _ q0).trans k2), (cell_set3 _ _ _ _ _ (by omega)).trans ((hc _ _ q0).trans k3), (cell_set3 _ _ _ _ _ (by omega)).trans ((hc _ _ q1).trans k4), (cell_set3 _ _ _ _ _ (by omega)).trans ((hc _ _ q1).trans k5), (cell_set3 _ _ _ _ _ (by omega)).trans ((hc _ _ q1).trans k6)⟩ | exact ⟨(hc _ _ q0).trans k1, (hc _ _ q0).trans k2, (hc _ _ q0).trans k3, (hc _ _ q1).trans k4, (hc _ _ q1).trans k5, (hc _ _ q1).trans k6⟩ | exact ⟨k1, k2, k3, k4, k5, k6⟩)) (first | (go_at_call_of 77 (Value.agg #[.int .i64 s1, .bool neg1, .slice A1 l1.length c1]); refine ((unhide B1) _ (by (first | assumption | (repeat (first | exact Below.refl _ _ | assumption | refine Below.drew ?_ | (refine Below.alloc ?_ (by simp <;> omega) _)))))).mono ?_; rintro e w' ⟨A5, cap5, l5, rfl, hn5, hb⟩; have hbw := below_step (w := W0) (by (first | assumption | (repeat (first | exact Below.refl _ _ | assumption | refine Below.drew ?_ | (refine Below.alloc ?_ (by simp <;> omega) _))))) hb; obtain ⟨hc, hfz⟩ := bcell hbw) | (go_at_call_of 77 (Value.agg #[.int .i64 s2, .bool neg2, .slice A2 l2.length c2]); refine ((unhide B2) _ (by (first | assumption | (repeat (first | exact Below.refl _ _ | assumption | refine Below.drew ?_ | (refine Below.alloc ?_ (by simp <;> omega) _)))))).mono ?_; rintro e w' ⟨A6, cap6, l6, rfl, hn6, hb⟩; have hn5' := hn5.below hb; have hbw := below_step (w := W0) (by (first | assumption | (repeat (first | exact Below.refl _ _ | assumption | refine Below.drew ?_ | (refine Below.alloc ?_ (by simp <;> omega) _))))) hb; obtain ⟨hc, hfz⟩ := bcell hbw))
      go_wp2_with fail
      refine ((unhide G1) _ (by (first | assumption | (repeat (first | exact Below.refl _ _ | assumption | refine Below.drew ?_ | (refine Below.alloc ?_ (by simp <;> omega) _)))))).mono ?_
      rintro e w6 ⟨rfl, hb⟩
      replace hn5' := hn5'.below hb
      replace hn6 := hn6.below hb
      have hbw := below_step (w := W0) (by (first | assumption | (repeat (first | exact Below.refl _ _ | assumption | refine Below.drew ?_ | (refine Below.alloc ?_ (by simp <;> omega) _))))) hb
      obtain ⟨hc, hfz⟩ := bcell hbw
      go_wp2_with fail
      refine ((unhide G2) _ (by (first | assumption | (repeat (first | exact Below.refl _ _ | assumption | refine Below.drew ?_ | (refine Below.alloc ?_ (by simp <;> omega) _)))))).mono ?_
      rintro e w7 ⟨rfl, hb⟩
      replace hn5' := hn5'.below hb
      replace hn6 := hn6.below hb
      have hbw := below_step (w := W0) (by (first | assumption | (repeat (first | exact Below.refl _ _ | assumption | refine Below.drew ?_ | (refine Below.alloc ?_ (by simp <;> omega) _))))) hb
      obtain ⟨hc, hfz⟩ := bcell hbw
      go_wp2_with fail
      refine (add_any A5 A6 cap5 cap6 l5 l6 m1 m2 _ (by exact hn5') (by exact hn6) ((unhide HLEN) _ _ _ _ () hn5').1 ((unhide HLEN2) _ _ _ _ () hn6).1).mono ?_
      rintro e w8 ⟨A7, cap7, l7, rfl, hn7, hb⟩
      have hbw := below_step (w := W0) (by (first | assumption | (repeat (first | exact Below.refl _ _ | assumption | refine Below.drew ?_ | (refine Below.alloc ?_ (by simp <;> omega) _))))) hb
      obtain ⟨hc, hfz⟩ := bcell hbw
      go_wp2_with fail
      refine ((unhide HSG) _ A7 cap7 l7 hn7).mono ?_
      rintro e w' ⟨s, neg', A', cap', l', rfl, hf, hb⟩
      have hbw := below_step (w := W0) (by (first | assumption | (repeat (first | exact Below.refl _ _ | assumption | refine Below.drew ?_ | (refine Below.alloc ?_ (by simp <;> omega) _))))) hb
      obtain ⟨hc, hfz⟩ := bcell hbw
      have hblk : w'.heap[w.heap.size + 1 + 1]? = some (.cells #[.int .i64 0, .bool false, .slice none 0 0] 46 (0, 0)) := (hbw.block _ q2).trans N3.out
      have HBLK := Lib.hid hblk
      have hb9 : Below w.heap.size w w' := below_step' hw0 hbw
      clear hblk
      go_wp2_with fail
      exact bodyPost_ret (v := .agg #[.int .i64 s, .bool neg', .slice A' l'.length cap']) (by simp [results, Tryd.results68, go_sem, hc, k7, k8, k9, q2]) rfl
        ⟨s, neg', A', cap', l', rfl, hf.upto HBLK.out (noWord3 _ _ _ _ _) (set3_grown _ _ _ _ _), hb9.grown (set3_grown _ _ _ _ _) hb9.size (fun k hk => by injection hk with hk; omega)⟩
    · rw [decide_eq_false a1] at HS1
      clear a a1
      go_enter Tryd.func68, Tryd.ntmps68
      go_wp2_with fail
      obtain ⟨n1, n2, n3, hsz, hw0⟩ := three_new w (.cells #[.int .i64 s1, .bool neg1, .slice A1 l1.length c1] 46) (.cells #[.int .i64 s2, .bool neg2, .slice A2 l2.length c2] 46) (.cells #[.int .i64 0, .bool false, .slice none 0 0] 46)
      generalize (((w.alloc (.cells #[.int .i64 s1, .bool neg1, .slice A1 l1.length c1] 46)).alloc (.cells #[.int .i64 s2, .bool neg2, .slice A2 l2.length c2] 46)).alloc (.cells #[.int .i64 0, .bool false, .slice none 0 0] 46)) = W0 at *
      have k1 := cells_of n1 0
      have k2 := cells_of n1 1
      have k3 := cells_of n1 2
      simp only [Array.getElem?_eq_getElem, three0, three1, three2] at k1 k2 k3
      have k4 := cells_of n2 0
      have k5 := cells_of n2 1
      have k6 := cells_of n2 2
      simp only [Array.getElem?_eq_getElem, three0, three1, three2] at k4 k5 k6
      have q0 : w.heap.size < W0.heap.size := by omega
      have q1 : w.heap.size + 1 < W0.heap.size := by omega
      have q2 : w.heap.size + 1 + 1 < W0.heap.size := by omega
      have k7 := cells_of n3 0
      have k8 := cells_of n3 1
      have k9 := cells_of n3 2
      simp only [Array.getElem?_eq_getElem, three0, three1, three2] at k7 k8 k9
      have f7 := unfrozen_of n3 0
      have f8 := unfrozen_of n3 1
      have f9 := unfrozen_of n3 2
      have N3 := Lib.hid n3
      clear n3
      clear n1 n2
      refine ((unhide HS1) _).mono ?_
      rintro e w1 ⟨rfl, hw1⟩
      have hbw1 := below_eq (w := W0) (by (first | assumption | (repeat (first | exact Below.refl _ _ | assumption | refine Below.drew ?_ | (refine Below.alloc ?_ (by simp <;> omega) _))))) hw1
      obtain ⟨hc, hfz⟩ := bcell hbw1
      clear hw1
      go_wp2_with fail
      have B1 := (unhide HB1) W0 hw0; have B2 := (unhide HB2) W0 hw0; have G1 := (unhide HG1) W0 hw0; have G2 := (unhide HG2) W0 hw0
      go_region_held3 (fun w' => w'.cell? ⟨w.heap.size, 0, none⟩ = some (.int .i64 s1) ∧ w'.cell? ⟨w.heap.size, 1, none⟩ = some (.bool neg1) ∧ w'.cell? ⟨w.heap.size, 2, none⟩ = some (.slice A1 l1.length c1) ∧ w'.cell? ⟨w.heap.size + 1, 0, none⟩ = some (.int .i64 s2) ∧ w'.cell? ⟨w.heap.size + 1, 1, none⟩ = some (.bool neg2) ∧ w'.cell? ⟨w.heap.size + 1, 2, none⟩ = some (.slice A2 l2.length c2)) ((first | with_reducible exact ⟨(hc _ _ q0).trans k1, (hc _ _ q0).trans k2, (hc _ _ q0).trans k3, (hc _ _ q1).trans k4, (hc _ _ q1).trans k5, (hc _ _ q1).trans k6⟩ | with_reducible exact ⟨k1, k2, k3, k4, k5, k6⟩ | with_reducible exact ⟨(cell_set3 _ _ _ _ _ (by omega)).trans ((hc _ _ q0).trans k1), (cell_set3 _ _ _ _ _ (by omega)).trans ((hc _ _ q0).trans k2), (cell_set3 _ _ _ _ _ (by omega)).trans ((hc _ _ q0).trans k3), (cell_set3 _ _ _ _ _ (by omega)).trans ((hc _ _ q1).trans k4), (cell_set3 _ _ _ _ _ (by omega)).trans ((hc _ _ q1).trans k5), (cell_set3 _ _ _ _ _ (by omega)).trans ((hc _ _ q1).trans k6)⟩ | exact ⟨(hc _ _ q0).trans k1, (hc _ _ q0).trans k2, (hc _ _ q0).trans k3, (hc _ _ q1).trans k4, (hc _ _ q1).trans k5, (hc _ _ q1).trans k6⟩ | exact ⟨k1, k2, k3, k4, k5, k6⟩)) (first | (go_at_call_of 77 (Value.agg #[.int .i64 s1, .bool neg1, .slice A1 l1.length c1]); refine ((unhide B1) _ (by (first | assumption | (repeat (first | exact Below.refl _ _ | assumption | refine Below.drew ?_ | (refine Below.alloc ?_ (by simp <;> omega) _)))))).mono ?_; rintro e w' ⟨A5, cap5, l5, rfl, hn5, hb⟩; have hbw := below_step (w := W0) (by (first | assumption | (repeat (first | exact Below.refl _ _ | assumption | refine Below.drew ?_ | (refine Below.alloc ?_ (by simp <;> omega) _))))) hb; obtain ⟨hc, hfz⟩ := bcell hbw) | (go_at_call_of 77 (Value.agg #[.int .i64 s2, .bool neg2, .slice A2 l2.length c2]); refine ((unhide B2) _ (by (first | assumption | (repeat (first | exact Below.refl _ _ | assumption | refine Below.drew ?_ | (refine Below.alloc ?_ (by simp <;> omega) _)))))).mono ?_; rintro e w' ⟨A6, cap6, l6, rfl, hn6, hb⟩; have hn5' := hn5.below hb; have hbw := below_step (w := W0) (by (first | assumption | (repeat (first | exact Below.refl _ _ | assumption | refine Below.drew ?_ | (refine Below.alloc ?_ (by simp <;> omega) _))))) hb; obtain ⟨hc, hfz⟩ := bcell hbw))
      go_wp2_with fail
      refine ((unhide G1) _ (by (first | assumption | (repeat (first | exact Below.refl _ _ | assumption | refine Below.drew ?_ | (refine Below.alloc ?_ (by simp <;> omega) _)))))).mono ?_
      rintro e w6 ⟨rfl, hb⟩
      replace hn5' := hn5'.below hb
      replace hn6 := hn6.below hb
      have hbw := below_step (w := W0) (by (first | assumption | (repeat (first | exact Below.refl _ _ | assumption | refine Below.drew ?_ | (refine Below.alloc ?_ (by simp <;> omega) _))))) hb
      obtain ⟨hc, hfz⟩ := bcell hbw
      go_wp2_with fail
      refine ((unhide G2) _ (by (first | assumption | (repeat (first | exact Below.refl _ _ | assumption | refine Below.drew ?_ | (refine Below.alloc ?_ (by simp <;> omega) _)))))).mono ?_
      rintro e w7 ⟨rfl, hb⟩
      replace hn5' := hn5'.below hb
      replace hn6 := hn6.below hb
      have hbw := below_step (w := W0) (by (first | assumption | (repeat (first | exact Below.refl _ _ | assumption | refine Below.drew ?_ | (refine Below.alloc ?_ (by simp <;> omega) _))))) hb
      obtain ⟨hc, hfz⟩ := bcell hbw
      go_wp2_with fail
      refine (add_any A5 A6 cap5 cap6 l5 l6 m1 m2 _ (by exact hn5') (by exact hn6) ((unhide HLEN) _ _ _ _ () hn5').1 ((unhide HLEN2) _ _ _ _ () hn6).1).mono ?_
      rintro e w8 ⟨A7, cap7, l7, rfl, hn7, hb⟩
      have hbw := below_step (w := W0) (by (first | assumption | (repeat (first | exact Below.refl _ _ | assumption | refine Below.drew ?_ | (refine Below.alloc ?_ (by simp <;> omega) _))))) hb
      obtain ⟨hc, hfz⟩ := bcell hbw
      go_wp2_with fail
      refine ((unhide HSG) _ A7 cap7 l7 hn7).mono ?_
      rintro e w' ⟨s, neg', A', cap', l', rfl, hf, hb⟩
      have hbw := below_step (w := W0) (by (first | assumption | (repeat (first | exact Below.refl _ _ | assumption | refine Below.drew ?_ | (refine Below.alloc ?_ (by simp <;> omega) _))))) hb
      obtain ⟨hc, hfz⟩ := bcell hbw
      have hblk : w'.heap[w.heap.size + 1 + 1]? = some (.cells #[.int .i64 0, .bool false, .slice none 0 0] 46 (0, 0)) := (hbw.block _ q2).trans N3.out
      have HBLK := Lib.hid hblk
      have hb9 : Below w.heap.size w w' := below_step' hw0 hbw
      clear hblk
      go_wp2_with fail
      exact bodyPost_ret (v := .agg #[.int .i64 s, .bool neg', .slice A' l'.length cap']) (by simp [results, Tryd.results68, go_sem, hc, k7, k8, k9, q2]) rfl
        ⟨s, neg', A', cap', l', rfl, hf.upto HBLK.out (noWord3 _ _ _ _ _) (set3_grown _ _ _ _ _), hb9.grown (set3_grown _ _ _ _ _) hb9.size (fun k hk => by injection hk with hk; omega)⟩
  · have EQ : (n1 == n2) = false := beq_eq_false_iff_ne.2 he
    by_cases hlt : m1 < m2
    · have d9 : decide (od < 0) = true := decide_eq_true (by rw [hod]; unfold ord3; rw [if_pos hlt]; omega)
      have HLE := hide (Nat.le_of_lt hlt)
      have HSG := hide (fun (W : World) (A : Option Addr) (c : Nat) (l : List Nat) (g : NatV W A c l (m2 - m1)) => (show Calls Tryd.prog 76 #[.bool (!n1), .slice A l.length c] W fun e w' => IntR W Z e w' by
        have := signed_any (!n1) A c l (m2 - m1) W g
        rw [show (if (!n1) = true then -(((m2 - m1) : Nat) : Int) else (((m2 - m1) : Nat) : Int)) = Z by cases n1 <;> cases n2 <;> simp at he q1 q2 ⊢ <;> omega] at this
        exact this))
      clear hod he q1 q2 hZ hm1 hm2 hlt
      rcases hcase with ⟨a1, a2⟩ | a1
      · rw [decide_eq_true a1] at HS1
        rw [decide_eq_false a2] at HS2
        clear a a1 a2
        go_enter Tryd.func68, Tryd.ntmps68
        go_wp2_with fail
        obtain ⟨n1, n2, n3, hsz, hw0⟩ := three_new w (.cells #[.int .i64 s1, .bool neg1, .slice A1 l1.length c1] 46) (.cells #[.int .i64 s2, .bool neg2, .slice A2 l2.length c2] 46) (.cells #[.int .i64 0, .bool false, .slice none 0 0] 46)
        generalize (((w.alloc (.cells #[.int .i64 s1, .bool neg1, .slice A1 l1.length c1] 46)).alloc (.cells #[.int .i64 s2, .bool neg2, .slice A2 l2.length c2] 46)).alloc (.cells #[.int .i64 0, .bool false, .slice none 0 0] 46)) = W0 at *
        have k1 := cells_of n1 0
        have k2 := cells_of n1 1
        have k3 := cells_of n1 2
        simp only [Array.getElem?_eq_getElem, three0, three1, three2] at k1 k2 k3
        have k4 := cells_of n2 0
        have k5 := cells_of n2 1
        have k6 := cells_of n2 2
        simp only [Array.getElem?_eq_getElem, three0, three1, three2] at k4 k5 k6
        have q0 : w.heap.size < W0.heap.size := by omega
        have q1 : w.heap.size + 1 < W0.heap.size := by omega
        have q2 : w.heap.size + 1 + 1 < W0.heap.size := by omega
        have k7 := cells_of n3 0
        have k8 := cells_of n3 1
        have k9 := cells_of n3 2
        simp only [Array.getElem?_eq_getElem, three0, three1, three2] at k7 k8 k9
        have f7 := unfrozen_of n3 0
        have f8 := unfrozen_of n3 1
        have f9 := unfrozen_of n3 2
        have N3 := Lib.hid n3
        clear n3
        clear n1 n2
        refine ((unhide HS1) _).mono ?_
        rintro e w1 ⟨rfl, hw1⟩
        have hbw1 := below_eq (w := W0) (by (first | assumption | (repeat (first | exact Below.refl _ _ | assumption | refine Below.drew ?_ | (refine Below.alloc ?_ (by simp <;> omega) _))))) hw1
        obtain ⟨hc, hfz⟩ := bcell hbw1
        clear hw1
        go_wp2_with fail
        refine ((unhide HS2) _).mono ?_
        rintro e w2 ⟨rfl, hw2⟩
        have hbw2 := below_eq (w := W0) (by (first | assumption | (repeat (first | exact Below.refl _ _ | assumption | refine Below.drew ?_ | (refine Below.alloc ?_ (by simp <;> omega) _))))) hw2
        obtain ⟨hc, hfz⟩ := bcell hbw2
        clear hw2
        go_wp2_with fail
        have B1 := (unhide HB1) W0 hw0; have B2 := (unhide HB2) W0 hw0; have G1 := (unhide HG1) W0 hw0; have G2 := (unhide HG2) W0 hw0
        go_region_held3 (fun w' => w'.cell? ⟨w.heap.size, 0, none⟩ = some (.int .i64 s1) ∧ w'.cell? ⟨w.heap.size, 1, none⟩ = some (.bool neg1) ∧ w'.cell? ⟨w.heap.size, 2, none⟩ = some (.slice A1 l1.length c1) ∧ w'.cell? ⟨w.heap.size + 1, 0, none⟩ = some (.int .i64 s2) ∧ w'.cell? ⟨w.heap.size + 1, 1, none⟩ = some (.bool neg2) ∧ w'.cell? ⟨w.heap.size + 1, 2, none⟩ = some (.slice A2 l2.length c2)) ((first | with_reducible exact ⟨(hc _ _ q0).trans k1, (hc _ _ q0).trans k2, (hc _ _ q0).trans k3, (hc _ _ q1).trans k4, (hc _ _ q1).trans k5, (hc _ _ q1).trans k6⟩ | with_reducible exact ⟨k1, k2, k3, k4, k5, k6⟩ | with_reducible exact ⟨(cell_set3 _ _ _ _ _ (by omega)).trans ((hc _ _ q0).trans k1), (cell_set3 _ _ _ _ _ (by omega)).trans ((hc _ _ q0).trans k2), (cell_set3 _ _ _ _ _ (by omega)).trans ((hc _ _ q0).trans k3), (cell_set3 _ _ _ _ _ (by omega)).trans ((hc _ _ q1).trans k4), (cell_set3 _ _ _ _ _ (by omega)).trans ((hc _ _ q1).trans k5), (cell_set3 _ _ _ _ _ (by omega)).trans ((hc _ _ q1).trans k6)⟩ | exact ⟨(hc _ _ q0).trans k1, (hc _ _ q0).trans k2, (hc _ _ q0).trans k3, (hc _ _ q1).trans k4, (hc _ _ q1).trans k5, (hc _ _ q1).trans k6⟩ | exact ⟨k1, k2, k3, k4, k5, k6⟩)) (first | (go_at_call_of 77 (Value.agg #[.int .i64 s1, .bool neg1, .slice A1 l1.length c1]); refine ((unhide B1) _ (by (first | assumption | (repeat (first | exact Below.refl _ _ | assumption | refine Below.drew ?_ | (refine Below.alloc ?_ (by simp <;> omega) _)))))).mono ?_; rintro e w' ⟨A5, cap5, l5, rfl, hn5, hb⟩; have hbw := below_step (w := W0) (by (first | assumption | (repeat (first | exact Below.refl _ _ | assumption | refine Below.drew ?_ | (refine Below.alloc ?_ (by simp <;> omega) _))))) hb; obtain ⟨hc, hfz⟩ := bcell hbw) | (go_at_call_of 77 (Value.agg #[.int .i64 s2, .bool neg2, .slice A2 l2.length c2]); refine ((unhide B2) _ (by (first | assumption | (repeat (first | exact Below.refl _ _ | assumption | refine Below.drew ?_ | (refine Below.alloc ?_ (by simp <;> omega) _)))))).mono ?_; rintro e w' ⟨A6, cap6, l6, rfl, hn6, hb⟩; have hn5' := hn5.below hb; have hbw := below_step (w := W0) (by (first | assumption | (repeat (first | exact Below.refl _ _ | assumption | refine Below.drew ?_ | (refine Below.alloc ?_ (by simp <;> omega) _))))) hb; obtain ⟨hc, hfz⟩ := bcell hbw))
        go_wp2_with fail
        refine ((unhide G1) _ (by (first | assumption | (repeat (first | exact Below.refl _ _ | assumption | refine Below.drew ?_ | (refine Below.alloc ?_ (by simp <;> omega) _)))))).mono ?_
        rintro e w6 ⟨rfl, hb⟩
        replace hn5' := hn5'.below hb
        replace hn6 := hn6.below hb
        have hbw := below_step (w := W0) (by (first | assumption | (repeat (first | exact Below.refl _ _ | assumption | refine Below.drew ?_ | (refine Below.alloc ?_ (by simp <;> omega) _))))) hb
        obtain ⟨hc, hfz⟩ := bcell hbw
        go_wp2_with fail
        refine ((unhide G2) _ (by (first | assumption | (repeat (first | exact Below.refl _ _ | assumption | refine Below.drew ?_ | (refine Below.alloc ?_ (by simp <;> omega) _)))))).mono ?_
        rintro e w7 ⟨rfl, hb⟩
        replace hn5' := hn5'.below hb
        replace hn6 := hn6.below hb
        have hbw := below_step (w := W0) (by (first | assumption | (repeat (first | exact Below.refl _ _ | assumption | refine Below.drew ?_ | (refine Below.alloc ?_ (by simp <;> omega) _))))) hb
        obtain ⟨hc, hfz⟩ := bcell hbw
        go_wp2_with fail
        refine (cmp_any A5 A6 cap5 cap6 l5 l6 m1 m2 _ (by exact hn5') (by exact hn6)).mono ?_
        rintro e w8 ⟨rfl, kd, hw8⟩
        subst hw8
        rw [← HOD.out]
        replace hn5' := hn5'.below (belowN (Below.refl _ _) kd)
        replace hn6 := hn6.below (belowN (Below.refl _ _) kd)
        have hbw := belowN hbw kd
        obtain ⟨hc, hfz⟩ := bcell hbw
        go_wp2_with fail
        refine (sub_any A6 A5 cap6 cap5 l6 l5 m2 m1 _ (by exact hn6) (by exact hn5') ((unhide HLE)) (Nat.le_trans (Nat.le_succ _) ((unhide HLEN2) _ _ _ _ () hn6).2)).mono ?_
        rintro e w9 ⟨A7, cap7, l7, rfl, hn7, hb⟩
        have hbw := below_step (w := W0) (by (first | assumption | (repeat (first | exact Below.refl _ _ | assumption | refine Below.drew ?_ | (refine Below.alloc ?_ (by simp <;> omega) _))))) hb
        obtain ⟨hc, hfz⟩ := bcell hbw
        go_wp2_with fail
        refine ((unhide HSG) _ A7 cap7 l7 hn7).mono ?_
        rintro e w' ⟨s, neg', A', cap', l', rfl, hf, hb⟩
        have hbw := below_step (w := W0) (by (first | assumption | (repeat (first | exact Below.refl _ _ | assumption | refine Below.drew ?_ | (refine Below.alloc ?_ (by simp <;> omega) _))))) hb
        obtain ⟨hc, hfz⟩ := bcell hbw
        have hblk : w'.heap[w.heap.size + 1 + 1]? = some (.cells #[.int .i64 0, .bool false, .slice none 0 0] 46 (0, 0)) := (hbw.block _ q2).trans N3.out
        have HBLK := Lib.hid hblk
        have hb9 : Below w.heap.size w w' := below_step' hw0 hbw
        clear hblk
        go_wp2_with fail
        exact bodyPost_ret (v := .agg #[.int .i64 s, .bool neg', .slice A' l'.length cap']) (by simp [results, Tryd.results68, go_sem, hc, k7, k8, k9, q2]) rfl
          ⟨s, neg', A', cap', l', rfl, hf.upto HBLK.out (noWord3 _ _ _ _ _) (set3_grown _ _ _ _ _), hb9.grown (set3_grown _ _ _ _ _) hb9.size (fun k hk => by injection hk with hk; omega)⟩
      · rw [decide_eq_false a1] at HS1
        clear a a1
        go_enter Tryd.func68, Tryd.ntmps68
        go_wp2_with fail
        obtain ⟨n1, n2, n3, hsz, hw0⟩ := three_new w (.cells #[.int .i64 s1, .bool neg1, .slice A1 l1.length c1] 46) (.cells #[.int .i64 s2, .bool neg2, .slice A2 l2.length c2] 46) (.cells #[.int .i64 0, .bool false, .slice none 0 0] 46)
        generalize (((w.alloc (.cells #[.int .i64 s1, .bool neg1, .slice A1 l1.length c1] 46)).alloc (.cells #[.int .i64 s2, .bool neg2, .slice A2 l2.length c2] 46)).alloc (.cells #[.int .i64 0, .bool false, .slice none 0 0] 46)) = W0 at *
        have k1 := cells_of n1 0
        have k2 := cells_of n1 1
        have k3 := cells_of n1 2
        simp only [Array.getElem?_eq_getElem, three0, three1, three2] at k1 k2 k3
        have k4 := cells_of n2 0
        have k5 := cells_of n2 1
        have k6 := cells_of n2 2
        simp only [Array.getElem?_eq_getElem, three0, three1, three2] at k4 k5 k6
        have q0 : w.heap.size < W0.heap.size := by omega
        have q1 : w.heap.size + 1 < W0.heap.size := by omega
        have q2 : w.heap.size + 1 + 1 < W0.heap.size := by omega
        have k7 := cells_of n3 0
        have k8 := cells_of n3 1
        have k9 := cells_of n3 2
        simp only [Array.getElem?_eq_getElem, three0, three1, three2] at k7 k8 k9
        have f7 := unfrozen_of n3 0
        have f8 := unfrozen_of n3 1
        have f9 := unfrozen_of n3 2
        have N3 := Lib.hid n3
        clear n3
        clear n1 n2
        refine ((unhide HS1) _).mono ?_
        rintro e w1 ⟨rfl, hw1⟩
        have hbw1 := below_eq (w := W0) (by (first | assumption | (repeat (first | exact Below.refl _ _ | assumption | refine Below.drew ?_ | (refine Below.alloc ?_ (by simp <;> omega) _))))) hw1
        obtain ⟨hc, hfz⟩ := bcell hbw1
        clear hw1
        go_wp2_with fail
        have B1 := (unhide HB1) W0 hw0; have B2 := (unhide HB2) W0 hw0; have G1 := (unhide HG1) W0 hw0; have G2 := (unhide HG2) W0 hw0
        go_region_held3 (fun w' => w'.cell? ⟨w.heap.size, 0, none⟩ = some (.int .i64 s1) ∧ w'.cell? ⟨w.heap.size, 1, none⟩ = some (.bool neg1) ∧ w'.cell? ⟨w.heap.size, 2, none⟩ = some (.slice A1 l1.length c1) ∧ w'.cell? ⟨w.heap.size + 1, 0, none⟩ = some (.int .i64 s2) ∧ w'.cell? ⟨w.heap.size + 1, 1, none⟩ = some (.bool neg2) ∧ w'.cell? ⟨w.heap.size + 1, 2, none⟩ = some (.slice A2 l2.length c2)) ((first | with_reducible exact ⟨(hc _ _ q0).trans k1, (hc _ _ q0).trans k2, (hc _ _ q0).trans k3, (hc _ _ q1).trans k4, (hc _ _ q1).trans k5, (hc _ _ q1).trans k6⟩ | with_reducible exact ⟨k1, k2, k3, k4, k5, k6⟩ | with_reducible exact ⟨(cell_set3 _ _ _ _ _ (by omega)).trans ((hc _ _ q0).trans k1), (cell_set3 _ _ _ _ _ (by omega)).trans ((hc _ _ q0).trans k2), (cell_set3 _ _ _ _ _ (by omega)).trans ((hc _ _ q0).trans k3), (cell_set3 _ _ _ _ _ (by omega)).trans ((hc _ _ q1).trans k4), (cell_set3 _ _ _ _ _ (by omega)).trans ((hc _ _ q1).trans k5), (cell_set3 _ _ _ _ _ (by omega)).trans ((hc _ _ q1).trans k6)⟩ | exact ⟨(hc _ _ q0).trans k1, (hc _ _ q0).trans k2, (hc _ _ q0).trans k3, (hc _ _ q1).trans k4, (hc _ _ q1).trans k5, (hc _ _ q1).trans k6⟩ | exact ⟨k1, k2, k3, k4, k5, k6⟩)) (first | (go_at_call_of 77 (Value.agg #[.int .i64 s1, .bool neg1, .slice A1 l1.length c1]); refine ((unhide B1) _ (by (first | assumption | (repeat (first | exact Below.refl _ _ | assumption | refine Below.drew ?_ | (refine Below.alloc ?_ (by simp <;> omega) _)))))).mono ?_; rintro e w' ⟨A5, cap5, l5, rfl, hn5, hb⟩; have hbw := below_step (w := W0) (by (first | assumption | (repeat (first | exact Below.refl _ _ | assumption | refine Below.drew ?_ | (refine Below.alloc ?_ (by simp <;> omega) _))))) hb; obtain ⟨hc, hfz⟩ := bcell hbw) | (go_at_call_of 77 (Value.agg #[.int .i64 s2, .bool neg2, .slice A2 l2.length c2]); refine ((unhide B2) _ (by (first | assumption | (repeat (first | exact Below.refl _ _ | assumption | refine Below.drew ?_ | (refine Below.alloc ?_ (by simp <;> omega) _)))))).mono ?_; rintro e w' ⟨A6, cap6, l6, rfl, hn6, hb⟩; have hn5' := hn5.below hb; have hbw := below_step (w := W0) (by (first | assumption | (repeat (first | exact Below.refl _ _ | assumption | refine Below.drew ?_ | (refine Below.alloc ?_ (by simp <;> omega) _))))) hb; obtain ⟨hc, hfz⟩ := bcell hbw))
        go_wp2_with fail
        refine ((unhide G1) _ (by (first | assumption | (repeat (first | exact Below.refl _ _ | assumption | refine Below.drew ?_ | (refine Below.alloc ?_ (by simp <;> omega) _)))))).mono ?_
        rintro e w6 ⟨rfl, hb⟩
        replace hn5' := hn5'.below hb
        replace hn6 := hn6.below hb
        have hbw := below_step (w := W0) (by (first | assumption | (repeat (first | exact Below.refl _ _ | assumption | refine Below.drew ?_ | (refine Below.alloc ?_ (by simp <;> omega) _))))) hb
        obtain ⟨hc, hfz⟩ := bcell hbw
        go_wp2_with fail
        refine ((unhide G2) _ (by (first | assumption | (repeat (first | exact Below.refl _ _ | assumption | refine Below.drew ?_ | (refine Below.alloc ?_ (by simp <;> omega) _)))))).mono ?_
        rintro e w7 ⟨rfl, hb⟩
        replace hn5' := hn5'.below hb
        replace hn6 := hn6.below hb
        have hbw := below_step (w := W0) (by (first | assumption | (repeat (first | exact Below.refl _ _ | assumption | refine Below.drew ?_ | (refine Below.alloc ?_ (by simp <;> omega) _))))) hb
        obtain ⟨hc, hfz⟩ := bcell hbw
        go_wp2_with fail
        refine (cmp_any A5 A6 cap5 cap6 l5 l6 m1 m2 _ (by exact hn5') (by exact hn6)).mono ?_
        rintro e w8 ⟨rfl, kd, hw8⟩
        subst hw8
        rw [← HOD.out]
        replace hn5' := hn5'.below (belowN (Below.refl _ _) kd)
        replace hn6 := hn6.below (belowN (Below.refl _ _) kd)
        have hbw := belowN hbw kd
        obtain ⟨hc, hfz⟩ := bcell hbw
        go_wp2_with fail
        refine (sub_any A6 A5 cap6 cap5 l6 l5 m2 m1 _ (by exact hn6) (by exact hn5') ((unhide HLE)) (Nat.le_trans (Nat.le_succ _) ((unhide HLEN2) _ _ _ _ () hn6).2)).mono ?_
        rintro e w9 ⟨A7, cap7, l7, rfl, hn7, hb⟩
        have hbw := below_step (w := W0) (by (first | assumption | (repeat (first | exact Below.refl _ _ | assumption | refine Below.drew ?_ | (refine Below.alloc ?_ (by simp <;> omega) _))))) hb
        obtain ⟨hc, hfz⟩ := bcell hbw
        go_wp2_with fail
        refine ((unhide HSG) _ A7 cap7 l7 hn7).mono ?_
        rintro e w' ⟨s, neg', A', cap', l', rfl, hf, hb⟩
        have hbw := below_step (w := W0) (by (first | assumption | (repeat (first | exact Below.refl _ _ | assumption | refine Below.drew ?_ | (refine Below.alloc ?_ (by simp <;> omega) _))))) hb
        obtain ⟨hc, hfz⟩ := bcell hbw
        have hblk : w'.heap[w.heap.size + 1 + 1]? = some (.cells #[.int .i64 0, .bool false, .slice none 0 0] 46 (0, 0)) := (hbw.block _ q2).trans N3.out
        have HBLK := Lib.hid hblk
        have hb9 : Below w.heap.size w w' := below_step' hw0 hbw
        clear hblk
        go_wp2_with fail
        exact bodyPost_ret (v := .agg #[.int .i64 s, .bool neg', .slice A' l'.length cap']) (by simp [results, Tryd.results68, go_sem, hc, k7, k8, k9, q2]) rfl
          ⟨s, neg', A', cap', l', rfl, hf.upto HBLK.out (noWord3 _ _ _ _ _) (set3_grown _ _ _ _ _), hb9.grown (set3_grown _ _ _ _ _) hb9.size (fun k hk => by injection hk with hk; omega)⟩
    · have d9 : decide (od < 0) = false := decide_eq_false (by rw [hod]; unfold ord3; rw [if_neg hlt]; split <;> omega)
      have HLE := hide (Nat.le_of_not_lt hlt)
      have HSG := hide (fun (W : World) (A : Option Addr) (c : Nat) (l : List Nat) (g : NatV W A c l (m1 - m2)) => (show Calls Tryd.prog 76 #[.bool (n1), .slice A l.length c] W fun e w' => IntR W Z e w' by
        have := signed_any (n1) A c l (m1 - m2) W g
        rw [show (if (n1) = true then -(((m1 - m2) : Nat) : Int) else (((m1 - m2) : Nat) : Int)) = Z by cases n1 <;> cases n2 <;> simp at he q1 q2 ⊢ <;> omega] at this
        exact this))
      clear hod he q1 q2 hZ hm1 hm2 hlt
      rcases hcase with ⟨a1, a2⟩ | a1
      · rw [decide_eq_true a1] at HS1
        rw [decide_eq_false a2] at HS2
        clear a a1 a2
        go_enter Tryd.func68, Tryd.ntmps68
        go_wp2_with fail
        obtain ⟨n1, n2, n3, hsz, hw0⟩ := three_new w (.cells #[.int .i64 s1, .bool neg1, .slice A1 l1.length c1] 46) (.cells #[.int .i64 s2, .bool neg2, .slice A2 l2.length c2] 46) (.cells #[.int .i64 0, .bool false, .slice none 0 0] 46)
        generalize (((w.alloc (.cells #[.int .i64 s1, .bool neg1, .slice A1 l1.length c1] 46)).alloc (.cells #[.int .i64 s2, .bool neg2, .slice A2 l2.length c2] 46)).alloc (.cells #[.int .i64 0, .bool false, .slice none 0 0] 46)) = W0 at *
        have k1 := cells_of n1 0
        have k2 := cells_of n1 1
        have k3 := cells_of n1 2
        simp only [Array.getElem?_eq_getElem, three0, three1, three2] at k1 k2 k3
        have k4 := cells_of n2 0
        have k5 := cells_of n2 1
        have k6 := cells_of n2 2
        simp only [Array.getElem?_eq_getElem, three0, three1, three2] at k4 k5 k6
        have q0 : w.heap.size < W0.heap.size := by omega
        have q1 : w.heap.size + 1 < W0.heap.size := by omega
        have q2 : w.heap.size + 1 + 1 < W0.heap.size := by omega
        have k7 := cells_of n3 0
        have k8 := cells_of n3 1
        have k9 := cells_of n3 2
        simp only [Array.getElem?_eq_getElem, three0, three1, three2] at k7 k8 k9
        have f7 := unfrozen_of n3 0
        have f8 := unfrozen_of n3 1
        have f9 := unfrozen_of n3 2
        have N3 := Lib.hid n3
        clear n3
        clear n1 n2
        refine ((unhide HS1) _).mono ?_
        rintro e w1 ⟨rfl, hw1⟩
        have hbw1 := below_eq (w := W0) (by (first | assumption | (repeat (first | exact Below.refl _ _ | assumption | refine Below.drew ?_ | (refine Below.alloc ?_ (by simp <;> omega) _))))) hw1
        obtain ⟨hc, hfz⟩ := bcell hbw1
        clear hw1
        go_wp2_with fail
        refine ((unhide HS2) _).mono ?_
        rintro e w2 ⟨rfl, hw2⟩
        have hbw2 := below_eq (w := W0) (by (first | assumption | (repeat (first | exact Below.refl _ _ | assumption | refine Below.drew ?_ | (refine Below.alloc ?_ (by simp <;> omega) _))))) hw2
        obtain ⟨hc, hfz⟩ := bcell hbw2
        clear hw2
        go_wp2_with fail
        have B1 := (unhide HB1) W0 hw0; have B2 := (unhide HB2) W0 hw0; have G1 := (unhide HG1) W0 hw0; have G2 := (unhide HG2) W0 hw0
        go_region_held3 (fun w' => w'.cell? ⟨w.heap.size, 0, none⟩ = some (.int .i64 s1) ∧ w'.cell? ⟨w.heap.size, 1, none⟩ = some (.bool neg1) ∧ w'.cell? ⟨w.heap.size, 2, none⟩ = some (.slice A1 l1.length c1) ∧ w'.cell? ⟨w.heap.size + 1, 0, none⟩ = some (.int .i64 s2) ∧ w'.cell? ⟨w.heap.size + 1, 1, none⟩ = some (.bool neg2) ∧ w'.cell? ⟨w.heap.size + 1, 2, none⟩ = some (.slice A2 l2.length c2)) ((first | with_reducible exact ⟨(hc _ _ q0).trans k1, (hc _ _ q0).trans k2, (hc _ _ q0).trans k3, (hc _ _ q1).trans k4, (hc _ _ q1).trans k5, (hc _ _ q1).trans k6⟩ | with_reducible exact ⟨k1, k2, k3, k4, k5, k6⟩ | with_reducible exact ⟨(cell_set3 _ _ _ _ _ (by omega)).trans ((hc _ _ q0).trans k1), (cell_set3 _ _ _ _ _ (by omega)).trans ((hc _ _ q0).trans k2), (cell_set3 _ _ _ _ _ (by omega)).trans ((hc _ _ q0).trans k3), (cell_set3 _ _ _ _ _ (by omega)).trans ((hc _ _ q1).trans k4), (cell_set3 _ _ _ _ _ (by omega)).trans ((hc _ _ q1).trans k5), (cell_set3 _ _ _ _ _ (by omega)).trans ((hc _ _ q1).trans k6)⟩ | exact ⟨(hc _ _ q0).trans k1, (hc _ _ q0).trans k2, (hc _ _ q0).trans k3, (hc _ _ q1).trans k4, (hc _ _ q1).trans k5, (hc _ _ q1).trans k6⟩ | exact ⟨k1, k2, k3, k4, k5, k6⟩)) (first | (go_at_call_of 77 (Value.agg #[.int .i64 s1, .bool neg1, .slice A1 l1.length c1]); refine ((unhide B1) _ (by (first | assumption | (repeat (first | exact Below.refl _ _ | assumption | refine Below.drew ?_ | (refine Below.alloc ?_ (by simp <;> omega) _)))))).mono ?_; rintro e w' ⟨A5, cap5, l5, rfl, hn5, hb⟩; have hbw := below_step (w := W0) (by (first | assumption | (repeat (first | exact Below.refl _ _ | assumption | refine Below.drew ?_ | (refine Below.alloc ?_ (by simp <;> omega) _))))) hb; obtain ⟨hc, hfz⟩ := bcell hbw) | (go_at_call_of 77 (Value.agg #[.int .i64 s2, .bool neg2, .slice A2 l2.length c2]); refine ((unhide B2) _ (by (first | assumption | (repeat (first | exact Below.refl _ _ | assumption | refine Below.drew ?_ | (refine Below.alloc ?_ (by simp <;> omega) _)))))).mono ?_; rintro e w' ⟨A6, cap6, l6, rfl, hn6, hb⟩; have hn5' := hn5.below hb; have hbw := below_step (w := W0) (by (first | assumption | (repeat (first | exact Below.refl _ _ | assumption | refine Below.drew ?_ | (refine Below.alloc ?_ (by simp <;> omega) _))))) hb; obtain ⟨hc, hfz⟩ := bcell hbw))
        go_wp2_with fail
        refine ((unhide G1) _ (by (first | assumption | (repeat (first | exact Below.refl _ _ | assumption | refine Below.drew ?_ | (refine Below.alloc ?_ (by simp <;> omega) _)))))).mono ?_
        rintro e w6 ⟨rfl, hb⟩
        replace hn5' := hn5'.below hb
        replace hn6 := hn6.below hb
        have hbw := below_step (w := W0) (by (first | assumption | (repeat (first | exact Below.refl _ _ | assumption | refine Below.drew ?_ | (refine Below.alloc ?_ (by simp <;> omega) _))))) hb
        obtain ⟨hc, hfz⟩ := bcell hbw
        go_wp2_with fail
        refine ((unhide G2) _ (by (first | assumption | (repeat (first | exact Below.refl _ _ | assumption | refine Below.drew ?_ | (refine Below.alloc ?_ (by simp <;> omega) _)))))).mono ?_
        rintro e w7 ⟨rfl, hb⟩
        replace hn5' := hn5'.below hb
        replace hn6 := hn6.below hb
        have hbw := below_step (w := W0) (by (first | assumption | (repeat (first | exact Below.refl _ _ | assumption | refine Below.drew ?_ | (refine Below.alloc ?_ (by simp <;> omega) _))))) hb
        obtain ⟨hc, hfz⟩ := bcell hbw
        go_wp2_with fail
        refine (cmp_any A5 A6 cap5 cap6 l5 l6 m1 m2 _ (by exact hn5') (by exact hn6)).mono ?_
        rintro e w8 ⟨rfl, kd, hw8⟩
        subst hw8
        rw [← HOD.out]
        replace hn5' := hn5'.below (belowN (Below.refl _ _) kd)
        replace hn6 := hn6.below (belowN (Below.refl _ _) kd)
        have hbw := belowN hbw kd
        obtain ⟨hc, hfz⟩ := bcell hbw
        go_wp2_with fail
        refine (sub_any A5 A6 cap5 cap6 l5 l6 m1 m2 _ (by exact hn5') (by exact hn6) ((unhide HLE)) (Nat.le_trans (Nat.le_succ _) ((unhide HLEN) _ _ _ _ () hn5').2)).mono ?_
        rintro e w9 ⟨A7, cap7, l7, rfl, hn7, hb⟩
        have hbw := below_step (w := W0) (by (first | assumption | (repeat (first | exact Below.refl _ _ | assumption | refine Below.drew ?_ | (refine Below.alloc ?_ (by simp <;> omega) _))))) hb
        obtain ⟨hc, hfz⟩ := bcell hbw
        go_wp2_with fail
        refine ((unhide HSG) _ A7 cap7 l7 hn7).mono ?_
        rintro e w' ⟨s, neg', A', cap', l', rfl, hf, hb⟩
        have hbw := below_step (w := W0) (by (first | assumption | (repeat (first | exact Below.refl _ _ | assumption | refine Below.drew ?_ | (refine Below.alloc ?_ (by simp <;> omega) _))))) hb
        obtain ⟨hc, hfz⟩ := bcell hbw
        have hblk : w'.heap[w.heap.size + 1 + 1]? = some (.cells #[.int .i64 0, .bool false, .slice none 0 0] 46 (0, 0)) := (hbw.block _ q2).trans N3.out
        have HBLK := Lib.hid hblk
        have hb9 : Below w.heap.size w w' := below_step' hw0 hbw
        clear hblk
        go_wp2_with fail
        exact bodyPost_ret (v := .agg #[.int .i64 s, .bool neg', .slice A' l'.length cap']) (by simp [results, Tryd.results68, go_sem, hc, k7, k8, k9, q2]) rfl
          ⟨s, neg', A', cap', l', rfl, hf.upto HBLK.out (noWord3 _ _ _ _ _) (set3_grown _ _ _ _ _), hb9.grown (set3_grown _ _ _ _ _) hb9.size (fun k hk => by injection hk with hk; omega)⟩
      · rw [decide_eq_false a1] at HS1
        clear a a1
        go_enter Tryd.func68, Tryd.ntmps68
        go_wp2_with fail
        obtain ⟨n1, n2, n3, hsz, hw0⟩ := three_new w (.cells #[.int .i64 s1, .bool neg1, .slice A1 l1.length c1] 46) (.cells #[.int .i64 s2, .bool neg2, .slice A2 l2.length c2] 46) (.cells #[.int .i64 0, .bool false, .slice none 0 0] 46)
        generalize (((w.alloc (.cells #[.int .i64 s1, .bool neg1, .slice A1 l1.length c1] 46)).alloc (.cells #[.int .i64 s2, .bool neg2, .slice A2 l2.length c2] 46)).alloc (.cells #[.int .i64 0, .bool false, .slice none 0 0] 46)) = W0 at *
        have k1 := cells_of n1 0
        have k2 := cells_of n1 1
        have k3 := cells_of n1 2
        simp only [Array.getElem?_eq_getElem, three0, three1, three2] at k1 k2 k3
        have k4 := cells_of n2 0
        have k5 := cells_of n2 1
        have k6 := cells_of n2 2
        simp only [Array.getElem?_eq_getElem, three0, three1, three2] at k4 k5 k6
        have q0 : w.heap.size < W0.heap.size := by omega
        have q1 : w.heap.size + 1 < W0.heap.size := by omega
        have q2 : w.heap.size + 1 + 1 < W0.heap.size := by omega
        have k7 := cells_of n3 0
        have k8 := cells_of n3 1
        have k9 := cells_of n3 2
        simp only [Array.getElem?_eq_getElem, three0, three1, three2] at k7 k8 k9
        have f7 := unfrozen_of n3 0
        have f8 := unfrozen_of n3 1
        have f9 := unfrozen_of n3 2
        have N3 := Lib.hid n3
        clear n3
        clear n1 n2
        refine ((unhide HS1) _).mono ?_
        rintro e w1 ⟨rfl, hw1⟩
        have hbw1 := below_eq (w := W0) (by (first | assumption | (repeat (first | exact Below.refl _ _ | assumption | refine Below.drew ?_ | (refine Below.alloc ?_ (by simp <;> omega) _))))) hw1
        obtain ⟨hc, hfz⟩ := bcell hbw1
        clear hw1
        go_wp2_with fail
        have B1 := (unhide HB1) W0 hw0; have B2 := (unhide HB2) W0 hw0; have G1 := (unhide HG1) W0 hw0; have G2 := (unhide HG2) W0 hw0
        go_region_held3 (fun w' => w'.cell? ⟨w.heap.size, 0, none⟩ = some (.int .i64 s1) ∧ w'.cell? ⟨w.heap.size, 1, none⟩ = some (.bool neg1) ∧ w'.cell? ⟨w.heap.size, 2, none⟩ = some (.slice A1 l1.length c1) ∧ w'.cell? ⟨w.heap.size + 1, 0, none⟩ = some (.int .i64 s2) ∧ w'.cell? ⟨w.heap.size + 1, 1, none⟩ = some (.bool neg2) ∧ w'.cell? ⟨w.heap.size + 1, 2, none⟩ = some (.slice A2 l2.length c2)) ((first | with_reducible exact ⟨(hc _ _ q0).trans k1, (hc _ _ q0).trans k2, (hc _ _ q0).trans k3, (hc _ _ q1).trans k4, (hc _ _ q1).trans k5, (hc _ _ q1).trans k6⟩ | with_reducible exact ⟨k1, k2, k3, k4, k5, k6⟩ | with_reducible exact ⟨(cell_set3 _ _ _ _ _ (by omega)).trans ((hc _ _ q0).trans k1), (cell_set3 _ _ _ _ _ (by omega)).trans ((hc _ _ q0).trans k2), (cell_set3 _ _ _ _ _ (by omega)).trans ((hc _ _ q0).trans k3), (cell_set3 _ _ _ _ _ (by omega)).trans ((hc _ _ q1).trans k4), (cell_set3 _ _ _ _ _ (by omega)).trans ((hc _ _ q1).trans k5), (cell_set3 _ _ _ _ _ (by omega)).trans ((hc _ _ q1).trans k6)⟩ | exact ⟨(hc _ _ q0).trans k1, (hc _ _ q0).trans k2, (hc _ _ q0).trans k3, (hc _ _ q1).trans k4, (hc _ _ q1).trans k5, (hc _ _ q1).trans k6⟩ | exact ⟨k1, k2, k3, k4, k5, k6⟩)) (first | (go_at_call_of 77 (Value.agg #[.int .i64 s1, .bool neg1, .slice A1 l1.length c1]); refine ((unhide B1) _ (by (first | assumption | (repeat (first | exact Below.refl _ _ | assumption | refine Below.drew ?_ | (refine Below.alloc ?_ (by simp <;> omega) _)))))).mono ?_; rintro e w' ⟨A5, cap5, l5, rfl, hn5, hb⟩; have hbw := below_step (w := W0) (by (first | assumption | (repeat (first | exact Below.refl _ _ | assumption | refine Below.drew ?_ | (refine Below.alloc ?_ (by simp <;> omega) _))))) hb; obtain ⟨hc, hfz⟩ := bcell hbw) | (go_at_call_of 77 (Value.agg #[.int .i64 s2, .bool neg2, .slice A2 l2.length c2]); refine ((unhide B2) _ (by (first | assumption | (repeat (first | exact Below.refl _ _ | assumption | refine Below.drew ?_ | (refine Below.alloc ?_ (by simp <;> omega) _)))))).mono ?_; rintro e w' ⟨A6, cap6, l6, rfl, hn6, hb⟩; have hn5' := hn5.below hb; have hbw := below_step (w := W0) (by (first | assumption | (repeat (first | exact Below.refl _ _ | assumption | refine Below.drew ?_ | (refine Below.alloc ?_ (by simp <;> omega) _))))) hb; obtain ⟨hc, hfz⟩ := bcell hbw))
        go_wp2_with fail
        refine ((unhide G1) _ (by (first | assumption | (repeat (first | exact Below.refl _ _ | assumption | refine Below.drew ?_ | (refine Below.alloc ?_ (by simp <;> omega) _)))))).mono ?_
        rintro e w6 ⟨rfl, hb⟩
        replace hn5' := hn5'.below hb
        replace hn6 := hn6.below hb
        have hbw := below_step (w := W0) (by (first | assumption | (repeat (first | exact Below.refl _ _ | assumption | refine Below.drew ?_ | (refine Below.alloc ?_ (by simp <;> omega) _))))) hb
        obtain ⟨hc, hfz⟩ := bcell hbw
        go_wp2_with fail
        refine ((unhide G2) _ (by (first | assumption | (repeat (first | exact Below.refl _ _ | assumption | refine Below.drew ?_ | (refine Below.alloc ?_ (by simp <;> omega) _)))))).mono ?_
        rintro e w7 ⟨rfl, hb⟩
        replace hn5' := hn5'.below hb
        replace hn6 := hn6.below hb
        have hbw := below_step (w := W0) (by (first | assumption | (repeat (first | exact Below.refl _ _ | assumption | refine Below.drew ?_ | (refine Below.alloc ?_ (by simp <;> omega) _))))) hb
        obtain ⟨hc, hfz⟩ := bcell hbw
        go_wp2_with fail
        refine (cmp_any A5 A6 cap5 cap6 l5 l6 m1 m2 _ (by exact hn5') (by exact hn6)).mono ?_
        rintro e w8 ⟨rfl, kd, hw8⟩
        subst hw8
        rw [← HOD.out]
        replace hn5' := hn5'.below (belowN (Below.refl _ _) kd)
        replace hn6 := hn6.below (belowN (Below.refl _ _) kd)
        have hbw := belowN hbw kd
        obtain ⟨hc, hfz⟩ := bcell hbw
        go_wp2_with fail
        refine (sub_any A5 A6 cap5 cap6 l5 l6 m1 m2 _ (by exact hn5') (by exact hn6) ((unhide HLE)) (Nat.le_trans (Nat.le_succ _) ((unhide HLEN) _ _ _ _ () hn5').2)).mono ?_
        rintro e w9 ⟨A7, cap7, l7, rfl, hn7, hb⟩
        have hbw := below_step (w := W0) (by (first | assumption | (repeat (first | exact Below.refl _ _ | assumption | refine Below.drew ?_ | (refine Below.alloc ?_ (by simp <;> omega) _))))) hb
        obtain ⟨hc, hfz⟩ := bcell hbw
        go_wp2_with fail
        refine ((unhide HSG) _ A7 cap7 l7 hn7).mono ?_
        rintro e w' ⟨s, neg', A', cap', l', rfl, hf, hb⟩
        have hbw := below_step (w := W0) (by (first | assumption | (repeat (first | exact Below.refl _ _ | assumption | refine Below.drew ?_ | (refine Below.alloc ?_ (by simp <;> omega) _))))) hb
        obtain ⟨hc, hfz⟩ := bcell hbw
        have hblk : w'.heap[w.heap.size + 1 + 1]? = some (.cells #[.int .i64 0, .bool false, .slice none 0 0] 46 (0, 0)) := (hbw.block _ q2).trans N3.out
        have HBLK := Lib.hid hblk
        have hb9 : Below w.heap.size w w' := below_step' hw0 hbw
        clear hblk
        go_wp2_with fail
        exact bodyPost_ret (v := .agg #[.int .i64 s, .bool neg', .slice A' l'.length cap']) (by simp [results, Tryd.results68, go_sem, hc, k7, k8, k9, q2]) rfl
          ⟨s, neg', A', cap', l', rfl, hf.upto HBLK.out (noWord3 _ _ _ _ _) (set3_grown _ _ _ _ _), hb9.grown (set3_grown _ _ _ _ _) hb9.size (fun k hk => by injection hk with hk; omega)⟩

end Go.Proofs.YtfbcdfoohpkfeaaDoor
/- Sums of whole numbers. -/
namespace Go.Proofs.YtfbcdfoohpkfeaaDoor
open Go.RowKit

theorem iadd_any (s1 : Int) (neg1 : Bool) (A1 : Option Addr) (c1 : Nat) (l1 : List Nat) (z1 : Int) (s2 : Int) (neg2 : Bool) (A2 : Option Addr) (c2 : Nat) (l2 : List Nat) (z2 : Int) (w : World)
    (h1 : IntF w s1 neg1 A1 c1 l1 z1) (h2 : IntF w s2 neg2 A2 c2 l2 z2) (hl1 : l1.length ≤ lim) (hl2 : l2.length ≤ lim) :
    Calls Tryd.prog 68 #[.agg #[.int .i64 s1, .bool neg1, .slice A1 l1.length c1], .agg #[.int .i64 s2, .bool neg2, .slice A2 l2.length c2]] w fun e w' => IntR w (z1 + z2) e w' := by
  by_cases a : l1.length = 0 ∧ l2.length = 0
  · by_cases hz : (z1 + z2).natAbs < M63
    · exact iadd_small s1 neg1 A1 c1 l1 z1 s2 neg2 A2 c2 l2 z2 w h1 h2 hl1 hl2 a.1 a.2 hz
    · exact iadd_over s1 neg1 A1 c1 l1 z1 s2 neg2 A2 c2 l2 z2 w h1 h2 hl1 hl2 a.1 a.2 (Nat.le_of_not_lt hz)
  · exact iadd_big s1 neg1 A1 c1 l1 z1 s2 neg2 A2 c2 l2 z2 w h1 h2 hl1 hl2 a

end Go.Proofs.YtfbcdfoohpkfeaaDoor
/- Plain mathematics of numbers within a limit: sums, differences, products and quotients, and how they are told. No program stands here. -/
namespace Go.Proofs.YtfbcdfoohpkfeaaDoor
namespace Wd

/-- The limit of numerators and denominators. -/
def MX : Nat := 1000000000000
theorem MX_eq : MX = 1000000000000 := rfl

/-- What is a number: in lowest terms, a denominator above 0, both within the limit. -/
def okR (n d : Int) : Prop := 1 ≤ d ∧ d ≤ 1000000000000 ∧ -1000000000000 ≤ n ∧ n ≤ 1000000000000 ∧ n.natAbs.gcd d.natAbs = 1
instance (n d : Int) : Decidable (okR n d) := by unfold okR; infer_instance

/-- The rational number of a numerator and a denominator. -/
def qR (n d : Int) : Rat := Rat.divInt n d

theorem qR_ok {n d : Int} (h : okR n d) : (qR n d).num = n ∧ ((qR n d).den : Int) = d := by
  obtain ⟨h1, h2, h3, h4, h5⟩ := h
  have hd : (d.natAbs : Int) = d := by omega
  have e : qR n d = Rat.mk' n d.natAbs (by omega) h5 := by
    rw [Rat.mk_eq_divInt, hd]; rfl
  rw [e]; exact ⟨rfl, hd⟩
theorem qR_self (q : Rat) : qR q.num q.den = q := by
  unfold qR; exact Rat.num_divInt_den q
/-- Whether a rational number is representable. -/
def fits (q : Rat) : Prop := q.num.natAbs ≤ MX ∧ q.den ≤ MX
instance (q : Rat) : Decidable (fits q) := by unfold fits; infer_instance
theorem fits_ok {q : Rat} (h : fits q) : okR q.num q.den := by
  obtain ⟨h1, h2⟩ := h
  rw [MX_eq] at h1 h2
  have h3 := q.den_pos
  exact ⟨by omega, by omega, by omega, by omega, by rw [Int.natAbs_natCast]; exact q.reduced⟩
theorem ok_fits {n d : Int} (h : okR n d) : fits (qR n d) := by
  obtain ⟨e1, e2⟩ := qR_ok h
  obtain ⟨h1, h2, h3, h4, h5⟩ := h
  unfold fits; rw [MX_eq, e1]
  exact ⟨by omega, by omega⟩

/-- A numerator, a denominator and an error. -/
structure Told where
  n : Int
  d : Int
  e : Int
/-- How a rational number is told: ErrLarge if it is not representable. -/
def told (q : Rat) : Told := if fits q then ⟨q.num, q.den, 0⟩ else ⟨0, 0, 3⟩
theorem told_e (q : Rat) : (told q).e = 0 ↔ fits q := by
  unfold told
  by_cases h : fits q
  · rw [if_pos h]; exact ⟨fun _ => h, fun _ => rfl⟩
  · rw [if_neg h]; exact ⟨fun e => by simp at e, fun e => absurd e h⟩
theorem told_ok {q : Rat} (h : (told q).e = 0) : okR (told q).n (told q).d ∧ qR (told q).n (told q).d = q := by
  have hf := (told_e q).1 h
  unfold told; rw [if_pos hf]
  exact ⟨fits_ok hf, qR_self q⟩
/-- What two numbers come to: ErrArg if one is none. -/
def two (f : Rat → Rat → Rat) (a b c d : Int) : Told := if okR a b ∧ okR c d then told (f (qR a b) (qR c d)) else ⟨0, 0, 1⟩
def addR (a b c d : Int) : Told := two (· + ·) a b c d
end Wd
end Go.Proofs.YtfbcdfoohpkfeaaDoor
/- How long the amounts of whole numbers are: plain mathematics. -/
namespace Go.Proofs.YtfbcdfoohpkfeaaDoor
namespace Wd

/-- The amount of a whole number has at most K words to the base B. -/
def Sz (B K : Nat) (z : Int) : Prop := z.natAbs < B ^ K

theorem Sz.mono {B K L : Nat} {z : Int} (hB : 1 < B) (h : Sz B K z) (hk : K ≤ L) : Sz B L z := Nat.lt_of_lt_of_le h (Nat.pow_le_pow_right (by omega) hk)
theorem Sz.mul {B K L : Nat} {a b : Int} (ha : Sz B K a) (hb : Sz B L b) : Sz B (K + L) (a * b) := by
  unfold Sz at *; rw [Int.natAbs_mul, Nat.pow_add]
  exact Nat.mul_lt_mul_of_lt_of_le ha (Nat.le_of_lt hb) (by omega)
theorem Sz.add {B K : Nat} {a b : Int} (hB : 1 < B) (ha : Sz B K a) (hb : Sz B K b) : Sz B (K + 1) (a + b) := by
  unfold Sz at *
  have h1 := Int.natAbs_add_le a b
  have h2 : 2 * B ^ K ≤ B ^ (K + 1) := by rw [Nat.pow_succ, Nat.mul_comm]; exact Nat.mul_le_mul_left _ hB
  omega
theorem Sz.neg {B K : Nat} {a : Int} (ha : Sz B K a) : Sz B K (-a) := by unfold Sz at *; rwa [Int.natAbs_neg]
theorem Sz.le {B K : Nat} {a b : Int} (ha : Sz B K a) (h : b.natAbs ≤ a.natAbs) : Sz B K b := Nat.lt_of_le_of_lt h ha
theorem Sz.tdiv {B K : Nat} {a : Int} (ha : Sz B K a) (b : Int) : Sz B K (a.tdiv b) := ha.le (by rw [Int.natAbs_tdiv]; exact Nat.div_le_self _ _)
theorem Sz.gcd_left {B K : Nat} {a b : Int} (ha : Sz B K a) (h0 : a ≠ 0) : Sz B K ((a.natAbs.gcd b.natAbs : Nat) : Int) := ha.le (by rw [Int.natAbs_natCast]; exact Nat.gcd_le_left _ (by omega))
theorem Sz.gcd_right {B K : Nat} {a b : Int} (hb : Sz B K b) (h0 : b ≠ 0) : Sz B K ((a.natAbs.gcd b.natAbs : Nat) : Int) := hb.le (by rw [Int.natAbs_natCast]; exact Nat.gcd_le_right _ (by omega))
theorem Sz.gcd {B K : Nat} {a b : Int} (ha : Sz B K a) (hb : Sz B K b) : Sz B K ((a.natAbs.gcd b.natAbs : Nat) : Int) := by
  by_cases h0 : a = 0
  · subst h0
    refine hb.le ?_
    simp
  · exact ha.gcd_left h0
theorem Sz.of_le {B K : Nat} {z : Int} (h : z.natAbs < B) (hB : 1 < B) (hK : 1 ≤ K) : Sz B K z := by
  have : Sz B 1 z := by unfold Sz; rwa [Nat.pow_one]
  exact this.mono hB hK

/-- A quotient in lowest terms: numerator and denominator, as the parts of an Int.Quo. -/
theorem add_parts_int (x y : Rat) (g h : Nat) (n : Int) (hg : g = x.den.gcd y.den) (hn : n = x.num * (y.den : Int).tdiv g + y.num * (x.den : Int).tdiv g) (hh : h = g.gcd n.natAbs) :
    (x + y).num = n.tdiv h ∧ ((x + y).den : Int) = (x.den : Int).tdiv g * (y.den : Int).tdiv h := by
  have e1 : (y.den : Int).tdiv g = ((y.den / g : Nat) : Int) := (Int.ofNat_tdiv _ _).symm
  have e2 : (x.den : Int).tdiv g = ((x.den / g : Nat) : Int) := (Int.ofNat_tdiv _ _).symm
  have e3 : (y.den : Int).tdiv h = ((y.den / h : Nat) : Int) := (Int.ofNat_tdiv _ _).symm
  rw [e1, e2] at hn
  have := add_parts x y g h n hg hn hh
  rw [this.1, this.2, e2, e3, Int.natCast_mul]
  exact ⟨rfl, rfl⟩
theorem mul_parts_int (x y : Rat) (g h : Nat) (hg : g = x.num.natAbs.gcd y.den) (hh : h = y.num.natAbs.gcd x.den) :
    (x * y).num = x.num.tdiv g * y.num.tdiv h ∧ ((x * y).den : Int) = (x.den : Int).tdiv h * (y.den : Int).tdiv g := by
  have e1 : (y.den : Int).tdiv g = ((y.den / g : Nat) : Int) := (Int.ofNat_tdiv _ _).symm
  have e2 : (x.den : Int).tdiv h = ((x.den / h : Nat) : Int) := (Int.ofNat_tdiv _ _).symm
  have := mul_parts x y g h hg hh
  rw [this.1, this.2, e1, e2, Int.natCast_mul]
  exact ⟨rfl, rfl⟩
/-- The inverse of a quotient that is not 0. -/
theorem inv_parts (q : Rat) (h : q.num ≠ 0) : (q.num < 0 → (q⁻¹).num = -(q.den : Int) ∧ ((q⁻¹).den : Int) = -q.num) ∧ (¬ q.num < 0 → (q⁻¹).num = (q.den : Int) ∧ ((q⁻¹).den : Int) = q.num) := by
  rw [Rat.num_inv, Rat.den_inv, if_neg h]
  constructor
  · intro hn
    rw [Int.sign_eq_neg_one_of_neg hn]; omega
  · intro hn
    rw [Int.sign_eq_one_of_pos (by omega)]; omega
end Wd
end Go.Proofs.YtfbcdfoohpkfeaaDoor
/- Quotients without a limit: their six parts; what a call hands back. -/
namespace Go.Proofs.YtfbcdfoohpkfeaaDoor
open Go.RowKit

/-- What a call hands back: a quotient of two whole numbers; what was there is as it was. -/
def PairR (w : World) (a b : Int) (e : Ending) (w' : World) : Prop := ∃ s1 neg1 A1 c1 l1 s2 neg2 A2 c2 l2,
  e = .returned (.agg #[.int .i64 s1, .bool neg1, .slice A1 (List.length l1) c1, .int .i64 s2, .bool neg2, .slice A2 (List.length l2) c2]) ∧ IntF w' s1 neg1 A1 c1 l1 a ∧ IntF w' s2 neg2 A2 c2 l2 b ∧ Below w.heap.size w w'

theorem noWord6 (s s' : Int) (b b' : Bool) (A A' : Option Addr) (n c n' c' : Nat) : NoWord #[.int .i64 s, .bool b, .slice A n c, .int .i64 s', .bool b', .slice A' n' c'] := by
  intro i n h
  match i, h with
  | 0, h => simp at h
  | 1, h => simp at h
  | 2, h => simp at h
  | 3, h => simp at h
  | 4, h => simp at h
  | 5, h => simp at h
  | i + 6, h => simp at h
theorem set6_grown (w : World) (g : Nat) (u0 u1 u2 u3 u4 u5 : Value) : w.grownBy ((((((w.setCell ⟨g, 0, none⟩ u0).setCell ⟨g, 1, none⟩ u1).setCell ⟨g, 2, none⟩ u2).setCell ⟨g, 3, none⟩ u3).setCell ⟨g, 4, none⟩ u4).setCell ⟨g, 5, none⟩ u5) (some g) :=
  grown_setCell (grown_setCell (grown_setCell (grown_setCell (grown_setCell (grown_setCell (grown_refl _ _) _ _) _ _) _ _) _ _) _ _) _ _
theorem set2_grown (w : World) (g : Nat) (u0 u1 : Value) : w.grownBy ((w.setCell ⟨g, 0, none⟩ u0).setCell ⟨g, 1, none⟩ u1) (some g) :=
  grown_setCell (grown_setCell (grown_refl _ _) _ _) _ _
theorem cell_set1 {w : World} {g : Nat} (i : Nat) (u : Value) (b o : Nat) (h : b ≠ g) : (w.setCell ⟨g, i, none⟩ u).cell? ⟨b, o, none⟩ = w.cell? ⟨b, o, none⟩ :=
  World.cell?_setCell_other _ _ _ _ (by intro e; injection e with e1; exact h (by first | exact e1 | exact e1.symm))
theorem cell_set6 {w : World} {g : Nat} (u0 u1 u2 u3 u4 u5 : Value) (b o : Nat) (h : b ≠ g) : ((((((w.setCell ⟨g, 0, none⟩ u0).setCell ⟨g, 1, none⟩ u1).setCell ⟨g, 2, none⟩ u2).setCell ⟨g, 3, none⟩ u3).setCell ⟨g, 4, none⟩ u4).setCell ⟨g, 5, none⟩ u5).cell? ⟨b, o, none⟩ = w.cell? ⟨b, o, none⟩ := by
  rw [cell_set1 _ _ _ _ h, cell_set1 _ _ _ _ h, cell_set1 _ _ _ _ h, cell_set1 _ _ _ _ h, cell_set1 _ _ _ _ h, cell_set1 _ _ _ _ h]
theorem cell_set2 {w : World} {g : Nat} (u0 u1 : Value) (b o : Nat) (h : b ≠ g) : ((w.setCell ⟨g, 0, none⟩ u0).setCell ⟨g, 1, none⟩ u1).cell? ⟨b, o, none⟩ = w.cell? ⟨b, o, none⟩ := by
  rw [cell_set1 _ _ _ _ h, cell_set1 _ _ _ _ h]

theorem one_new (w : World) (o1 : Obj) : (w.alloc o1).heap[w.heap.size]? = some o1 ∧ (w.alloc o1).heap.size = w.heap.size + 1 ∧ Below w.heap.size w (w.alloc o1) :=
  ⟨heap_alloc_new w o1, by simp, (Below.refl _ _).alloc (Nat.le_refl _) _⟩

/-- A whole number of few words: its words are few. -/
theorem IntF.fit {w : World} {s : Int} {neg : Bool} {A : Option Addr} {cap : Nat} {l : List Nat} {z : Int} {K : Nat} (h : IntF w s neg A cap l z) (hz : Wd.Sz B64 K z) (hK : K ≤ lim) : l.length ≤ lim := by
  rcases h.form with ⟨h1, _⟩ | ⟨h1, _, _, h2, _⟩
  · omega
  · obtain ⟨n, hn⟩ := h.nat
    have hv : n = z.natAbs := by rw [← h2, hn.val]
    have := hn.len (k := K) (by rw [hv]; exact hz)
    omega
end Go.Proofs.YtfbcdfoohpkfeaaDoor
/- Products of whole numbers. -/
namespace Go.Proofs.YtfbcdfoohpkfeaaDoor
open Go.RowKit

set_option maxRecDepth 100000 in
set_option maxHeartbeats 4000000 in
theorem imul_any (s1 : Int) (neg1 : Bool) (A1 : Option Addr) (c1 : Nat) (l1 : List Nat) (z1 : Int) (s2 : Int) (neg2 : Bool) (A2 : Option Addr) (c2 : Nat) (l2 : List Nat) (z2 : Int) (w : World)
    (h1 : IntF w s1 neg1 A1 c1 l1 z1) (h2 : IntF w s2 neg2 A2 c2 l2 z2) (hl1 : l1.length ≤ lim) (hl2 : l2.length ≤ lim) :
    Calls Tryd.prog 59 #[.agg #[.int .i64 s1, .bool neg1, .slice A1 l1.length c1], .agg #[.int .i64 s2, .bool neg2, .slice A2 l2.length c2]] w fun e w' => IntR w (z1 * z2) e w' := by
  have HS1 := hide (fun W => isSmall_any s1 neg1 A1 c1 l1.length W)
  have HS2 := hide (fun W => isSmall_any s2 neg2 A2 c2 l2.length W)
  have hz := sgn_mul_sign z1 z2
  have LEN : ∀ (A5 A6 : Option Addr) (c5 c6 : Nat) (l5 l6 : List Nat) (W : World), NatV W A5 c5 l5 z1.natAbs → NatV W A6 c6 l6 z2.natAbs → l5.length + l6.length ≤ 35184372088832 := fun _ _ _ _ _ _ _ g1 g2 => by
    have e1 := g1.len h1.amount_len
    have e2 := g2.len h2.amount_len
    rw [lim_eq] at hl1 hl2
    omega
  have G1 : ∀ W0, Below w.heap.size w W0 → Hid (∀ W, Below W0.heap.size W0 W → Calls Tryd.prog 50 #[.agg #[.int .i64 s1, .bool neg1, .slice A1 l1.length c1]] W fun e w' => e = .returned (.int .i64 (sgn z1)) ∧ Below W.heap.size W w') := fun W0 h0 W hW => sign_any s1 neg1 A1 c1 l1 z1 W (IntF.below h1 (below_step' h0 hW))
  have G2 : ∀ W0, Below w.heap.size w W0 → Hid (∀ W, Below W0.heap.size W0 W → Calls Tryd.prog 50 #[.agg #[.int .i64 s2, .bool neg2, .slice A2 l2.length c2]] W fun e w' => e = .returned (.int .i64 (sgn z2)) ∧ Below W.heap.size W w') := fun W0 h0 W hW => sign_any s2 neg2 A2 c2 l2 z2 W (IntF.below h2 (below_step' h0 hW))
  have B1 : ∀ W0, Below w.heap.size w W0 → Hid (∀ W, Below W0.heap.size W0 W → Calls Tryd.prog 77 #[.agg #[.int .i64 s1, .bool neg1, .slice A1 l1.length c1]] W fun e w' => NatR W z1.natAbs e w') := fun W0 h0 W hW => abs_any s1 neg1 A1 c1 l1 z1 W (IntF.below h1 (below_step' h0 hW))
  have B2 : ∀ W0, Below w.heap.size w W0 → Hid (∀ W, Below W0.heap.size W0 W → Calls Tryd.prog 77 #[.agg #[.int .i64 s2, .bool neg2, .slice A2 l2.length c2]] W fun e w' => NatR W z2.natAbs e w') := fun W0 h0 W hW => abs_any s2 neg2 A2 c2 l2 z2 W (IntF.below h2 (below_step' h0 hW))
  have ho1 : -1 ≤ sgn z1 * sgn z2 ∧ sgn z1 * sgn z2 ≤ 1 := by unfold sgn; (repeat' split) <;> omega
  have hbnd1 := h1.bounds
  have hbnd2 := h2.bounds
  have hsz1 : l1.length = 0 → s1.natAbs = z1.natAbs ∧ z1.natAbs < M63 := fun h => by obtain ⟨e, _, e3⟩ := h1.of_small h; rw [e]; exact ⟨rfl, e3⟩
  have hsz2 : l2.length = 0 → s2.natAbs = z2.natAbs ∧ z2.natAbs < M63 := fun h => by obtain ⟨e, _, e3⟩ := h2.of_small h; rw [e]; exact ⟨rfl, e3⟩
  have Z1 := hide (fun W => size_any s1 hbnd1.1 hbnd1.2 W)
  have Z2 := hide (fun W => size_any s2 hbnd2.1 hbnd2.2 W)
  obtain ⟨m1, hm1⟩ : ∃ o, o = z1.natAbs := ⟨_, rfl⟩
  obtain ⟨m2, hm2⟩ : ∃ o, o = z2.natAbs := ⟨_, rfl⟩
  obtain ⟨o1, hoo1⟩ : ∃ o, o = sgn z1 := ⟨_, rfl⟩
  obtain ⟨o2, hoo2⟩ : ∃ o, o = sgn z2 := ⟨_, rfl⟩
  rw [← hm1] at B1 LEN hz hsz1
  rw [← hm2] at B2 LEN hz hsz2
  rw [← hoo1] at G1 hz ho1
  rw [← hoo2] at G2 hz ho1
  obtain ⟨op, hop⟩ : ∃ o, o = o1 * o2 := ⟨_, rfl⟩
  have e1 : IntKind.i64.wrap (o1 * o2) = op := by rw [hop]; exact IntWalk.i64_in _ (by omega)
  have e1' : wrap64 (o1 * o2) = op := by rw [hop]; exact IntWalk.wrap64_in _ (by omega)
  rw [← hop] at hz
  obtain ⟨ng, hng⟩ : ∃ b, b = decide (op < 0) := ⟨_, rfl⟩
  rw [← hng] at hz
  obtain ⟨Z, hZ⟩ : ∃ o, o = z1 * z2 := ⟨_, rfl⟩
  rw [← hZ] at hz ⊢
  have HZ := Lib.hid hz.symm
  have HG1 := hide G1; have HG2 := hide G2; have HB1 := hide B1; have HB2 := hide B2; have HLEN := hide LEN
  have ngE := hng.symm
  clear hm1 hm2 hoo1 hoo2 ho1 hop hng hz hZ G1 G2 B1 B2 h1 h2 hbnd1 hbnd2 LEN hl1 hl2
  by_cases hs : l1.length = 0 ∧ l2.length = 0
  · obtain ⟨a1, a2⟩ := hs
    rw [decide_eq_true a1] at HS1
    rw [decide_eq_true a2] at HS2
    obtain ⟨y1, y2⟩ := hsz1 a1
    obtain ⟨y3, y4⟩ := hsz2 a2
    rw [y1] at Z1
    rw [y3] at Z2
    have hB1 : m1 < B64 := by have := y2; rw [M63_eq] at this; rw [B64_eq]; omega
    have hB2 : m2 < B64 := by have := y4; rw [M63_eq] at this; rw [B64_eq]; omega
    obtain ⟨hi', hhi⟩ : ∃ t, t = m1 * m2 / B64 := ⟨_, rfl⟩
    obtain ⟨lo, hlo⟩ : ∃ t, t = m1 * m2 % B64 := ⟨_, rfl⟩
    have hM := mul64_any m1 m2 hB1 hB2
    rw [← hhi, ← hlo] at hM
    have HM := hide hM
    have hloB : lo < B64 := by rw [hlo]; exact Nat.mod_lt _ (Nat.lt_trans Nat.zero_lt_one B64_pos)
    have HW := hide (fun W => word_any ng lo hloB W)
    have hdm : hi' = 0 → lo = m1 * m2 := fun h => by
      have := Nat.div_add_mod (m1 * m2) B64
      rw [← hhi, ← hlo, h] at this
      omega
    by_cases hh : hi' = 0
    · have hb0 : ((hi' : Int) == 0) = true := beq_iff_eq.2 (by omega)
      have hW' : ∀ W, Calls Tryd.prog 53 #[.bool ng, .int .u64 ((lo : Nat) : Int)] W fun e w' => IntR W Z e w' := fun W => by
        have := (unhide HW) W
        rw [hdm hh] at this ⊢
        rw [HZ.out]; exact this
      have HWW := hide hW'
      clear hW' HW hdm hh hlo hhi hM hB1 hB2 hloB y1 y2 y3 y4 hsz1 hsz2 a1 a2
      go_enter Tryd.func59, Tryd.ntmps59
      go_wp2_with fail
      obtain ⟨n1, n2, n3, hsz, hw0⟩ := three_new w (.cells #[.int .i64 s1, .bool neg1, .slice A1 l1.length c1] 46) (.cells #[.int .i64 s2, .bool neg2, .slice A2 l2.length c2] 46) (.cells #[.int .i64 0, .bool false, .slice none 0 0] 46)
      generalize (((w.alloc (.cells #[.int .i64 s1, .bool neg1, .slice A1 l1.length c1] 46)).alloc (.cells #[.int .i64 s2, .bool neg2, .slice A2 l2.length c2] 46)).alloc (.cells #[.int .i64 0, .bool false, .slice none 0 0] 46)) = W0 at *
      have k1 := cells_of n1 0
      have k2 := cells_of n1 1
      have k3 := cells_of n1 2
      simp only [Array.getElem?_eq_getElem, three0, three1, three2] at k1 k2 k3
      have k4 := cells_of n2 0
      have k5 := cells_of n2 1
      have k6 := cells_of n2 2
      simp only [Array.getElem?_eq_getElem, three0, three1, three2] at k4 k5 k6
      have q0 : w.heap.size < W0.heap.size := by omega
      have q1 : w.heap.size + 1 < W0.heap.size := by omega
      have q2 : w.heap.size + 1 + 1 < W0.heap.size := by omega
      have k7 := cells_of n3 0
      have k8 := cells_of n3 1
      have k9 := cells_of n3 2
      simp only [Array.getElem?_eq_getElem, three0, three1, three2] at k7 k8 k9
      have f7 := unfrozen_of n3 0
      have f8 := unfrozen_of n3 1
      have f9 := unfrozen_of n3 2
      have N3 := Lib.hid n3
      clear n3
      clear n1 n2
      have G1 := (unhide HG1) W0 hw0; have G2 := (unhide HG2) W0 hw0; have B1 := (unhide HB1) W0 hw0; have B2 := (unhide HB2) W0 hw0
      go_region_held3 (fun w' => w'.cell? ⟨w.heap.size, 0, none⟩ = some (.int .i64 s1) ∧ w'.cell? ⟨w.heap.size, 1, none⟩ = some (.bool neg1) ∧ w'.cell? ⟨w.heap.size, 2, none⟩ = some (.slice A1 l1.length c1) ∧ w'.cell? ⟨w.heap.size + 1, 0, none⟩ = some (.int .i64 s2) ∧ w'.cell? ⟨w.heap.size + 1, 1, none⟩ = some (.bool neg2) ∧ w'.cell? ⟨w.heap.size + 1, 2, none⟩ = some (.slice A2 l2.length c2)) ((first | exact ⟨(hc _ _ q0).trans k1, (hc _ _ q0).trans k2, (hc _ _ q0).trans k3, (hc _ _ q1).trans k4, (hc _ _ q1).trans k5, (hc _ _ q1).trans k6⟩ | exact ⟨k1, k2, k3, k4, k5, k6⟩)) (first | (go_at_call_of 50 (Value.agg #[.int .i64 s1, .bool neg1, .slice A1 l1.length c1]); refine ((unhide G1) _ (by (first | assumption | (repeat (first | exact Below.refl _ _ | assumption | refine Below.drew ?_ | (refine Below.alloc ?_ (by simp <;> omega) _)))))).mono ?_; rintro e w' ⟨rfl, hb⟩; have hbw := below_step (w := W0) (by (first | assumption | (repeat (first | exact Below.refl _ _ | assumption | refine Below.drew ?_ | (refine Below.alloc ?_ (by simp <;> omega) _))))) hb; obtain ⟨hc, hfz⟩ := bcell hbw) | (go_at_call_of 50 (Value.agg #[.int .i64 s2, .bool neg2, .slice A2 l2.length c2]); refine ((unhide G2) _ (by (first | assumption | (repeat (first | exact Below.refl _ _ | assumption | refine Below.drew ?_ | (refine Below.alloc ?_ (by simp <;> omega) _)))))).mono ?_; rintro e w' ⟨rfl, hb⟩; have hbw := below_step (w := W0) (by (first | assumption | (repeat (first | exact Below.refl _ _ | assumption | refine Below.drew ?_ | (refine Below.alloc ?_ (by simp <;> omega) _))))) hb; obtain ⟨hc, hfz⟩ := bcell hbw))
      go_wp2_with fail
      refine ((unhide HS1) _).mono ?_
      rintro e w1 ⟨rfl, hw1⟩
      have hbw1 := below_eq (w := W0) (by (first | assumption | (repeat (first | exact Below.refl _ _ | assumption | refine Below.drew ?_ | (refine Below.alloc ?_ (by simp <;> omega) _))))) hw1
      obtain ⟨hc, hfz⟩ := bcell hbw1
      clear hw1
      go_wp2_with fail
      refine ((unhide HS2) _).mono ?_
      rintro e w2 ⟨rfl, hw2⟩
      have hbw2 := below_eq (w := W0) (by (first | assumption | (repeat (first | exact Below.refl _ _ | assumption | refine Below.drew ?_ | (refine Below.alloc ?_ (by simp <;> omega) _))))) hw2
      obtain ⟨hc, hfz⟩ := bcell hbw2
      clear hw2
      go_wp2_with fail
      go_region_held3 (fun w' => w'.cell? ⟨w.heap.size, 0, none⟩ = some (.int .i64 s1) ∧ w'.cell? ⟨w.heap.size, 1, none⟩ = some (.bool neg1) ∧ w'.cell? ⟨w.heap.size, 2, none⟩ = some (.slice A1 l1.length c1) ∧ w'.cell? ⟨w.heap.size + 1, 0, none⟩ = some (.int .i64 s2) ∧ w'.cell? ⟨w.heap.size + 1, 1, none⟩ = some (.bool neg2) ∧ w'.cell? ⟨w.heap.size + 1, 2, none⟩ = some (.slice A2 l2.length c2)) ((first | exact ⟨(hc _ _ q0).trans k1, (hc _ _ q0).trans k2, (hc _ _ q0).trans k3, (hc _ _ q1).trans k4, (hc _ _ q1).trans k5, (hc _ _ q1).trans k6⟩ | exact ⟨k1, k2, k3, k4, k5, k6⟩)) (first | (go_at_call_of 54 (Value.int .i64 s1); refine ((unhide Z1) _).mono ?_; rintro e w' ⟨rfl, hw9⟩; subst hw9) | (go_at_call_of 54 (Value.int .i64 s2); refine ((unhide Z2) _).mono ?_; rintro e w' ⟨rfl, hw9⟩; subst hw9) | (go_at_call 90; refine ((unhide HM) _).mono ?_; rintro e w' ⟨rfl, hw9⟩; subst hw9))
      go_wp2_with fail
      refine ((unhide HWW) _).mono ?_
      rintro e w' ⟨s, neg', A', cap', l', rfl, hf, hb⟩
      have hbw := below_step (w := W0) (by (first | assumption | (repeat (first | exact Below.refl _ _ | assumption | refine Below.drew ?_ | (refine Below.alloc ?_ (by simp <;> omega) _))))) hb
      obtain ⟨hc, hfz⟩ := bcell hbw
      have hblk : w'.heap[w.heap.size + 1 + 1]? = some (.cells #[.int .i64 0, .bool false, .slice none 0 0] 46 (0, 0)) := (hbw.block _ q2).trans N3.out
      have HBLK := Lib.hid hblk
      have hb9 : Below w.heap.size w w' := below_step' hw0 hbw
      clear hblk
      go_wp2_with fail
      exact bodyPost_ret (v := .agg #[.int .i64 s, .bool neg', .slice A' l'.length cap']) (by simp [results, Tryd.results59, go_sem, hc, k7, k8, k9, q2]) rfl
        ⟨s, neg', A', cap', l', rfl, hf.upto HBLK.out (noWord3 _ _ _ _ _) (set3_grown _ _ _ _ _), hb9.grown (set3_grown _ _ _ _ _) hb9.size (fun k hk => by injection hk with hk; omega)⟩
    · have hb0 : ((hi' : Int) == 0) = false := beq_eq_false_iff_ne.2 (by omega)
      clear HW hdm hh hlo hhi hM hB1 hB2 hloB y1 y2 y3 y4 hsz1 hsz2 a1 a2
      go_enter Tryd.func59, Tryd.ntmps59
      go_wp2_with fail
      obtain ⟨n1, n2, n3, hsz, hw0⟩ := three_new w (.cells #[.int .i64 s1, .bool neg1, .slice A1 l1.length c1] 46) (.cells #[.int .i64 s2, .bool neg2, .slice A2 l2.length c2] 46) (.cells #[.int .i64 0, .bool false, .slice none 0 0] 46)
      generalize (((w.alloc (.cells #[.int .i64 s1, .bool neg1, .slice A1 l1.length c1] 46)).alloc (.cells #[.int .i64 s2, .bool neg2, .slice A2 l2.length c2] 46)).alloc (.cells #[.int .i64 0, .bool false, .slice none 0 0] 46)) = W0 at *
      have k1 := cells_of n1 0
      have k2 := cells_of n1 1
      have k3 := cells_of n1 2
      simp only [Array.getElem?_eq_getElem, three0, three1, three2] at k1 k2 k3
      have k4 := cells_of n2 0
      have k5 := cells_of n2 1
      have k6 := cells_of n2 2
      simp only [Array.getElem?_eq_getElem, three0, three1, three2] at k4 k5 k6
      have q0 : w.heap.size < W0.heap.size := by omega
      have q1 : w.heap.size + 1 < W0.heap.size := by omega
      have q2 : w.heap.size + 1 + 1 < W0.heap.size := by omega
      have k7 := cells_of n3 0
      have k8 := cells_of n3 1
      have k9 := cells_of n3 2
      simp only [Array.getElem?_eq_getElem, three0, three1, three2] at k7 k8 k9
      have f7 := unfrozen_of n3 0
      have f8 := unfrozen_of n3 1
      have f9 := unfrozen_of n3 2
      have N3 := Lib.hid n3
      clear n3
      clear n1 n2
      have G1 := (unhide HG1) W0 hw0; have G2 := (unhide HG2) W0 hw0; have B1 := (unhide HB1) W0 hw0; have B2 := (unhide HB2) W0 hw0
      go_region_held3 (fun w' => w'.cell? ⟨w.heap.size, 0, none⟩ = some (.int .i64 s1) ∧ w'.cell? ⟨w.heap.size, 1, none⟩ = some (.bool neg1) ∧ w'.cell? ⟨w.heap.size, 2, none⟩ = some (.slice A1 l1.length c1) ∧ w'.cell? ⟨w.heap.size + 1, 0, none⟩ = some (.int .i64 s2) ∧ w'.cell? ⟨w.heap.size + 1, 1, none⟩ = some (.bool neg2) ∧ w'.cell? ⟨w.heap.size + 1, 2, none⟩ = some (.slice A2 l2.length c2)) ((first | exact ⟨(hc _ _ q0).trans k1, (hc _ _ q0).trans k2, (hc _ _ q0).trans k3, (hc _ _ q1).trans k4, (hc _ _ q1).trans k5, (hc _ _ q1).trans k6⟩ | exact ⟨k1, k2, k3, k4, k5, k6⟩)) (first | (go_at_call_of 50 (Value.agg #[.int .i64 s1, .bool neg1, .slice A1 l1.length c1]); refine ((unhide G1) _ (by (first | assumption | (repeat (first | exact Below.refl _ _ | assumption | refine Below.drew ?_ | (refine Below.alloc ?_ (by simp <;> omega) _)))))).mono ?_; rintro e w' ⟨rfl, hb⟩; have hbw := below_step (w := W0) (by (first | assumption | (repeat (first | exact Below.refl _ _ | assumption | refine Below.drew ?_ | (refine Below.alloc ?_ (by simp <;> omega) _))))) hb; obtain ⟨hc, hfz⟩ := bcell hbw) | (go_at_call_of 50 (Value.agg #[.int .i64 s2, .bool neg2, .slice A2 l2.length c2]); refine ((unhide G2) _ (by (first | assumption | (repeat (first | exact Below.refl _ _ | assumption | refine Below.drew ?_ | (refine Below.alloc ?_ (by simp <;> omega) _)))))).mono ?_; rintro e w' ⟨rfl, hb⟩; have hbw := below_step (w := W0) (by (first | assumption | (repeat (first | exact Below.refl _ _ | assumption | refine Below.drew ?_ | (refine Below.alloc ?_ (by simp <;> omega) _))))) hb; obtain ⟨hc, hfz⟩ := bcell hbw))
      go_wp2_with fail
      refine ((unhide HS1) _).mono ?_
      rintro e w1 ⟨rfl, hw1⟩
      have hbw1 := below_eq (w := W0) (by (first | assumption | (repeat (first | exact Below.refl _ _ | assumption | refine Below.drew ?_ | (refine Below.alloc ?_ (by simp <;> omega) _))))) hw1
      obtain ⟨hc, hfz⟩ := bcell hbw1
      clear hw1
      go_wp2_with fail
      refine ((unhide HS2) _).mono ?_
      rintro e w2 ⟨rfl, hw2⟩
      have hbw2 := below_eq (w := W0) (by (first | assumption | (repeat (first | exact Below.refl _ _ | assumption | refine Below.drew ?_ | (refine Below.alloc ?_ (by simp <;> omega) _))))) hw2
      obtain ⟨hc, hfz⟩ := bcell hbw2
      clear hw2
      go_wp2_with fail
      go_region_held3 (fun w' => w'.cell? ⟨w.heap.size, 0, none⟩ = some (.int .i64 s1) ∧ w'.cell? ⟨w.heap.size, 1, none⟩ = some (.bool neg1) ∧ w'.cell? ⟨w.heap.size, 2, none⟩ = some (.slice A1 l1.length c1) ∧ w'.cell? ⟨w.heap.size + 1, 0, none⟩ = some (.int .i64 s2) ∧ w'.cell? ⟨w.heap.size + 1, 1, none⟩ = some (.bool neg2) ∧ w'.cell? ⟨w.heap.size + 1, 2, none⟩ = some (.slice A2 l2.length c2)) ((first | exact ⟨(hc _ _ q0).trans k1, (hc _ _ q0).trans k2, (hc _ _ q0).trans k3, (hc _ _ q1).trans k4, (hc _ _ q1).trans k5, (hc _ _ q1).trans k6⟩ | exact ⟨k1, k2, k3, k4, k5, k6⟩)) (first | (go_at_call_of 54 (Value.int .i64 s1); refine ((unhide Z1) _).mono ?_; rintro e w' ⟨rfl, hw9⟩; subst hw9) | (go_at_call_of 54 (Value.int .i64 s2); refine ((unhide Z2) _).mono ?_; rintro e w' ⟨rfl, hw9⟩; subst hw9) | (go_at_call 90; refine ((unhide HM) _).mono ?_; rintro e w' ⟨rfl, hw9⟩; subst hw9))
      go_wp2_with fail
      go_region_with (first | (go_at_call_of 77 (Value.agg #[.int .i64 s1, .bool neg1, .slice A1 l1.length c1]); refine ((unhide B1) _ (by (first | assumption | (repeat (first | exact Below.refl _ _ | assumption | refine Below.drew ?_ | (refine Below.alloc ?_ (by simp <;> omega) _)))))).mono ?_; rintro e w' ⟨A5, cap5, l5, rfl, hn5, hb⟩; have hbw := below_step (w := W0) (by (first | assumption | (repeat (first | exact Below.refl _ _ | assumption | refine Below.drew ?_ | (refine Below.alloc ?_ (by simp <;> omega) _))))) hb; obtain ⟨hc, hfz⟩ := bcell hbw) | (go_at_call_of 77 (Value.agg #[.int .i64 s2, .bool neg2, .slice A2 l2.length c2]); refine ((unhide B2) _ (by (first | assumption | (repeat (first | exact Below.refl _ _ | assumption | refine Below.drew ?_ | (refine Below.alloc ?_ (by simp <;> omega) _)))))).mono ?_; rintro e w' ⟨A6, cap6, l6, rfl, hn6, hb⟩; have hn5' := hn5.below hb; have hbw := below_step (w := W0) (by (first | assumption | (repeat (first | exact Below.refl _ _ | assumption | refine Below.drew ?_ | (refine Below.alloc ?_ (by simp <;> omega) _))))) hb; obtain ⟨hc, hfz⟩ := bcell hbw) | (go_at_call 91; refine (mul_any A5 A6 cap5 cap6 l5 l6 m1 m2 _ (by exact hn5') (by exact hn6) ((unhide HLEN) _ _ _ _ _ _ _ hn5' hn6)).mono ?_; rintro e w' ⟨A7, cap7, l7, rfl, hn7, hb⟩; have hbw := below_step (w := W0) (by (first | assumption | (repeat (first | exact Below.refl _ _ | assumption | refine Below.drew ?_ | (refine Below.alloc ?_ (by simp <;> omega) _))))) hb; obtain ⟨hc, hfz⟩ := bcell hbw) | (go_at_call 76; refine (signed_any ng A7 cap7 l7 (m1 * m2) _ (by exact hn7)).mono ?_; rw [← HZ.out]; rintro e w' ⟨s, neg', A', cap', l', rfl, hf, hb⟩; have hbw := below_step (w := W0) (by (first | assumption | (repeat (first | exact Below.refl _ _ | assumption | refine Below.drew ?_ | (refine Below.alloc ?_ (by simp <;> omega) _))))) hb; obtain ⟨hc, hfz⟩ := bcell hbw))
      all_goals
        have hblk : w'.heap[w.heap.size + 1 + 1]? = some (.cells #[.int .i64 0, .bool false, .slice none 0 0] 46 (0, 0)) := (hbw.block _ q2).trans N3.out
        have HBLK := Lib.hid hblk
        have hb9 : Below w.heap.size w w' := below_step' hw0 hbw
        clear hblk
        go_wp2_with fail
        exact bodyPost_ret (v := .agg #[.int .i64 s, .bool neg', .slice A' l'.length cap']) (by simp [results, Tryd.results59, go_sem, hc, k7, k8, k9, q2]) rfl
          ⟨s, neg', A', cap', l', rfl, hf.upto HBLK.out (noWord3 _ _ _ _ _) (set3_grown _ _ _ _ _), hb9.grown (set3_grown _ _ _ _ _) hb9.size (fun k hk => by injection hk with hk; omega)⟩
  · by_cases a1 : l1.length = 0
    · have a2 : ¬ l2.length = 0 := fun h => hs ⟨a1, h⟩
      rw [decide_eq_true a1] at HS1
      rw [decide_eq_false a2] at HS2
      clear hsz1 hsz2 hs a1 a2
      go_enter Tryd.func59, Tryd.ntmps59
      go_wp2_with fail
      obtain ⟨n1, n2, n3, hsz, hw0⟩ := three_new w (.cells #[.int .i64 s1, .bool neg1, .slice A1 l1.length c1] 46) (.cells #[.int .i64 s2, .bool neg2, .slice A2 l2.length c2] 46) (.cells #[.int .i64 0, .bool false, .slice none 0 0] 46)
      generalize (((w.alloc (.cells #[.int .i64 s1, .bool neg1, .slice A1 l1.length c1] 46)).alloc (.cells #[.int .i64 s2, .bool neg2, .slice A2 l2.length c2] 46)).alloc (.cells #[.int .i64 0, .bool false, .slice none 0 0] 46)) = W0 at *
      have k1 := cells_of n1 0
      have k2 := cells_of n1 1
      have k3 := cells_of n1 2
      simp only [Array.getElem?_eq_getElem, three0, three1, three2] at k1 k2 k3
      have k4 := cells_of n2 0
      have k5 := cells_of n2 1
      have k6 := cells_of n2 2
      simp only [Array.getElem?_eq_getElem, three0, three1, three2] at k4 k5 k6
      have q0 : w.heap.size < W0.heap.size := by omega
      have q1 : w.heap.size + 1 < W0.heap.size := by omega
      have q2 : w.heap.size + 1 + 1 < W0.heap.size := by omega
      have k7 := cells_of n3 0
      have k8 := cells_of n3 1
      have k9 := cells_of n3 2
      simp only [Array.getElem?_eq_getElem, three0, three1, three2] at k7 k8 k9
      have f7 := unfrozen_of n3 0
      have f8 := unfrozen_of n3 1
      have f9 := unfrozen_of n3 2
      have N3 := Lib.hid n3
      clear n3
      clear n1 n2
      have G1 := (unhide HG1) W0 hw0; have G2 := (unhide HG2) W0 hw0; have B1 := (unhide HB1) W0 hw0; have B2 := (unhide HB2) W0 hw0
      go_region_held3 (fun w' => w'.cell? ⟨w.heap.size, 0, none⟩ = some (.int .i64 s1) ∧ w'.cell? ⟨w.heap.size, 1, none⟩ = some (.bool neg1) ∧ w'.cell? ⟨w.heap.size, 2, none⟩ = some (.slice A1 l1.length c1) ∧ w'.cell? ⟨w.heap.size + 1, 0, none⟩ = some (.int .i64 s2) ∧ w'.cell? ⟨w.heap.size + 1, 1, none⟩ = some (.bool neg2) ∧ w'.cell? ⟨w.heap.size + 1, 2, none⟩ = some (.slice A2 l2.length c2)) ((first | exact ⟨(hc _ _ q0).trans k1, (hc _ _ q0).trans k2, (hc _ _ q0).trans k3, (hc _ _ q1).trans k4, (hc _ _ q1).trans k5, (hc _ _ q1).trans k6⟩ | exact ⟨k1, k2, k3, k4, k5, k6⟩)) (first | (go_at_call_of 50 (Value.agg #[.int .i64 s1, .bool neg1, .slice A1 l1.length c1]); refine ((unhide G1) _ (by (first | assumption | (repeat (first | exact Below.refl _ _ | assumption | refine Below.drew ?_ | (refine Below.alloc ?_ (by simp <;> omega) _)))))).mono ?_; rintro e w' ⟨rfl, hb⟩; have hbw := below_step (w := W0) (by (first | assumption | (repeat (first | exact Below.refl _ _ | assumption | refine Below.drew ?_ | (refine Below.alloc ?_ (by simp <;> omega) _))))) hb; obtain ⟨hc, hfz⟩ := bcell hbw) | (go_at_call_of 50 (Value.agg #[.int .i64 s2, .bool neg2, .slice A2 l2.length c2]); refine ((unhide G2) _ (by (first | assumption | (repeat (first | exact Below.refl _ _ | assumption | refine Below.drew ?_ | (refine Below.alloc ?_ (by simp <;> omega) _)))))).mono ?_; rintro e w' ⟨rfl, hb⟩; have hbw := below_step (w := W0) (by (first | assumption | (repeat (first | exact Below.refl _ _ | assumption | refine Below.drew ?_ | (refine Below.alloc ?_ (by simp <;> omega) _))))) hb; obtain ⟨hc, hfz⟩ := bcell hbw))
      go_wp2_with fail
      refine ((unhide HS1) _).mono ?_
      rintro e w1 ⟨rfl, hw1⟩
      have hbw1 := below_eq (w := W0) (by (first | assumption | (repeat (first | exact Below.refl _ _ | assumption | refine Below.drew ?_ | (refine Below.alloc ?_ (by simp <;> omega) _))))) hw1
      obtain ⟨hc, hfz⟩ := bcell hbw1
      clear hw1
      go_wp2_with fail
      refine ((unhide HS2) _).mono ?_
      rintro e w2 ⟨rfl, hw2⟩
      have hbw2 := below_eq (w := W0) (by (first | assumption | (repeat (first | exact Below.refl _ _ | assumption | refine Below.drew ?_ | (refine Below.alloc ?_ (by simp <;> omega) _))))) hw2
      obtain ⟨hc, hfz⟩ := bcell hbw2
      clear hw2
      go_wp2_with fail
      go_region_with (first | (go_at_call_of 77 (Value.agg #[.int .i64 s1, .bool neg1, .slice A1 l1.length c1]); refine ((unhide B1) _ (by (first | assumption | (repeat (first | exact Below.refl _ _ | assumption | refine Below.drew ?_ | (refine Below.alloc ?_ (by simp <;> omega) _)))))).mono ?_; rintro e w' ⟨A5, cap5, l5, rfl, hn5, hb⟩; have hbw := below_step (w := W0) (by (first | assumption | (repeat (first | exact Below.refl _ _ | assumption | refine Below.drew ?_ | (refine Below.alloc ?_ (by simp <;> omega) _))))) hb; obtain ⟨hc, hfz⟩ := bcell hbw) | (go_at_call_of 77 (Value.agg #[.int .i64 s2, .bool neg2, .slice A2 l2.length c2]); refine ((unhide B2) _ (by (first | assumption | (repeat (first | exact Below.refl _ _ | assumption | refine Below.drew ?_ | (refine Below.alloc ?_ (by simp <;> omega) _)))))).mono ?_; rintro e w' ⟨A6, cap6, l6, rfl, hn6, hb⟩; have hn5' := hn5.below hb; have hbw := below_step (w := W0) (by (first | assumption | (repeat (first | exact Below.refl _ _ | assumption | refine Below.drew ?_ | (refine Below.alloc ?_ (by simp <;> omega) _))))) hb; obtain ⟨hc, hfz⟩ := bcell hbw) | (go_at_call 91; refine (mul_any A5 A6 cap5 cap6 l5 l6 m1 m2 _ (by exact hn5') (by exact hn6) ((unhide HLEN) _ _ _ _ _ _ _ hn5' hn6)).mono ?_; rintro e w' ⟨A7, cap7, l7, rfl, hn7, hb⟩; have hbw := below_step (w := W0) (by (first | assumption | (repeat (first | exact Below.refl _ _ | assumption | refine Below.drew ?_ | (refine Below.alloc ?_ (by simp <;> omega) _))))) hb; obtain ⟨hc, hfz⟩ := bcell hbw) | (go_at_call 76; refine (signed_any ng A7 cap7 l7 (m1 * m2) _ (by exact hn7)).mono ?_; rw [← HZ.out]; rintro e w' ⟨s, neg', A', cap', l', rfl, hf, hb⟩; have hbw := below_step (w := W0) (by (first | assumption | (repeat (first | exact Below.refl _ _ | assumption | refine Below.drew ?_ | (refine Below.alloc ?_ (by simp <;> omega) _))))) hb; obtain ⟨hc, hfz⟩ := bcell hbw))
      all_goals
        have hblk : w'.heap[w.heap.size + 1 + 1]? = some (.cells #[.int .i64 0, .bool false, .slice none 0 0] 46 (0, 0)) := (hbw.block _ q2).trans N3.out
        have HBLK := Lib.hid hblk
        have hb9 : Below w.heap.size w w' := below_step' hw0 hbw
        clear hblk
        go_wp2_with fail
        exact bodyPost_ret (v := .agg #[.int .i64 s, .bool neg', .slice A' l'.length cap']) (by simp [results, Tryd.results59, go_sem, hc, k7, k8, k9, q2]) rfl
          ⟨s, neg', A', cap', l', rfl, hf.upto HBLK.out (noWord3 _ _ _ _ _) (set3_grown _ _ _ _ _), hb9.grown (set3_grown _ _ _ _ _) hb9.size (fun k hk => by injection hk with hk; omega)⟩
    · skip
      rw [decide_eq_false a1] at HS1
      clear hsz1 hsz2 hs a1
      go_enter Tryd.func59, Tryd.ntmps59
      go_wp2_with fail
      obtain ⟨n1, n2, n3, hsz, hw0⟩ := three_new w (.cells #[.int .i64 s1, .bool neg1, .slice A1 l1.length c1] 46) (.cells #[.int .i64 s2, .bool neg2, .slice A2 l2.length c2] 46) (.cells #[.int .i64 0, .bool false, .slice none 0 0] 46)
      generalize (((w.alloc (.cells #[.int .i64 s1, .bool neg1, .slice A1 l1.length c1] 46)).alloc (.cells #[.int .i64 s2, .bool neg2, .slice A2 l2.length c2] 46)).alloc (.cells #[.int .i64 0, .bool false, .slice none 0 0] 46)) = W0 at *
      have k1 := cells_of n1 0
      have k2 := cells_of n1 1
      have k3 := cells_of n1 2
      simp only [Array.getElem?_eq_getElem, three0, three1, three2] at k1 k2 k3
      have k4 := cells_of n2 0
      have k5 := cells_of n2 1
      have k6 := cells_of n2 2
      simp only [Array.getElem?_eq_getElem, three0, three1, three2] at k4 k5 k6
      have q0 : w.heap.size < W0.heap.size := by omega
      have q1 : w.heap.size + 1 < W0.heap.size := by omega
      have q2 : w.heap.size + 1 + 1 < W0.heap.size := by omega
      have k7 := cells_of n3 0
      have k8 := cells_of n3 1
      have k9 := cells_of n3 2
      simp only [Array.getElem?_eq_getElem, three0, three1, three2] at k7 k8 k9
      have f7 := unfrozen_of n3 0
      have f8 := unfrozen_of n3 1
      have f9 := unfrozen_of n3 2
      have N3 := Lib.hid n3
      clear n3
      clear n1 n2
      have G1 := (unhide HG1) W0 hw0; have G2 := (unhide HG2) W0 hw0; have B1 := (unhide HB1) W0 hw0; have B2 := (unhide HB2) W0 hw0
      go_region_held3 (fun w' => w'.cell? ⟨w.heap.size, 0, none⟩ = some (.int .i64 s1) ∧ w'.cell? ⟨w.heap.size, 1, none⟩ = some (.bool neg1) ∧ w'.cell? ⟨w.heap.size, 2, none⟩ = some (.slice A1 l1.length c1) ∧ w'.cell? ⟨w.heap.size + 1, 0, none⟩ = some (.int .i64 s2) ∧ w'.cell? ⟨w.heap.size + 1, 1, none⟩ = some (.bool neg2) ∧ w'.cell? ⟨w.heap.size + 1, 2, none⟩ = some (.slice A2 l2.length c2)) ((first | exact ⟨(hc _ _ q0).trans k1, (hc _ _ q0).trans k2, (hc _ _ q0).trans k3, (hc _ _ q1).trans k4, (hc _ _ q1).trans k5, (hc _ _ q1).trans k6⟩ | exact ⟨k1, k2, k3, k4, k5, k6⟩)) (first | (go_at_call_of 50 (Value.agg #[.int .i64 s1, .bool neg1, .slice A1 l1.length c1]); refine ((unhide G1) _ (by (first | assumption | (repeat (first | exact Below.refl _ _ | assumption | refine Below.drew ?_ | (refine Below.alloc ?_ (by simp <;> omega) _)))))).mono ?_; rintro e w' ⟨rfl, hb⟩; have hbw := below_step (w := W0) (by (first | assumption | (repeat (first | exact Below.refl _ _ | assumption | refine Below.drew ?_ | (refine Below.alloc ?_ (by simp <;> omega) _))))) hb; obtain ⟨hc, hfz⟩ := bcell hbw) | (go_at_call_of 50 (Value.agg #[.int .i64 s2, .bool neg2, .slice A2 l2.length c2]); refine ((unhide G2) _ (by (first | assumption | (repeat (first | exact Below.refl _ _ | assumption | refine Below.drew ?_ | (refine Below.alloc ?_ (by simp <;> omega) _)))))).mono ?_; rintro e w' ⟨rfl, hb⟩; have hbw := below_step (w := W0) (by (first | assumption | (repeat (first | exact Below.refl _ _ | assumption | refine Below.drew ?_ | (refine Below.alloc ?_ (by simp <;> omega) _))))) hb; obtain ⟨hc, hfz⟩ := bcell hbw))
      go_wp2_with fail
      refine ((unhide HS1) _).mono ?_
      rintro e w1 ⟨rfl, hw1⟩
      have hbw1 := below_eq (w := W0) (by (first | assumption | (repeat (first | exact Below.refl _ _ | assumption | refine Below.drew ?_ | (refine Below.alloc ?_ (by simp <;> omega) _))))) hw1
      obtain ⟨hc, hfz⟩ := bcell hbw1
      clear hw1
      go_wp2_with fail
      go_region_with (first | (go_at_call_of 77 (Value.agg #[.int .i64 s1, .bool neg1, .slice A1 l1.length c1]); refine ((unhide B1) _ (by (first | assumption | (repeat (first | exact Below.refl _ _ | assumption | refine Below.drew ?_ | (refine Below.alloc ?_ (by simp <;> omega) _)))))).mono ?_; rintro e w' ⟨A5, cap5, l5, rfl, hn5, hb⟩; have hbw := below_step (w := W0) (by (first | assumption | (repeat (first | exact Below.refl _ _ | assumption | refine Below.drew ?_ | (refine Below.alloc ?_ (by simp <;> omega) _))))) hb; obtain ⟨hc, hfz⟩ := bcell hbw) | (go_at_call_of 77 (Value.agg #[.int .i64 s2, .bool neg2, .slice A2 l2.length c2]); refine ((unhide B2) _ (by (first | assumption | (repeat (first | exact Below.refl _ _ | assumption | refine Below.drew ?_ | (refine Below.alloc ?_ (by simp <;> omega) _)))))).mono ?_; rintro e w' ⟨A6, cap6, l6, rfl, hn6, hb⟩; have hn5' := hn5.below hb; have hbw := below_step (w := W0) (by (first | assumption | (repeat (first | exact Below.refl _ _ | assumption | refine Below.drew ?_ | (refine Below.alloc ?_ (by simp <;> omega) _))))) hb; obtain ⟨hc, hfz⟩ := bcell hbw) | (go_at_call 91; refine (mul_any A5 A6 cap5 cap6 l5 l6 m1 m2 _ (by exact hn5') (by exact hn6) ((unhide HLEN) _ _ _ _ _ _ _ hn5' hn6)).mono ?_; rintro e w' ⟨A7, cap7, l7, rfl, hn7, hb⟩; have hbw := below_step (w := W0) (by (first | assumption | (repeat (first | exact Below.refl _ _ | assumption | refine Below.drew ?_ | (refine Below.alloc ?_ (by simp <;> omega) _))))) hb; obtain ⟨hc, hfz⟩ := bcell hbw) | (go_at_call 76; refine (signed_any ng A7 cap7 l7 (m1 * m2) _ (by exact hn7)).mono ?_; rw [← HZ.out]; rintro e w' ⟨s, neg', A', cap', l', rfl, hf, hb⟩; have hbw := below_step (w := W0) (by (first | assumption | (repeat (first | exact Below.refl _ _ | assumption | refine Below.drew ?_ | (refine Below.alloc ?_ (by simp <;> omega) _))))) hb; obtain ⟨hc, hfz⟩ := bcell hbw))
      all_goals
        have hblk : w'.heap[w.heap.size + 1 + 1]? = some (.cells #[.int .i64 0, .bool false, .slice none 0 0] 46 (0, 0)) := (hbw.block _ q2).trans N3.out
        have HBLK := Lib.hid hblk
        have hb9 : Below w.heap.size w w' := below_step' hw0 hbw
        clear hblk
        go_wp2_with fail
        exact bodyPost_ret (v := .agg #[.int .i64 s, .bool neg', .slice A' l'.length cap']) (by simp [results, Tryd.results59, go_sem, hc, k7, k8, k9, q2]) rfl
          ⟨s, neg', A', cap', l', rfl, hf.upto HBLK.out (noWord3 _ _ _ _ _) (set3_grown _ _ _ _ _), hb9.grown (set3_grown _ _ _ _ _) hb9.size (fun k hk => by injection hk with hk; omega)⟩

end Go.Proofs.YtfbcdfoohpkfeaaDoor
/- Blocks that hold whole numbers; calls of two whole numbers. -/
namespace Go.Proofs.YtfbcdfoohpkfeaaDoor
open Go.RowKit

/-- Block b is new beside Wp and has room for a whole number. -/
structure Fr (Wp W : World) (b : Nat) : Prop where
  old : Wp.heap.size ≤ b
  zero : W.heap[b]? = some (.cells #[.int .i64 0, .bool false, .slice none 0 0] 46 (0, 0))
theorem lt_of_block {W : World} {b : Nat} {o : Obj} (h : W.heap[b]? = some o) : b < W.heap.size := by
  rcases Nat.lt_or_ge b W.heap.size with hlt | hge
  · exact hlt
  · rw [Array.getElem?_eq_none hge] at h; cases h
theorem Fr.lt {Wp W : World} {b : Nat} (h : Fr Wp W b) : b < W.heap.size := lt_of_block h.zero
theorem Fr.drew {Wp W : World} {b : Nat} (h : Fr Wp W b) : Fr Wp W.drew b := ⟨h.old, h.zero⟩
theorem Fr.drewN {Wp W : World} {b : Nat} {n : Nat} (h : Fr Wp W b) : Fr Wp (W.drewN n) b := ⟨h.old, h.zero⟩
theorem Fr.below {Wp W w' : World} {b : Nat} (h : Fr Wp W b) (hb : Below W.heap.size W w') : Fr Wp w' b := ⟨h.old, (hb.block _ h.lt).trans h.zero⟩
theorem Fr.new {Wp W : World} {b : Nat} (hb : Below Wp.heap.size Wp W) (e : b = W.heap.size) : Fr Wp (W.alloc (.cells #[.int .i64 0, .bool false, .slice none 0 0] 46 (0, 0))) b := by
  subst e; exact ⟨hb.size, heap_alloc_new W _⟩
/-- Two such blocks. -/
structure Fr2 (Wp W : World) (b c : Nat) : Prop where
  one : Fr Wp W b
  two : Fr Wp W c
  ne : b ≠ c
theorem Fr2.drew {Wp W : World} {b c : Nat} (h : Fr2 Wp W b c) : Fr2 Wp W.drew b c := ⟨h.one.drew, h.two.drew, h.ne⟩
theorem Fr2.drewN {Wp W : World} {b c n : Nat} (h : Fr2 Wp W b c) : Fr2 Wp (W.drewN n) b c := ⟨h.one.drewN, h.two.drewN, h.ne⟩
theorem Fr2.below {Wp W w' : World} {b c : Nat} (h : Fr2 Wp W b c) (hb : Below W.heap.size W w') : Fr2 Wp w' b c := ⟨h.one.below hb, h.two.below hb, h.ne⟩
theorem Fr2.newR {Wp W : World} {b c : Nat} (h : Fr Wp W b) (e : c = W.heap.size) : Fr2 Wp (W.alloc (.cells #[.int .i64 0, .bool false, .slice none 0 0] 46 (0, 0))) b c := by
  have hl := h.lt
  have ho := h.old
  subst e
  exact ⟨⟨ho, (Below.heap_alloc W _ b hl).trans h.zero⟩, ⟨by omega, heap_alloc_new W _⟩, by omega⟩
theorem Fr2.newL {Wp W : World} {b c : Nat} (h : Fr Wp W c) (e : b = W.heap.size) : Fr2 Wp (W.alloc (.cells #[.int .i64 0, .bool false, .slice none 0 0] 46 (0, 0))) b c := by
  have hl := h.lt
  have ho := h.old
  subst e
  exact ⟨⟨by omega, heap_alloc_new W _⟩, ⟨ho, (Below.heap_alloc W _ c hl).trans h.zero⟩, by omega⟩

/-- Block b holds a whole number. -/
def BoxI (w : World) (b : Nat) (z : Int) : Prop := ∃ s neg A cap l, w.heap[b]? = some (.cells #[.int .i64 s, .bool neg, .slice A (List.length l) cap] 46 (0, 0)) ∧ IntF w s neg A cap l z
theorem BoxI.below {w w' : World} {b : Nat} {z : Int} (h : BoxI w b z) (hb : Below w.heap.size w w') : BoxI w' b z := by
  obtain ⟨s, neg, A, cap, l, h1, h2⟩ := h
  exact ⟨s, neg, A, cap, l, (hb.block _ (lt_of_block h1)).trans h1, h2.below hb⟩
theorem set3_block {W : World} {b : Nat} {a0 a1 a2 u0 u1 u2 : Value} {T : TypeId} (h : W.heap[b]? = some (.cells #[a0, a1, a2] T (0, 0))) : (((W.setCell ⟨b, 0, none⟩ u0).setCell ⟨b, 1, none⟩ u1).setCell ⟨b, 2, none⟩ u2).heap[b]? = some (.cells #[u0, u1, u2] T (0, 0)) := by
  simp [World.setCell, Array.getElem?_modify, h]
theorem BoxI.new {W : World} {b : Nat} {s1 : Int} {neg1 : Bool} {A1 : Option Addr} {c1 : Nat} {l1 : List Nat} {z1 : Int} (h1 : IntF W s1 neg1 A1 c1 l1 z1) (e : b = W.heap.size) : BoxI (W.alloc (.cells #[.int .i64 s1, .bool neg1, .slice A1 l1.length c1] 46)) b z1 := by
  subst e; exact ⟨s1, neg1, A1, c1, l1, heap_alloc_new W _, h1.below ((Below.refl _ _).alloc (Nat.le_refl _) _)⟩
theorem BoxI.alloc {W : World} {b : Nat} {z : Int} {o : Obj} (h : BoxI W b z) : BoxI (W.alloc o) b z := h.below ((Below.refl _ _).alloc (Nat.le_refl _) _)
theorem IntF.alloc {W : World} {o : Obj} {s1 : Int} {neg1 : Bool} {A1 : Option Addr} {c1 : Nat} {l1 : List Nat} {z1 : Int} (h1 : IntF W s1 neg1 A1 c1 l1 z1) : IntF (W.alloc o) s1 neg1 A1 c1 l1 z1 := h1.below ((Below.refl _ _).alloc (Nat.le_refl _) _)
theorem Fr.alloc {Wp W : World} {b : Nat} {o : Obj} (h : Fr Wp W b) : Fr Wp (W.alloc o) b := ⟨h.old, (Below.heap_alloc W _ b h.lt).trans h.zero⟩
theorem Fr.facts {Wp W : World} {b : Nat} (h : Fr Wp W b) : (W.cell? ⟨b, 0, none⟩ = some (.int .i64 0) ∧ W.cell? ⟨b, 1, none⟩ = some (.bool false) ∧ W.cell? ⟨b, 2, none⟩ = some (.slice none 0 0)) ∧
    (W.frozen? ⟨b, 0, none⟩ = false ∧ W.frozen? ⟨b, 1, none⟩ = false ∧ W.frozen? ⟨b, 2, none⟩ = false) ∧
    ((∀ o, (W.alloc o).cell? ⟨b, 0, none⟩ = some (.int .i64 0)) ∧ (∀ o, (W.alloc o).cell? ⟨b, 1, none⟩ = some (.bool false)) ∧ (∀ o, (W.alloc o).cell? ⟨b, 2, none⟩ = some (.slice none 0 0))) ∧
    ((∀ o, (W.alloc o).frozen? ⟨b, 0, none⟩ = false) ∧ (∀ o, (W.alloc o).frozen? ⟨b, 1, none⟩ = false) ∧ (∀ o, (W.alloc o).frozen? ⟨b, 2, none⟩ = false)) ∧
    ¬ (b = W.heap.size) ∧ ¬ (W.heap.size = b) :=
  ⟨⟨cells_of h.zero 0, cells_of h.zero 1, cells_of h.zero 2⟩, ⟨unfrozen_of h.zero 0, unfrozen_of h.zero 1, unfrozen_of h.zero 2⟩,
   ⟨fun o => cells_of (h.alloc (o := o)).zero 0, fun o => cells_of (h.alloc (o := o)).zero 1, fun o => cells_of (h.alloc (o := o)).zero 2⟩,
   ⟨fun o => unfrozen_of (h.alloc (o := o)).zero 0, fun o => unfrozen_of (h.alloc (o := o)).zero 1, fun o => unfrozen_of (h.alloc (o := o)).zero 2⟩, by have := h.lt; omega, by have := h.lt; omega⟩
theorem put_one {Wp W : World} {b : Nat} {s1 : Int} {neg1 : Bool} {A1 : Option Addr} {c1 : Nat} {l1 : List Nat} {z1 : Int} (hf : Fr Wp W b) (h1 : IntF W s1 neg1 A1 c1 l1 z1) (hb : Below Wp.heap.size Wp W) :
    BoxI (((W.setCell ⟨b, 0, none⟩ (.int .i64 s1)).setCell ⟨b, 1, none⟩ (.bool neg1)).setCell ⟨b, 2, none⟩ (.slice A1 l1.length c1)) b z1 ∧ Below Wp.heap.size Wp (((W.setCell ⟨b, 0, none⟩ (.int .i64 s1)).setCell ⟨b, 1, none⟩ (.bool neg1)).setCell ⟨b, 2, none⟩ (.slice A1 l1.length c1)) ∧ Wp.heap.size ≤ b :=
  ⟨⟨s1, neg1, A1, c1, l1, set3_block hf.zero, h1.upto hf.zero (noWord3 _ _ _ _ _) (set3_grown _ _ _ _ _)⟩, hb.grown (set3_grown _ _ _ _ _) hb.size (fun k hk => by injection hk with hk; have := hf.old; omega), hf.old⟩
theorem put_n {Wp W : World} {b : Nat} {s1 : Int} {neg1 : Bool} {A1 : Option Addr} {c1 : Nat} {l1 : List Nat} {z1 : Int} (h1 : IntF W s1 neg1 A1 c1 l1 z1) (hb : Below Wp.heap.size Wp W) (e : b = W.heap.size) :
    BoxI (W.alloc (.cells #[.int .i64 s1, .bool neg1, .slice A1 l1.length c1] 46)) b z1 ∧ Below Wp.heap.size Wp (W.alloc (.cells #[.int .i64 s1, .bool neg1, .slice A1 l1.length c1] 46)) ∧ Wp.heap.size ≤ b :=
  ⟨BoxI.new h1 e, hb.alloc hb.size _, by have := hb.size; omega⟩
theorem put_two {Wp W : World} {b c : Nat} {s1 : Int} {neg1 : Bool} {A1 : Option Addr} {c1 : Nat} {l1 : List Nat} {z1 : Int} {s2 : Int} {neg2 : Bool} {A2 : Option Addr} {c2 : Nat} {l2 : List Nat} {z2 : Int} (hf : Fr2 Wp W b c) (h1 : IntF W s1 neg1 A1 c1 l1 z1) (h2 : IntF W s2 neg2 A2 c2 l2 z2) (hb : Below Wp.heap.size Wp W) :
    BoxI ((((((W.setCell ⟨b, 0, none⟩ (.int .i64 s1)).setCell ⟨b, 1, none⟩ (.bool neg1)).setCell ⟨b, 2, none⟩ (.slice A1 l1.length c1)).setCell ⟨c, 0, none⟩ (.int .i64 s2)).setCell ⟨c, 1, none⟩ (.bool neg2)).setCell ⟨c, 2, none⟩ (.slice A2 l2.length c2)) b z1 ∧ BoxI ((((((W.setCell ⟨b, 0, none⟩ (.int .i64 s1)).setCell ⟨b, 1, none⟩ (.bool neg1)).setCell ⟨b, 2, none⟩ (.slice A1 l1.length c1)).setCell ⟨c, 0, none⟩ (.int .i64 s2)).setCell ⟨c, 1, none⟩ (.bool neg2)).setCell ⟨c, 2, none⟩ (.slice A2 l2.length c2)) c z2 ∧ Below Wp.heap.size Wp ((((((W.setCell ⟨b, 0, none⟩ (.int .i64 s1)).setCell ⟨b, 1, none⟩ (.bool neg1)).setCell ⟨b, 2, none⟩ (.slice A1 l1.length c1)).setCell ⟨c, 0, none⟩ (.int .i64 s2)).setCell ⟨c, 1, none⟩ (.bool neg2)).setCell ⟨c, 2, none⟩ (.slice A2 l2.length c2)) ∧ Wp.heap.size ≤ b ∧ Wp.heap.size ≤ c := by
  have g1 := set3_grown W b (.int .i64 s1) (.bool neg1) (.slice A1 l1.length c1)
  have k2 := h2.upto hf.one.zero (noWord3 _ _ _ _ _) g1
  have kc := (g1.block c hf.two.lt (fun e => hf.ne (by injection e with e; exact e.symm))).trans hf.two.zero
  have kb := (put_one hf.one h1 hb)
  have ks := kb.2.1.size
  obtain ⟨⟨s, neg, A, cap, l, e1, e2⟩, kb2, _⟩ := kb
  have g2 := set3_grown (((W.setCell ⟨b, 0, none⟩ (.int .i64 s1)).setCell ⟨b, 1, none⟩ (.bool neg1)).setCell ⟨b, 2, none⟩ (.slice A1 l1.length c1)) c (.int .i64 s2) (.bool neg2) (.slice A2 l2.length c2)
  exact ⟨⟨s, neg, A, cap, l, (g2.block b (lt_of_block e1) (fun e => hf.ne (by injection e))).trans e1, e2.upto kc (noWord3 _ _ _ _ _) g2⟩,
    ⟨s2, neg2, A2, c2, l2, set3_block kc, k2.upto kc (noWord3 _ _ _ _ _) g2⟩, kb2.grown g2 ks (fun k hk => by injection hk with hk; have := hf.two.old; omega), hf.one.old, hf.two.old⟩
theorem put_nn {Wp W : World} {b c : Nat} {s1 : Int} {neg1 : Bool} {A1 : Option Addr} {c1 : Nat} {l1 : List Nat} {z1 : Int} {s2 : Int} {neg2 : Bool} {A2 : Option Addr} {c2 : Nat} {l2 : List Nat} {z2 : Int} (h1 : IntF W s1 neg1 A1 c1 l1 z1) (h2 : IntF W s2 neg2 A2 c2 l2 z2) (hb : Below Wp.heap.size Wp W) (eb : b = W.heap.size) (ec : c = W.heap.size + 1) :
    BoxI ((W.alloc (.cells #[.int .i64 s1, .bool neg1, .slice A1 l1.length c1] 46)).alloc (.cells #[.int .i64 s2, .bool neg2, .slice A2 l2.length c2] 46)) b z1 ∧ BoxI ((W.alloc (.cells #[.int .i64 s1, .bool neg1, .slice A1 l1.length c1] 46)).alloc (.cells #[.int .i64 s2, .bool neg2, .slice A2 l2.length c2] 46)) c z2 ∧ Below Wp.heap.size Wp ((W.alloc (.cells #[.int .i64 s1, .bool neg1, .slice A1 l1.length c1] 46)).alloc (.cells #[.int .i64 s2, .bool neg2, .slice A2 l2.length c2] 46)) ∧ Wp.heap.size ≤ b ∧ Wp.heap.size ≤ c :=
  ⟨(BoxI.new h1 eb).alloc, BoxI.new h2.alloc (by rw [ec, World.size_alloc]), (hb.alloc hb.size _).alloc (hb.alloc hb.size _).size _, by have := hb.size; omega, by have := hb.size; omega⟩
theorem put_mm {Wp W : World} {b c : Nat} {s1 : Int} {neg1 : Bool} {A1 : Option Addr} {c1 : Nat} {l1 : List Nat} {z1 : Int} {s2 : Int} {neg2 : Bool} {A2 : Option Addr} {c2 : Nat} {l2 : List Nat} {z2 : Int} (h1 : IntF W s1 neg1 A1 c1 l1 z1) (h2 : IntF W s2 neg2 A2 c2 l2 z2) (hb : Below Wp.heap.size Wp W) (ec : c = W.heap.size) (eb : b = W.heap.size + 1) :
    BoxI ((W.alloc (.cells #[.int .i64 s2, .bool neg2, .slice A2 l2.length c2] 46)).alloc (.cells #[.int .i64 s1, .bool neg1, .slice A1 l1.length c1] 46)) b z1 ∧ BoxI ((W.alloc (.cells #[.int .i64 s2, .bool neg2, .slice A2 l2.length c2] 46)).alloc (.cells #[.int .i64 s1, .bool neg1, .slice A1 l1.length c1] 46)) c z2 ∧ Below Wp.heap.size Wp ((W.alloc (.cells #[.int .i64 s2, .bool neg2, .slice A2 l2.length c2] 46)).alloc (.cells #[.int .i64 s1, .bool neg1, .slice A1 l1.length c1] 46)) ∧ Wp.heap.size ≤ b ∧ Wp.heap.size ≤ c := by
  obtain ⟨x1, x2, x3, x4, x5⟩ := put_nn h2 h1 hb ec eb
  exact ⟨x2, x1, x3, x5, x4⟩
theorem put_ns {Wp W : World} {b c : Nat} {s1 : Int} {neg1 : Bool} {A1 : Option Addr} {c1 : Nat} {l1 : List Nat} {z1 : Int} {s2 : Int} {neg2 : Bool} {A2 : Option Addr} {c2 : Nat} {l2 : List Nat} {z2 : Int} (hf : Fr Wp W c) (h1 : IntF W s1 neg1 A1 c1 l1 z1) (h2 : IntF W s2 neg2 A2 c2 l2 z2) (hb : Below Wp.heap.size Wp W) (eb : b = W.heap.size) :
    BoxI ((((W.alloc (.cells #[.int .i64 s1, .bool neg1, .slice A1 l1.length c1] 46)).setCell ⟨c, 0, none⟩ (.int .i64 s2)).setCell ⟨c, 1, none⟩ (.bool neg2)).setCell ⟨c, 2, none⟩ (.slice A2 l2.length c2)) b z1 ∧ BoxI ((((W.alloc (.cells #[.int .i64 s1, .bool neg1, .slice A1 l1.length c1] 46)).setCell ⟨c, 0, none⟩ (.int .i64 s2)).setCell ⟨c, 1, none⟩ (.bool neg2)).setCell ⟨c, 2, none⟩ (.slice A2 l2.length c2)) c z2 ∧ Below Wp.heap.size Wp ((((W.alloc (.cells #[.int .i64 s1, .bool neg1, .slice A1 l1.length c1] 46)).setCell ⟨c, 0, none⟩ (.int .i64 s2)).setCell ⟨c, 1, none⟩ (.bool neg2)).setCell ⟨c, 2, none⟩ (.slice A2 l2.length c2)) ∧ Wp.heap.size ≤ b ∧ Wp.heap.size ≤ c := by
  have hl := hf.lt
  have hx := put_one hf.alloc h2.alloc (hb.alloc hb.size (.cells #[.int .i64 s1, .bool neg1, .slice A1 l1.length c1] 46))
  have hn := (BoxI.new h1 eb)
  obtain ⟨s, neg, A, cap, l, e1, e2⟩ := hn
  have g2 := set3_grown (W.alloc (.cells #[.int .i64 s1, .bool neg1, .slice A1 l1.length c1] 46)) c (.int .i64 s2) (.bool neg2) (.slice A2 l2.length c2)
  exact ⟨⟨s, neg, A, cap, l, (g2.block b (lt_of_block e1) (fun e => by injection e with e; omega)).trans e1, e2.upto (hf.alloc (o := _)).zero (noWord3 _ _ _ _ _) g2⟩, hx.1, hx.2.1, by have := hb.size; omega, hx.2.2⟩
theorem below_alloc {W W' : World} (h : Below W.heap.size W W') (o : Obj) : Below W.heap.size W (W'.alloc o) := h.alloc h.size o
theorem keep_cell {W W' : World} {b o : Nat} {v : Value} (hB : Below W.heap.size W W') (q : b < W.heap.size) (k : W.cell? ⟨b, o, none⟩ = some v) : W'.cell? ⟨b, o, none⟩ = some v := (hB.cell (p := ⟨b, o, none⟩) q).trans k
theorem below_set {W W' : World} {g : Nat} (hB : Below W.heap.size W W') (hg : W.heap.size ≤ g) (o : Nat) (u : Value) : Below W.heap.size W (W'.setCell ⟨g, o, none⟩ u) :=
  hB.grown (grown_setCell (grown_refl _ (some g)) o u) hB.size (fun k hk => by injection hk with hk; omega)
/-- Function F makes of the whole numbers a and b the whole number c, in every world that holds what w holds. -/
def Op2 (w : World) (F : Nat) (a b c : Int) : Prop := ∀ (s1 : Int) (neg1 : Bool) (A1 : Option Addr) (c1 : Nat) (l1 : List Nat) (s2 : Int) (neg2 : Bool) (A2 : Option Addr) (c2 : Nat) (l2 : List Nat) (W : World), Below w.heap.size w W → IntF W s1 neg1 A1 c1 l1 a → IntF W s2 neg2 A2 c2 l2 b → Calls Tryd.prog F #[(Value.agg #[.int .i64 s1, .bool neg1, .slice A1 l1.length c1]), (Value.agg #[.int .i64 s2, .bool neg2, .slice A2 l2.length c2])] W fun e w' => IntR W c e w'
/-- The fact that a number's words are few, from its size. -/
theorem op_gcd {w : World} {a b c : Int} {K : Nat} (hT : Tab w) (ha : Wd.Sz B64 K a) (hb : Wd.Sz B64 K b) (hK : K ≤ lim) (e : c = ((a.natAbs.gcd b.natAbs : Nat) : Int)) : Op2 w 49 a b c := by
  subst e
  exact fun s1 neg1 A1 c1 l1 s2 neg2 A2 c2 l2 W hW f1 f2 => igcd_any s1 neg1 A1 c1 l1 a s2 neg2 A2 c2 l2 b W f1 f2 (f1.fit ha hK) (f2.fit hb hK) (hT.below hW)
theorem op_quo {w : World} {a b c : Int} {K : Nat} (ha : Wd.Sz B64 K a) (hb : Wd.Sz B64 K b) (hK : K ≤ lim) (h0 : b ≠ 0) (e : c = a.tdiv b) : Op2 w 52 a b c := by
  subst e
  exact fun s1 neg1 A1 c1 l1 s2 neg2 A2 c2 l2 W hW f1 f2 => iquo_any s1 neg1 A1 c1 l1 a s2 neg2 A2 c2 l2 b W f1 f2 (f1.fit ha hK) (f2.fit hb hK) h0
theorem op_mul {w : World} {a b c : Int} {K : Nat} (ha : Wd.Sz B64 K a) (hb : Wd.Sz B64 K b) (hK : K ≤ lim) (e : c = a * b) : Op2 w 59 a b c := by
  subst e
  exact fun s1 neg1 A1 c1 l1 s2 neg2 A2 c2 l2 W hW f1 f2 => imul_any s1 neg1 A1 c1 l1 a s2 neg2 A2 c2 l2 b W f1 f2 (f1.fit ha hK) (f2.fit hb hK)
theorem op_add {w : World} {a b c : Int} {K : Nat} (ha : Wd.Sz B64 K a) (hb : Wd.Sz B64 K b) (hK : K ≤ lim) (e : c = a + b) : Op2 w 68 a b c := by
  subst e
  exact fun s1 neg1 A1 c1 l1 s2 neg2 A2 c2 l2 W hW f1 f2 => iadd_any s1 neg1 A1 c1 l1 a s2 neg2 A2 c2 l2 b W f1 f2 (f1.fit ha hK) (f2.fit hb hK)

end Go.Proofs.YtfbcdfoohpkfeaaDoor
