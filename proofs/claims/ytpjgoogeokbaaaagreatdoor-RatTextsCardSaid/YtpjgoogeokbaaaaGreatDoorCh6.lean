/- Part 6 of the texts beneath a law of layer 1: IntMul, RtBox, RtAdd, RtMul, RtNeg, RtInv, RtOps. -/
import Derived.Test.YtpjgoogeokbaaaaGreatDoorCh5
/- Products of whole numbers. -/
namespace Go.Proofs.YtpjgoogeokbaaaaGreatDoor
open Go.RowKit

set_option maxRecDepth 100000 in
set_option maxHeartbeats 4000000 in
theorem imul_any (s1 : Int) (neg1 : Bool) (A1 : Option Addr) (c1 : Nat) (l1 : List Nat) (z1 : Int) (s2 : Int) (neg2 : Bool) (A2 : Option Addr) (c2 : Nat) (l2 : List Nat) (z2 : Int) (w : World)
    (h1 : IntF w s1 neg1 A1 c1 l1 z1) (h2 : IntF w s2 neg2 A2 c2 l2 z2) (hl1 : l1.length ≤ lim) (hl2 : l2.length ≤ lim) :
    Calls Tryz.prog 112 #[.agg #[.int .i64 s1, .bool neg1, .slice A1 l1.length c1], .agg #[.int .i64 s2, .bool neg2, .slice A2 l2.length c2]] w fun e w' => IntR w (z1 * z2) e w' := by
  have HS1 := hide (fun W => isSmall_any s1 neg1 A1 c1 l1.length W)
  have HS2 := hide (fun W => isSmall_any s2 neg2 A2 c2 l2.length W)
  have hz := sgn_mul_sign z1 z2
  have LEN : ∀ (A5 A6 : Option Addr) (c5 c6 : Nat) (l5 l6 : List Nat) (W : World), NatV W A5 c5 l5 z1.natAbs → NatV W A6 c6 l6 z2.natAbs → l5.length + l6.length ≤ 35184372088832 := fun _ _ _ _ _ _ _ g1 g2 => by
    have e1 := g1.len h1.amount_len
    have e2 := g2.len h2.amount_len
    rw [lim_eq] at hl1 hl2
    omega
  have G1 : ∀ W0, Below w.heap.size w W0 → Hid (∀ W, Below W0.heap.size W0 W → Calls Tryz.prog 128 #[.agg #[.int .i64 s1, .bool neg1, .slice A1 l1.length c1]] W fun e w' => e = .returned (.int .i64 (sgn z1)) ∧ Below W.heap.size W w') := fun W0 h0 W hW => sign_any s1 neg1 A1 c1 l1 z1 W (IntF.below h1 (below_step' h0 hW))
  have G2 : ∀ W0, Below w.heap.size w W0 → Hid (∀ W, Below W0.heap.size W0 W → Calls Tryz.prog 128 #[.agg #[.int .i64 s2, .bool neg2, .slice A2 l2.length c2]] W fun e w' => e = .returned (.int .i64 (sgn z2)) ∧ Below W.heap.size W w') := fun W0 h0 W hW => sign_any s2 neg2 A2 c2 l2 z2 W (IntF.below h2 (below_step' h0 hW))
  have B1 : ∀ W0, Below w.heap.size w W0 → Hid (∀ W, Below W0.heap.size W0 W → Calls Tryz.prog 153 #[.agg #[.int .i64 s1, .bool neg1, .slice A1 l1.length c1]] W fun e w' => NatR W z1.natAbs e w') := fun W0 h0 W hW => abs_any s1 neg1 A1 c1 l1 z1 W (IntF.below h1 (below_step' h0 hW))
  have B2 : ∀ W0, Below w.heap.size w W0 → Hid (∀ W, Below W0.heap.size W0 W → Calls Tryz.prog 153 #[.agg #[.int .i64 s2, .bool neg2, .slice A2 l2.length c2]] W fun e w' => NatR W z2.natAbs e w') := fun W0 h0 W hW => abs_any s2 neg2 A2 c2 l2 z2 W (IntF.below h2 (below_step' h0 hW))
  have ho1 : -1 ≤ sgn z1 * sgn z2 ∧ sgn z1 * sgn z2 ≤ 1 := by unfold sgn; (repeat' split) <;> omega
  have hbnd1 := h1.bounds
  have hbnd2 := h2.bounds
  have hsz1 : l1.length = 0 → s1.natAbs = z1.natAbs ∧ z1.natAbs < M63 := fun h => by obtain ⟨e, _, e3⟩ := h1.of_small h; rw [e]; exact ⟨rfl, e3⟩
  have hsz2 : l2.length = 0 → s2.natAbs = z2.natAbs ∧ z2.natAbs < M63 := fun h => by obtain ⟨e, _, e3⟩ := h2.of_small h; rw [e]; exact ⟨rfl, e3⟩
  have Z1 := hide (fun W => size_any s1 hbnd1.1 hbnd1.2 W)
  have Z2 := hide (fun W => size_any s2 hbnd2.1 hbnd2.2 W)
  obtain ⟨m1, hm1⟩ : ∃ o, o = z1.natAbs := ⟨_, rfl⟩
  obtain ⟨m2, hm2⟩ : ∃ o, o = z2.natAbs := ⟨_, rfl⟩
  obtain ⟨o1, hoo1⟩ : ∃ o, o = sgn z1 := ⟨_, rfl⟩
  obtain ⟨o2, hoo2⟩ : ∃ o, o = sgn z2 := ⟨_, rfl⟩
  rw [← hm1] at B1 LEN hz hsz1
  rw [← hm2] at B2 LEN hz hsz2
  rw [← hoo1] at G1 hz ho1
  rw [← hoo2] at G2 hz ho1
  obtain ⟨op, hop⟩ : ∃ o, o = o1 * o2 := ⟨_, rfl⟩
  have e1 : IntKind.i64.wrap (o1 * o2) = op := by rw [hop]; exact IntWalk.i64_in _ (by omega)
  have e1' : wrap64 (o1 * o2) = op := by rw [hop]; exact IntWalk.wrap64_in _ (by omega)
  rw [← hop] at hz
  obtain ⟨ng, hng⟩ : ∃ b, b = decide (op < 0) := ⟨_, rfl⟩
  rw [← hng] at hz
  obtain ⟨Z, hZ⟩ : ∃ o, o = z1 * z2 := ⟨_, rfl⟩
  rw [← hZ] at hz ⊢
  have HZ := Lib.hid hz.symm
  have HG1 := hide G1; have HG2 := hide G2; have HB1 := hide B1; have HB2 := hide B2; have HLEN := hide LEN
  have ngE := hng.symm
  clear hm1 hm2 hoo1 hoo2 ho1 hop hng hz hZ G1 G2 B1 B2 h1 h2 hbnd1 hbnd2 LEN hl1 hl2
  by_cases hs : l1.length = 0 ∧ l2.length = 0
  · obtain ⟨a1, a2⟩ := hs
    rw [decide_eq_true a1] at HS1
    rw [decide_eq_true a2] at HS2
    obtain ⟨y1, y2⟩ := hsz1 a1
    obtain ⟨y3, y4⟩ := hsz2 a2
    rw [y1] at Z1
    rw [y3] at Z2
    have hB1 : m1 < B64 := by have := y2; rw [M63_eq] at this; rw [B64_eq]; omega
    have hB2 : m2 < B64 := by have := y4; rw [M63_eq] at this; rw [B64_eq]; omega
    obtain ⟨hi', hhi⟩ : ∃ t, t = m1 * m2 / B64 := ⟨_, rfl⟩
    obtain ⟨lo, hlo⟩ : ∃ t, t = m1 * m2 % B64 := ⟨_, rfl⟩
    have hM := mul64_any m1 m2 hB1 hB2
    rw [← hhi, ← hlo] at hM
    have HM := hide hM
    have hloB : lo < B64 := by rw [hlo]; exact Nat.mod_lt _ (Nat.lt_trans Nat.zero_lt_one B64_pos)
    have HW := hide (fun W => word_any ng lo hloB W)
    have hdm : hi' = 0 → lo = m1 * m2 := fun h => by
      have := Nat.div_add_mod (m1 * m2) B64
      rw [← hhi, ← hlo, h] at this
      omega
    by_cases hh : hi' = 0
    · have hb0 : ((hi' : Int) == 0) = true := beq_iff_eq.2 (by omega)
      have hW' : ∀ W, Calls Tryz.prog 147 #[.bool ng, .int .u64 ((lo : Nat) : Int)] W fun e w' => IntR W Z e w' := fun W => by
        have := (unhide HW) W
        rw [hdm hh] at this ⊢
        rw [HZ.out]; exact this
      have HWW := hide hW'
      clear hW' HW hdm hh hlo hhi hM hB1 hB2 hloB y1 y2 y3 y4 hsz1 hsz2 a1 a2
      go_enter Tryz.func112, Tryz.ntmps112
      go_wp2_with fail
      obtain ⟨n1, n2, n3, hsz, hw0⟩ := three_new w (.cells #[.int .i64 s1, .bool neg1, .slice A1 l1.length c1] 61) (.cells #[.int .i64 s2, .bool neg2, .slice A2 l2.length c2] 61) (.cells #[.int .i64 0, .bool false, .slice none 0 0] 61)
      generalize (((w.alloc (.cells #[.int .i64 s1, .bool neg1, .slice A1 l1.length c1] 61)).alloc (.cells #[.int .i64 s2, .bool neg2, .slice A2 l2.length c2] 61)).alloc (.cells #[.int .i64 0, .bool false, .slice none 0 0] 61)) = W0 at *
      have k1 := cells_of n1 0
      have k2 := cells_of n1 1
      have k3 := cells_of n1 2
      simp only [Array.getElem?_eq_getElem, three0, three1, three2] at k1 k2 k3
      have k4 := cells_of n2 0
      have k5 := cells_of n2 1
      have k6 := cells_of n2 2
      simp only [Array.getElem?_eq_getElem, three0, three1, three2] at k4 k5 k6
      have q0 : w.heap.size < W0.heap.size := by omega
      have q1 : w.heap.size + 1 < W0.heap.size := by omega
      have q2 : w.heap.size + 1 + 1 < W0.heap.size := by omega
      have k7 := cells_of n3 0
      have k8 := cells_of n3 1
      have k9 := cells_of n3 2
      simp only [Array.getElem?_eq_getElem, three0, three1, three2] at k7 k8 k9
      have f7 := unfrozen_of n3 0
      have f8 := unfrozen_of n3 1
      have f9 := unfrozen_of n3 2
      have N3 := Lib.hid n3
      clear n3
      clear n1 n2
      have G1 := (unhide HG1) W0 hw0; have G2 := (unhide HG2) W0 hw0; have B1 := (unhide HB1) W0 hw0; have B2 := (unhide HB2) W0 hw0
      go_region_held3 (fun w' => w'.cell? ⟨w.heap.size, 0, none⟩ = some (.int .i64 s1) ∧ w'.cell? ⟨w.heap.size, 1, none⟩ = some (.bool neg1) ∧ w'.cell? ⟨w.heap.size, 2, none⟩ = some (.slice A1 l1.length c1) ∧ w'.cell? ⟨w.heap.size + 1, 0, none⟩ = some (.int .i64 s2) ∧ w'.cell? ⟨w.heap.size + 1, 1, none⟩ = some (.bool neg2) ∧ w'.cell? ⟨w.heap.size + 1, 2, none⟩ = some (.slice A2 l2.length c2)) ((first | exact ⟨(hc _ _ q0).trans k1, (hc _ _ q0).trans k2, (hc _ _ q0).trans k3, (hc _ _ q1).trans k4, (hc _ _ q1).trans k5, (hc _ _ q1).trans k6⟩ | exact ⟨k1, k2, k3, k4, k5, k6⟩)) (first | (go_at_call_of 128 (Value.agg #[.int .i64 s1, .bool neg1, .slice A1 l1.length c1]); refine ((unhide G1) _ (by (first | assumption | (repeat (first | exact Below.refl _ _ | assumption | refine Below.drew ?_ | (refine Below.alloc ?_ (by simp <;> omega) _)))))).mono ?_; rintro e w' ⟨rfl, hb⟩; have hbw := below_step (w := W0) (by (first | assumption | (repeat (first | exact Below.refl _ _ | assumption | refine Below.drew ?_ | (refine Below.alloc ?_ (by simp <;> omega) _))))) hb; obtain ⟨hc, hfz⟩ := bcell hbw) | (go_at_call_of 128 (Value.agg #[.int .i64 s2, .bool neg2, .slice A2 l2.length c2]); refine ((unhide G2) _ (by (first | assumption | (repeat (first | exact Below.refl _ _ | assumption | refine Below.drew ?_ | (refine Below.alloc ?_ (by simp <;> omega) _)))))).mono ?_; rintro e w' ⟨rfl, hb⟩; have hbw := below_step (w := W0) (by (first | assumption | (repeat (first | exact Below.refl _ _ | assumption | refine Below.drew ?_ | (refine Below.alloc ?_ (by simp <;> omega) _))))) hb; obtain ⟨hc, hfz⟩ := bcell hbw))
      go_wp2_with fail
      refine ((unhide HS1) _).mono ?_
      rintro e w1 ⟨rfl, hw1⟩
      have hbw1 := below_eq (w := W0) (by (first | assumption | (repeat (first | exact Below.refl _ _ | assumption | refine Below.drew ?_ | (refine Below.alloc ?_ (by simp <;> omega) _))))) hw1
      obtain ⟨hc, hfz⟩ := bcell hbw1
      clear hw1
      go_wp2_with fail
      refine ((unhide HS2) _).mono ?_
      rintro e w2 ⟨rfl, hw2⟩
      have hbw2 := below_eq (w := W0) (by (first | assumption | (repeat (first | exact Below.refl _ _ | assumption | refine Below.drew ?_ | (refine Below.alloc ?_ (by simp <;> omega) _))))) hw2
      obtain ⟨hc, hfz⟩ := bcell hbw2
      clear hw2
      go_wp2_with fail
      go_region_held3 (fun w' => w'.cell? ⟨w.heap.size, 0, none⟩ = some (.int .i64 s1) ∧ w'.cell? ⟨w.heap.size, 1, none⟩ = some (.bool neg1) ∧ w'.cell? ⟨w.heap.size, 2, none⟩ = some (.slice A1 l1.length c1) ∧ w'.cell? ⟨w.heap.size + 1, 0, none⟩ = some (.int .i64 s2) ∧ w'.cell? ⟨w.heap.size + 1, 1, none⟩ = some (.bool neg2) ∧ w'.cell? ⟨w.heap.size + 1, 2, none⟩ = some (.slice A2 l2.length c2)) ((first | exact ⟨(hc _ _ q0).trans k1, (hc _ _ q0).trans k2, (hc _ _ q0).trans k3, (hc _ _ q1).trans k4, (hc _ _ q1).trans k5, (hc _ _ q1).trans k6⟩ | exact ⟨k1, k2, k3, k4, k5, k6⟩)) (first | (go_at_call_of 148 (Value.int .i64 s1); refine ((unhide Z1) _).mono ?_; rintro e w' ⟨rfl, hw9⟩; subst hw9) | (go_at_call_of 148 (Value.int .i64 s2); refine ((unhide Z2) _).mono ?_; rintro e w' ⟨rfl, hw9⟩; subst hw9) | (go_at_call 151; refine ((unhide HM) _).mono ?_; rintro e w' ⟨rfl, hw9⟩; subst hw9))
      go_wp2_with fail
      refine ((unhide HWW) _).mono ?_
      rintro e w' ⟨s, neg', A', cap', l', rfl, hf, hb⟩
      have hbw := below_step (w := W0) (by (first | assumption | (repeat (first | exact Below.refl _ _ | assumption | refine Below.drew ?_ | (refine Below.alloc ?_ (by simp <;> omega) _))))) hb
      obtain ⟨hc, hfz⟩ := bcell hbw
      have hblk : w'.heap[w.heap.size + 1 + 1]? = some (.cells #[.int .i64 0, .bool false, .slice none 0 0] 61 (0, 0)) := (hbw.block _ q2).trans N3.out
      have HBLK := Lib.hid hblk
      have hb9 : Below w.heap.size w w' := below_step' hw0 hbw
      clear hblk
      go_wp2_with fail
      exact bodyPost_ret (v := .agg #[.int .i64 s, .bool neg', .slice A' l'.length cap']) (by simp [results, Tryz.results112, go_sem, hc, k7, k8, k9, q2]) rfl
        ⟨s, neg', A', cap', l', rfl, hf.upto HBLK.out (noWord3 _ _ _ _ _) (set3_grown _ _ _ _ _), hb9.grown (set3_grown _ _ _ _ _) hb9.size (fun k hk => by injection hk with hk; omega)⟩
    · have hb0 : ((hi' : Int) == 0) = false := beq_eq_false_iff_ne.2 (by omega)
      clear HW hdm hh hlo hhi hM hB1 hB2 hloB y1 y2 y3 y4 hsz1 hsz2 a1 a2
      go_enter Tryz.func112, Tryz.ntmps112
      go_wp2_with fail
      obtain ⟨n1, n2, n3, hsz, hw0⟩ := three_new w (.cells #[.int .i64 s1, .bool neg1, .slice A1 l1.length c1] 61) (.cells #[.int .i64 s2, .bool neg2, .slice A2 l2.length c2] 61) (.cells #[.int .i64 0, .bool false, .slice none 0 0] 61)
      generalize (((w.alloc (.cells #[.int .i64 s1, .bool neg1, .slice A1 l1.length c1] 61)).alloc (.cells #[.int .i64 s2, .bool neg2, .slice A2 l2.length c2] 61)).alloc (.cells #[.int .i64 0, .bool false, .slice none 0 0] 61)) = W0 at *
      have k1 := cells_of n1 0
      have k2 := cells_of n1 1
      have k3 := cells_of n1 2
      simp only [Array.getElem?_eq_getElem, three0, three1, three2] at k1 k2 k3
      have k4 := cells_of n2 0
      have k5 := cells_of n2 1
      have k6 := cells_of n2 2
      simp only [Array.getElem?_eq_getElem, three0, three1, three2] at k4 k5 k6
      have q0 : w.heap.size < W0.heap.size := by omega
      have q1 : w.heap.size + 1 < W0.heap.size := by omega
      have q2 : w.heap.size + 1 + 1 < W0.heap.size := by omega
      have k7 := cells_of n3 0
      have k8 := cells_of n3 1
      have k9 := cells_of n3 2
      simp only [Array.getElem?_eq_getElem, three0, three1, three2] at k7 k8 k9
      have f7 := unfrozen_of n3 0
      have f8 := unfrozen_of n3 1
      have f9 := unfrozen_of n3 2
      have N3 := Lib.hid n3
      clear n3
      clear n1 n2
      have G1 := (unhide HG1) W0 hw0; have G2 := (unhide HG2) W0 hw0; have B1 := (unhide HB1) W0 hw0; have B2 := (unhide HB2) W0 hw0
      go_region_held3 (fun w' => w'.cell? ⟨w.heap.size, 0, none⟩ = some (.int .i64 s1) ∧ w'.cell? ⟨w.heap.size, 1, none⟩ = some (.bool neg1) ∧ w'.cell? ⟨w.heap.size, 2, none⟩ = some (.slice A1 l1.length c1) ∧ w'.cell? ⟨w.heap.size + 1, 0, none⟩ = some (.int .i64 s2) ∧ w'.cell? ⟨w.heap.size + 1, 1, none⟩ = some (.bool neg2) ∧ w'.cell? ⟨w.heap.size + 1, 2, none⟩ = some (.slice A2 l2.length c2)) ((first | exact ⟨(hc _ _ q0).trans k1, (hc _ _ q0).trans k2, (hc _ _ q0).trans k3, (hc _ _ q1).trans k4, (hc _ _ q1).trans k5, (hc _ _ q1).trans k6⟩ | exact ⟨k1, k2, k3, k4, k5, k6⟩)) (first | (go_at_call_of 128 (Value.agg #[.int .i64 s1, .bool neg1, .slice A1 l1.length c1]); refine ((unhide G1) _ (by (first | assumption | (repeat (first | exact Below.refl _ _ | assumption | refine Below.drew ?_ | (refine Below.alloc ?_ (by simp <;> omega) _)))))).mono ?_; rintro e w' ⟨rfl, hb⟩; have hbw := below_step (w := W0) (by (first | assumption | (repeat (first | exact Below.refl _ _ | assumption | refine Below.drew ?_ | (refine Below.alloc ?_ (by simp <;> omega) _))))) hb; obtain ⟨hc, hfz⟩ := bcell hbw) | (go_at_call_of 128 (Value.agg #[.int .i64 s2, .bool neg2, .slice A2 l2.length c2]); refine ((unhide G2) _ (by (first | assumption | (repeat (first | exact Below.refl _ _ | assumption | refine Below.drew ?_ | (refine Below.alloc ?_ (by simp <;> omega) _)))))).mono ?_; rintro e w' ⟨rfl, hb⟩; have hbw := below_step (w := W0) (by (first | assumption | (repeat (first | exact Below.refl _ _ | assumption | refine Below.drew ?_ | (refine Below.alloc ?_ (by simp <;> omega) _))))) hb; obtain ⟨hc, hfz⟩ := bcell hbw))
      go_wp2_with fail
      refine ((unhide HS1) _).mono ?_
      rintro e w1 ⟨rfl, hw1⟩
      have hbw1 := below_eq (w := W0) (by (first | assumption | (repeat (first | exact Below.refl _ _ | assumption | refine Below.drew ?_ | (refine Below.alloc ?_ (by simp <;> omega) _))))) hw1
      obtain ⟨hc, hfz⟩ := bcell hbw1
      clear hw1
      go_wp2_with fail
      refine ((unhide HS2) _).mono ?_
      rintro e w2 ⟨rfl, hw2⟩
      have hbw2 := below_eq (w := W0) (by (first | assumption | (repeat (first | exact Below.refl _ _ | assumption | refine Below.drew ?_ | (refine Below.alloc ?_ (by simp <;> omega) _))))) hw2
      obtain ⟨hc, hfz⟩ := bcell hbw2
      clear hw2
      go_wp2_with fail
      go_region_held3 (fun w' => w'.cell? ⟨w.heap.size, 0, none⟩ = some (.int .i64 s1) ∧ w'.cell? ⟨w.heap.size, 1, none⟩ = some (.bool neg1) ∧ w'.cell? ⟨w.heap.size, 2, none⟩ = some (.slice A1 l1.length c1) ∧ w'.cell? ⟨w.heap.size + 1, 0, none⟩ = some (.int .i64 s2) ∧ w'.cell? ⟨w.heap.size + 1, 1, none⟩ = some (.bool neg2) ∧ w'.cell? ⟨w.heap.size + 1, 2, none⟩ = some (.slice A2 l2.length c2)) ((first | exact ⟨(hc _ _ q0).trans k1, (hc _ _ q0).trans k2, (hc _ _ q0).trans k3, (hc _ _ q1).trans k4, (hc _ _ q1).trans k5, (hc _ _ q1).trans k6⟩ | exact ⟨k1, k2, k3, k4, k5, k6⟩)) (first | (go_at_call_of 148 (Value.int .i64 s1); refine ((unhide Z1) _).mono ?_; rintro e w' ⟨rfl, hw9⟩; subst hw9) | (go_at_call_of 148 (Value.int .i64 s2); refine ((unhide Z2) _).mono ?_; rintro e w' ⟨rfl, hw9⟩; subst hw9) | (go_at_call 151; refine ((unhide HM) _).mono ?_; rintro e w' ⟨rfl, hw9⟩; subst hw9))
      go_wp2_with fail
      go_region_with (first | (go_at_call_of 153 (Value.agg #[.int .i64 s1, .bool neg1, .slice A1 l1.length c1]); refine ((unhide B1) _ (by (first | assumption | (repeat (first | exact Below.refl _ _ | assumption | refine Below.drew ?_ | (refine Below.alloc ?_ (by simp <;> omega) _)))))).mono ?_; rintro e w' ⟨A5, cap5, l5, rfl, hn5, hb⟩; have hbw := below_step (w := W0) (by (first | assumption | (repeat (first | exact Below.refl _ _ | assumption | refine Below.drew ?_ | (refine Below.alloc ?_ (by simp <;> omega) _))))) hb; obtain ⟨hc, hfz⟩ := bcell hbw) | (go_at_call_of 153 (Value.agg #[.int .i64 s2, .bool neg2, .slice A2 l2.length c2]); refine ((unhide B2) _ (by (first | assumption | (repeat (first | exact Below.refl _ _ | assumption | refine Below.drew ?_ | (refine Below.alloc ?_ (by simp <;> omega) _)))))).mono ?_; rintro e w' ⟨A6, cap6, l6, rfl, hn6, hb⟩; have hn5' := hn5.below hb; have hbw := below_step (w := W0) (by (first | assumption | (repeat (first | exact Below.refl _ _ | assumption | refine Below.drew ?_ | (refine Below.alloc ?_ (by simp <;> omega) _))))) hb; obtain ⟨hc, hfz⟩ := bcell hbw) | (go_at_call 154; refine (mul_any A5 A6 cap5 cap6 l5 l6 m1 m2 _ (by exact hn5') (by exact hn6) ((unhide HLEN) _ _ _ _ _ _ _ hn5' hn6)).mono ?_; rintro e w' ⟨A7, cap7, l7, rfl, hn7, hb⟩; have hbw := below_step (w := W0) (by (first | assumption | (repeat (first | exact Below.refl _ _ | assumption | refine Below.drew ?_ | (refine Below.alloc ?_ (by simp <;> omega) _))))) hb; obtain ⟨hc, hfz⟩ := bcell hbw) | (go_at_call 152; refine (signed_any ng A7 cap7 l7 (m1 * m2) _ (by exact hn7)).mono ?_; rw [← HZ.out]; rintro e w' ⟨s, neg', A', cap', l', rfl, hf, hb⟩; have hbw := below_step (w := W0) (by (first | assumption | (repeat (first | exact Below.refl _ _ | assumption | refine Below.drew ?_ | (refine Below.alloc ?_ (by simp <;> omega) _))))) hb; obtain ⟨hc, hfz⟩ := bcell hbw))
      all_goals
        have hblk : w'.heap[w.heap.size + 1 + 1]? = some (.cells #[.int .i64 0, .bool false, .slice none 0 0] 61 (0, 0)) := (hbw.block _ q2).trans N3.out
        have HBLK := Lib.hid hblk
        have hb9 : Below w.heap.size w w' := below_step' hw0 hbw
        clear hblk
        go_wp2_with fail
        exact bodyPost_ret (v := .agg #[.int .i64 s, .bool neg', .slice A' l'.length cap']) (by simp [results, Tryz.results112, go_sem, hc, k7, k8, k9, q2]) rfl
          ⟨s, neg', A', cap', l', rfl, hf.upto HBLK.out (noWord3 _ _ _ _ _) (set3_grown _ _ _ _ _), hb9.grown (set3_grown _ _ _ _ _) hb9.size (fun k hk => by injection hk with hk; omega)⟩
  · by_cases a1 : l1.length = 0
    · have a2 : ¬ l2.length = 0 := fun h => hs ⟨a1, h⟩
      rw [decide_eq_true a1] at HS1
      rw [decide_eq_false a2] at HS2
      clear hsz1 hsz2 hs a1 a2
      go_enter Tryz.func112, Tryz.ntmps112
      go_wp2_with fail
      obtain ⟨n1, n2, n3, hsz, hw0⟩ := three_new w (.cells #[.int .i64 s1, .bool neg1, .slice A1 l1.length c1] 61) (.cells #[.int .i64 s2, .bool neg2, .slice A2 l2.length c2] 61) (.cells #[.int .i64 0, .bool false, .slice none 0 0] 61)
      generalize (((w.alloc (.cells #[.int .i64 s1, .bool neg1, .slice A1 l1.length c1] 61)).alloc (.cells #[.int .i64 s2, .bool neg2, .slice A2 l2.length c2] 61)).alloc (.cells #[.int .i64 0, .bool false, .slice none 0 0] 61)) = W0 at *
      have k1 := cells_of n1 0
      have k2 := cells_of n1 1
      have k3 := cells_of n1 2
      simp only [Array.getElem?_eq_getElem, three0, three1, three2] at k1 k2 k3
      have k4 := cells_of n2 0
      have k5 := cells_of n2 1
      have k6 := cells_of n2 2
      simp only [Array.getElem?_eq_getElem, three0, three1, three2] at k4 k5 k6
      have q0 : w.heap.size < W0.heap.size := by omega
      have q1 : w.heap.size + 1 < W0.heap.size := by omega
      have q2 : w.heap.size + 1 + 1 < W0.heap.size := by omega
      have k7 := cells_of n3 0
      have k8 := cells_of n3 1
      have k9 := cells_of n3 2
      simp only [Array.getElem?_eq_getElem, three0, three1, three2] at k7 k8 k9
      have f7 := unfrozen_of n3 0
      have f8 := unfrozen_of n3 1
      have f9 := unfrozen_of n3 2
      have N3 := Lib.hid n3
      clear n3
      clear n1 n2
      have G1 := (unhide HG1) W0 hw0; have G2 := (unhide HG2) W0 hw0; have B1 := (unhide HB1) W0 hw0; have B2 := (unhide HB2) W0 hw0
      go_region_held3 (fun w' => w'.cell? ⟨w.heap.size, 0, none⟩ = some (.int .i64 s1) ∧ w'.cell? ⟨w.heap.size, 1, none⟩ = some (.bool neg1) ∧ w'.cell? ⟨w.heap.size, 2, none⟩ = some (.slice A1 l1.length c1) ∧ w'.cell? ⟨w.heap.size + 1, 0, none⟩ = some (.int .i64 s2) ∧ w'.cell? ⟨w.heap.size + 1, 1, none⟩ = some (.bool neg2) ∧ w'.cell? ⟨w.heap.size + 1, 2, none⟩ = some (.slice A2 l2.length c2)) ((first | exact ⟨(hc _ _ q0).trans k1, (hc _ _ q0).trans k2, (hc _ _ q0).trans k3, (hc _ _ q1).trans k4, (hc _ _ q1).trans k5, (hc _ _ q1).trans k6⟩ | exact ⟨k1, k2, k3, k4, k5, k6⟩)) (first | (go_at_call_of 128 (Value.agg #[.int .i64 s1, .bool neg1, .slice A1 l1.length c1]); refine ((unhide G1) _ (by (first | assumption | (repeat (first | exact Below.refl _ _ | assumption | refine Below.drew ?_ | (refine Below.alloc ?_ (by simp <;> omega) _)))))).mono ?_; rintro e w' ⟨rfl, hb⟩; have hbw := below_step (w := W0) (by (first | assumption | (repeat (first | exact Below.refl _ _ | assumption | refine Below.drew ?_ | (refine Below.alloc ?_ (by simp <;> omega) _))))) hb; obtain ⟨hc, hfz⟩ := bcell hbw) | (go_at_call_of 128 (Value.agg #[.int .i64 s2, .bool neg2, .slice A2 l2.length c2]); refine ((unhide G2) _ (by (first | assumption | (repeat (first | exact Below.refl _ _ | assumption | refine Below.drew ?_ | (refine Below.alloc ?_ (by simp <;> omega) _)))))).mono ?_; rintro e w' ⟨rfl, hb⟩; have hbw := below_step (w := W0) (by (first | assumption | (repeat (first | exact Below.refl _ _ | assumption | refine Below.drew ?_ | (refine Below.alloc ?_ (by simp <;> omega) _))))) hb; obtain ⟨hc, hfz⟩ := bcell hbw))
      go_wp2_with fail
      refine ((unhide HS1) _).mono ?_
      rintro e w1 ⟨rfl, hw1⟩
      have hbw1 := below_eq (w := W0) (by (first | assumption | (repeat (first | exact Below.refl _ _ | assumption | refine Below.drew ?_ | (refine Below.alloc ?_ (by simp <;> omega) _))))) hw1
      obtain ⟨hc, hfz⟩ := bcell hbw1
      clear hw1
      go_wp2_with fail
      refine ((unhide HS2) _).mono ?_
      rintro e w2 ⟨rfl, hw2⟩
      have hbw2 := below_eq (w := W0) (by (first | assumption | (repeat (first | exact Below.refl _ _ | assumption | refine Below.drew ?_ | (refine Below.alloc ?_ (by simp <;> omega) _))))) hw2
      obtain ⟨hc, hfz⟩ := bcell hbw2
      clear hw2
      go_wp2_with fail
      go_region_with (first | (go_at_call_of 153 (Value.agg #[.int .i64 s1, .bool neg1, .slice A1 l1.length c1]); refine ((unhide B1) _ (by (first | assumption | (repeat (first | exact Below.refl _ _ | assumption | refine Below.drew ?_ | (refine Below.alloc ?_ (by simp <;> omega) _)))))).mono ?_; rintro e w' ⟨A5, cap5, l5, rfl, hn5, hb⟩; have hbw := below_step (w := W0) (by (first | assumption | (repeat (first | exact Below.refl _ _ | assumption | refine Below.drew ?_ | (refine Below.alloc ?_ (by simp <;> omega) _))))) hb; obtain ⟨hc, hfz⟩ := bcell hbw) | (go_at_call_of 153 (Value.agg #[.int .i64 s2, .bool neg2, .slice A2 l2.length c2]); refine ((unhide B2) _ (by (first | assumption | (repeat (first | exact Below.refl _ _ | assumption | refine Below.drew ?_ | (refine Below.alloc ?_ (by simp <;> omega) _)))))).mono ?_; rintro e w' ⟨A6, cap6, l6, rfl, hn6, hb⟩; have hn5' := hn5.below hb; have hbw := below_step (w := W0) (by (first | assumption | (repeat (first | exact Below.refl _ _ | assumption | refine Below.drew ?_ | (refine Below.alloc ?_ (by simp <;> omega) _))))) hb; obtain ⟨hc, hfz⟩ := bcell hbw) | (go_at_call 154; refine (mul_any A5 A6 cap5 cap6 l5 l6 m1 m2 _ (by exact hn5') (by exact hn6) ((unhide HLEN) _ _ _ _ _ _ _ hn5' hn6)).mono ?_; rintro e w' ⟨A7, cap7, l7, rfl, hn7, hb⟩; have hbw := below_step (w := W0) (by (first | assumption | (repeat (first | exact Below.refl _ _ | assumption | refine Below.drew ?_ | (refine Below.alloc ?_ (by simp <;> omega) _))))) hb; obtain ⟨hc, hfz⟩ := bcell hbw) | (go_at_call 152; refine (signed_any ng A7 cap7 l7 (m1 * m2) _ (by exact hn7)).mono ?_; rw [← HZ.out]; rintro e w' ⟨s, neg', A', cap', l', rfl, hf, hb⟩; have hbw := below_step (w := W0) (by (first | assumption | (repeat (first | exact Below.refl _ _ | assumption | refine Below.drew ?_ | (refine Below.alloc ?_ (by simp <;> omega) _))))) hb; obtain ⟨hc, hfz⟩ := bcell hbw))
      all_goals
        have hblk : w'.heap[w.heap.size + 1 + 1]? = some (.cells #[.int .i64 0, .bool false, .slice none 0 0] 61 (0, 0)) := (hbw.block _ q2).trans N3.out
        have HBLK := Lib.hid hblk
        have hb9 : Below w.heap.size w w' := below_step' hw0 hbw
        clear hblk
        go_wp2_with fail
        exact bodyPost_ret (v := .agg #[.int .i64 s, .bool neg', .slice A' l'.length cap']) (by simp [results, Tryz.results112, go_sem, hc, k7, k8, k9, q2]) rfl
          ⟨s, neg', A', cap', l', rfl, hf.upto HBLK.out (noWord3 _ _ _ _ _) (set3_grown _ _ _ _ _), hb9.grown (set3_grown _ _ _ _ _) hb9.size (fun k hk => by injection hk with hk; omega)⟩
    · skip
      rw [decide_eq_false a1] at HS1
      clear hsz1 hsz2 hs a1
      go_enter Tryz.func112, Tryz.ntmps112
      go_wp2_with fail
      obtain ⟨n1, n2, n3, hsz, hw0⟩ := three_new w (.cells #[.int .i64 s1, .bool neg1, .slice A1 l1.length c1] 61) (.cells #[.int .i64 s2, .bool neg2, .slice A2 l2.length c2] 61) (.cells #[.int .i64 0, .bool false, .slice none 0 0] 61)
      generalize (((w.alloc (.cells #[.int .i64 s1, .bool neg1, .slice A1 l1.length c1] 61)).alloc (.cells #[.int .i64 s2, .bool neg2, .slice A2 l2.length c2] 61)).alloc (.cells #[.int .i64 0, .bool false, .slice none 0 0] 61)) = W0 at *
      have k1 := cells_of n1 0
      have k2 := cells_of n1 1
      have k3 := cells_of n1 2
      simp only [Array.getElem?_eq_getElem, three0, three1, three2] at k1 k2 k3
      have k4 := cells_of n2 0
      have k5 := cells_of n2 1
      have k6 := cells_of n2 2
      simp only [Array.getElem?_eq_getElem, three0, three1, three2] at k4 k5 k6
      have q0 : w.heap.size < W0.heap.size := by omega
      have q1 : w.heap.size + 1 < W0.heap.size := by omega
      have q2 : w.heap.size + 1 + 1 < W0.heap.size := by omega
      have k7 := cells_of n3 0
      have k8 := cells_of n3 1
      have k9 := cells_of n3 2
      simp only [Array.getElem?_eq_getElem, three0, three1, three2] at k7 k8 k9
      have f7 := unfrozen_of n3 0
      have f8 := unfrozen_of n3 1
      have f9 := unfrozen_of n3 2
      have N3 := Lib.hid n3
      clear n3
      clear n1 n2
      have G1 := (unhide HG1) W0 hw0; have G2 := (unhide HG2) W0 hw0; have B1 := (unhide HB1) W0 hw0; have B2 := (unhide HB2) W0 hw0
      go_region_held3 (fun w' => w'.cell? ⟨w.heap.size, 0, none⟩ = some (.int .i64 s1) ∧ w'.cell? ⟨w.heap.size, 1, none⟩ = some (.bool neg1) ∧ w'.cell? ⟨w.heap.size, 2, none⟩ = some (.slice A1 l1.length c1) ∧ w'.cell? ⟨w.heap.size + 1, 0, none⟩ = some (.int .i64 s2) ∧ w'.cell? ⟨w.heap.size + 1, 1, none⟩ = some (.bool neg2) ∧ w'.cell? ⟨w.heap.size + 1, 2, none⟩ = some (.slice A2 l2.length c2)) ((first | exact ⟨(hc _ _ q0).trans k1, (hc _ _ q0).trans k2, (hc _ _ q0).trans k3, (hc _ _ q1).trans k4, (hc _ _ q1).trans k5, (hc _ _ q1).trans k6⟩ | exact ⟨k1, k2, k3, k4, k5, k6⟩)) (first | (go_at_call_of 128 (Value.agg #[.int .i64 s1, .bool neg1, .slice A1 l1.length c1]); refine ((unhide G1) _ (by (first | assumption | (repeat (first | exact Below.refl _ _ | assumption | refine Below.drew ?_ | (refine Below.alloc ?_ (by simp <;> omega) _)))))).mono ?_; rintro e w' ⟨rfl, hb⟩; have hbw := below_step (w := W0) (by (first | assumption | (repeat (first | exact Below.refl _ _ | assumption | refine Below.drew ?_ | (refine Below.alloc ?_ (by simp <;> omega) _))))) hb; obtain ⟨hc, hfz⟩ := bcell hbw) | (go_at_call_of 128 (Value.agg #[.int .i64 s2, .bool neg2, .slice A2 l2.length c2]); refine ((unhide G2) _ (by (first | assumption | (repeat (first | exact Below.refl _ _ | assumption | refine Below.drew ?_ | (refine Below.alloc ?_ (by simp <;> omega) _)))))).mono ?_; rintro e w' ⟨rfl, hb⟩; have hbw := below_step (w := W0) (by (first | assumption | (repeat (first | exact Below.refl _ _ | assumption | refine Below.drew ?_ | (refine Below.alloc ?_ (by simp <;> omega) _))))) hb; obtain ⟨hc, hfz⟩ := bcell hbw))
      go_wp2_with fail
      refine ((unhide HS1) _).mono ?_
      rintro e w1 ⟨rfl, hw1⟩
      have hbw1 := below_eq (w := W0) (by (first | assumption | (repeat (first | exact Below.refl _ _ | assumption | refine Below.drew ?_ | (refine Below.alloc ?_ (by simp <;> omega) _))))) hw1
      obtain ⟨hc, hfz⟩ := bcell hbw1
      clear hw1
      go_wp2_with fail
      go_region_with (first | (go_at_call_of 153 (Value.agg #[.int .i64 s1, .bool neg1, .slice A1 l1.length c1]); refine ((unhide B1) _ (by (first | assumption | (repeat (first | exact Below.refl _ _ | assumption | refine Below.drew ?_ | (refine Below.alloc ?_ (by simp <;> omega) _)))))).mono ?_; rintro e w' ⟨A5, cap5, l5, rfl, hn5, hb⟩; have hbw := below_step (w := W0) (by (first | assumption | (repeat (first | exact Below.refl _ _ | assumption | refine Below.drew ?_ | (refine Below.alloc ?_ (by simp <;> omega) _))))) hb; obtain ⟨hc, hfz⟩ := bcell hbw) | (go_at_call_of 153 (Value.agg #[.int .i64 s2, .bool neg2, .slice A2 l2.length c2]); refine ((unhide B2) _ (by (first | assumption | (repeat (first | exact Below.refl _ _ | assumption | refine Below.drew ?_ | (refine Below.alloc ?_ (by simp <;> omega) _)))))).mono ?_; rintro e w' ⟨A6, cap6, l6, rfl, hn6, hb⟩; have hn5' := hn5.below hb; have hbw := below_step (w := W0) (by (first | assumption | (repeat (first | exact Below.refl _ _ | assumption | refine Below.drew ?_ | (refine Below.alloc ?_ (by simp <;> omega) _))))) hb; obtain ⟨hc, hfz⟩ := bcell hbw) | (go_at_call 154; refine (mul_any A5 A6 cap5 cap6 l5 l6 m1 m2 _ (by exact hn5') (by exact hn6) ((unhide HLEN) _ _ _ _ _ _ _ hn5' hn6)).mono ?_; rintro e w' ⟨A7, cap7, l7, rfl, hn7, hb⟩; have hbw := below_step (w := W0) (by (first | assumption | (repeat (first | exact Below.refl _ _ | assumption | refine Below.drew ?_ | (refine Below.alloc ?_ (by simp <;> omega) _))))) hb; obtain ⟨hc, hfz⟩ := bcell hbw) | (go_at_call 152; refine (signed_any ng A7 cap7 l7 (m1 * m2) _ (by exact hn7)).mono ?_; rw [← HZ.out]; rintro e w' ⟨s, neg', A', cap', l', rfl, hf, hb⟩; have hbw := below_step (w := W0) (by (first | assumption | (repeat (first | exact Below.refl _ _ | assumption | refine Below.drew ?_ | (refine Below.alloc ?_ (by simp <;> omega) _))))) hb; obtain ⟨hc, hfz⟩ := bcell hbw))
      all_goals
        have hblk : w'.heap[w.heap.size + 1 + 1]? = some (.cells #[.int .i64 0, .bool false, .slice none 0 0] 61 (0, 0)) := (hbw.block _ q2).trans N3.out
        have HBLK := Lib.hid hblk
        have hb9 : Below w.heap.size w w' := below_step' hw0 hbw
        clear hblk
        go_wp2_with fail
        exact bodyPost_ret (v := .agg #[.int .i64 s, .bool neg', .slice A' l'.length cap']) (by simp [results, Tryz.results112, go_sem, hc, k7, k8, k9, q2]) rfl
          ⟨s, neg', A', cap', l', rfl, hf.upto HBLK.out (noWord3 _ _ _ _ _) (set3_grown _ _ _ _ _), hb9.grown (set3_grown _ _ _ _ _) hb9.size (fun k hk => by injection hk with hk; omega)⟩

end Go.Proofs.YtpjgoogeokbaaaaGreatDoor
/- Blocks that hold whole numbers; calls of two whole numbers. -/
namespace Go.Proofs.YtpjgoogeokbaaaaGreatDoor
open Go.RowKit

/-- Block b is new beside Wp and has room for a whole number. -/
structure Fr (Wp W : World) (b : Nat) : Prop where
  old : Wp.heap.size ≤ b
  zero : W.heap[b]? = some (.cells #[.int .i64 0, .bool false, .slice none 0 0] 61 (0, 0))
theorem lt_of_block {W : World} {b : Nat} {o : Obj} (h : W.heap[b]? = some o) : b < W.heap.size := by
  rcases Nat.lt_or_ge b W.heap.size with hlt | hge
  · exact hlt
  · rw [Array.getElem?_eq_none hge] at h; cases h
theorem Fr.lt {Wp W : World} {b : Nat} (h : Fr Wp W b) : b < W.heap.size := lt_of_block h.zero
theorem Fr.drew {Wp W : World} {b : Nat} (h : Fr Wp W b) : Fr Wp W.drew b := ⟨h.old, h.zero⟩
theorem Fr.drewN {Wp W : World} {b : Nat} {n : Nat} (h : Fr Wp W b) : Fr Wp (W.drewN n) b := ⟨h.old, h.zero⟩
theorem Fr.below {Wp W w' : World} {b : Nat} (h : Fr Wp W b) (hb : Below W.heap.size W w') : Fr Wp w' b := ⟨h.old, (hb.block _ h.lt).trans h.zero⟩
theorem Fr.new {Wp W : World} {b : Nat} (hb : Below Wp.heap.size Wp W) (e : b = W.heap.size) : Fr Wp (W.alloc (.cells #[.int .i64 0, .bool false, .slice none 0 0] 61 (0, 0))) b := by
  subst e; exact ⟨hb.size, heap_alloc_new W _⟩
/-- Two such blocks. -/
structure Fr2 (Wp W : World) (b c : Nat) : Prop where
  one : Fr Wp W b
  two : Fr Wp W c
  ne : b ≠ c
theorem Fr2.drew {Wp W : World} {b c : Nat} (h : Fr2 Wp W b c) : Fr2 Wp W.drew b c := ⟨h.one.drew, h.two.drew, h.ne⟩
theorem Fr2.drewN {Wp W : World} {b c n : Nat} (h : Fr2 Wp W b c) : Fr2 Wp (W.drewN n) b c := ⟨h.one.drewN, h.two.drewN, h.ne⟩
theorem Fr2.below {Wp W w' : World} {b c : Nat} (h : Fr2 Wp W b c) (hb : Below W.heap.size W w') : Fr2 Wp w' b c := ⟨h.one.below hb, h.two.below hb, h.ne⟩
theorem Fr2.newR {Wp W : World} {b c : Nat} (h : Fr Wp W b) (e : c = W.heap.size) : Fr2 Wp (W.alloc (.cells #[.int .i64 0, .bool false, .slice none 0 0] 61 (0, 0))) b c := by
  have hl := h.lt
  have ho := h.old
  subst e
  exact ⟨⟨ho, (Below.heap_alloc W _ b hl).trans h.zero⟩, ⟨by omega, heap_alloc_new W _⟩, by omega⟩
theorem Fr2.newL {Wp W : World} {b c : Nat} (h : Fr Wp W c) (e : b = W.heap.size) : Fr2 Wp (W.alloc (.cells #[.int .i64 0, .bool false, .slice none 0 0] 61 (0, 0))) b c := by
  have hl := h.lt
  have ho := h.old
  subst e
  exact ⟨⟨by omega, heap_alloc_new W _⟩, ⟨ho, (Below.heap_alloc W _ c hl).trans h.zero⟩, by omega⟩

/-- Block b holds a whole number. -/
def BoxI (w : World) (b : Nat) (z : Int) : Prop := ∃ s neg A cap l, w.heap[b]? = some (.cells #[.int .i64 s, .bool neg, .slice A (List.length l) cap] 61 (0, 0)) ∧ IntF w s neg A cap l z
theorem BoxI.below {w w' : World} {b : Nat} {z : Int} (h : BoxI w b z) (hb : Below w.heap.size w w') : BoxI w' b z := by
  obtain ⟨s, neg, A, cap, l, h1, h2⟩ := h
  exact ⟨s, neg, A, cap, l, (hb.block _ (lt_of_block h1)).trans h1, h2.below hb⟩
theorem set3_block {W : World} {b : Nat} {a0 a1 a2 u0 u1 u2 : Value} {T : TypeId} (h : W.heap[b]? = some (.cells #[a0, a1, a2] T (0, 0))) : (((W.setCell ⟨b, 0, none⟩ u0).setCell ⟨b, 1, none⟩ u1).setCell ⟨b, 2, none⟩ u2).heap[b]? = some (.cells #[u0, u1, u2] T (0, 0)) := by
  simp [World.setCell, Array.getElem?_modify, h]
theorem BoxI.new {W : World} {b : Nat} {s1 : Int} {neg1 : Bool} {A1 : Option Addr} {c1 : Nat} {l1 : List Nat} {z1 : Int} (h1 : IntF W s1 neg1 A1 c1 l1 z1) (e : b = W.heap.size) : BoxI (W.alloc (.cells #[.int .i64 s1, .bool neg1, .slice A1 l1.length c1] 61)) b z1 := by
  subst e; exact ⟨s1, neg1, A1, c1, l1, heap_alloc_new W _, h1.below ((Below.refl _ _).alloc (Nat.le_refl _) _)⟩
theorem BoxI.alloc {W : World} {b : Nat} {z : Int} {o : Obj} (h : BoxI W b z) : BoxI (W.alloc o) b z := h.below ((Below.refl _ _).alloc (Nat.le_refl _) _)
theorem IntF.alloc {W : World} {o : Obj} {s1 : Int} {neg1 : Bool} {A1 : Option Addr} {c1 : Nat} {l1 : List Nat} {z1 : Int} (h1 : IntF W s1 neg1 A1 c1 l1 z1) : IntF (W.alloc o) s1 neg1 A1 c1 l1 z1 := h1.below ((Below.refl _ _).alloc (Nat.le_refl _) _)
theorem Fr.alloc {Wp W : World} {b : Nat} {o : Obj} (h : Fr Wp W b) : Fr Wp (W.alloc o) b := ⟨h.old, (Below.heap_alloc W _ b h.lt).trans h.zero⟩
theorem Fr.facts {Wp W : World} {b : Nat} (h : Fr Wp W b) : (W.cell? ⟨b, 0, none⟩ = some (.int .i64 0) ∧ W.cell? ⟨b, 1, none⟩ = some (.bool false) ∧ W.cell? ⟨b, 2, none⟩ = some (.slice none 0 0)) ∧
    (W.frozen? ⟨b, 0, none⟩ = false ∧ W.frozen? ⟨b, 1, none⟩ = false ∧ W.frozen? ⟨b, 2, none⟩ = false) ∧
    ((∀ o, (W.alloc o).cell? ⟨b, 0, none⟩ = some (.int .i64 0)) ∧ (∀ o, (W.alloc o).cell? ⟨b, 1, none⟩ = some (.bool false)) ∧ (∀ o, (W.alloc o).cell? ⟨b, 2, none⟩ = some (.slice none 0 0))) ∧
    ((∀ o, (W.alloc o).frozen? ⟨b, 0, none⟩ = false) ∧ (∀ o, (W.alloc o).frozen? ⟨b, 1, none⟩ = false) ∧ (∀ o, (W.alloc o).frozen? ⟨b, 2, none⟩ = false)) ∧
    ¬ (b = W.heap.size) ∧ ¬ (W.heap.size = b) :=
  ⟨⟨cells_of h.zero 0, cells_of h.zero 1, cells_of h.zero 2⟩, ⟨unfrozen_of h.zero 0, unfrozen_of h.zero 1, unfrozen_of h.zero 2⟩,
   ⟨fun o => cells_of (h.alloc (o := o)).zero 0, fun o => cells_of (h.alloc (o := o)).zero 1, fun o => cells_of (h.alloc (o := o)).zero 2⟩,
   ⟨fun o => unfrozen_of (h.alloc (o := o)).zero 0, fun o => unfrozen_of (h.alloc (o := o)).zero 1, fun o => unfrozen_of (h.alloc (o := o)).zero 2⟩, by have := h.lt; omega, by have := h.lt; omega⟩
theorem put_one {Wp W : World} {b : Nat} {s1 : Int} {neg1 : Bool} {A1 : Option Addr} {c1 : Nat} {l1 : List Nat} {z1 : Int} (hf : Fr Wp W b) (h1 : IntF W s1 neg1 A1 c1 l1 z1) (hb : Below Wp.heap.size Wp W) :
    BoxI (((W.setCell ⟨b, 0, none⟩ (.int .i64 s1)).setCell ⟨b, 1, none⟩ (.bool neg1)).setCell ⟨b, 2, none⟩ (.slice A1 l1.length c1)) b z1 ∧ Below Wp.heap.size Wp (((W.setCell ⟨b, 0, none⟩ (.int .i64 s1)).setCell ⟨b, 1, none⟩ (.bool neg1)).setCell ⟨b, 2, none⟩ (.slice A1 l1.length c1)) ∧ Wp.heap.size ≤ b :=
  ⟨⟨s1, neg1, A1, c1, l1, set3_block hf.zero, h1.upto hf.zero (noWord3 _ _ _ _ _) (set3_grown _ _ _ _ _)⟩, hb.grown (set3_grown _ _ _ _ _) hb.size (fun k hk => by injection hk with hk; have := hf.old; omega), hf.old⟩
theorem put_n {Wp W : World} {b : Nat} {s1 : Int} {neg1 : Bool} {A1 : Option Addr} {c1 : Nat} {l1 : List Nat} {z1 : Int} (h1 : IntF W s1 neg1 A1 c1 l1 z1) (hb : Below Wp.heap.size Wp W) (e : b = W.heap.size) :
    BoxI (W.alloc (.cells #[.int .i64 s1, .bool neg1, .slice A1 l1.length c1] 61)) b z1 ∧ Below Wp.heap.size Wp (W.alloc (.cells #[.int .i64 s1, .bool neg1, .slice A1 l1.length c1] 61)) ∧ Wp.heap.size ≤ b :=
  ⟨BoxI.new h1 e, hb.alloc hb.size _, by have := hb.size; omega⟩
theorem put_two {Wp W : World} {b c : Nat} {s1 : Int} {neg1 : Bool} {A1 : Option Addr} {c1 : Nat} {l1 : List Nat} {z1 : Int} {s2 : Int} {neg2 : Bool} {A2 : Option Addr} {c2 : Nat} {l2 : List Nat} {z2 : Int} (hf : Fr2 Wp W b c) (h1 : IntF W s1 neg1 A1 c1 l1 z1) (h2 : IntF W s2 neg2 A2 c2 l2 z2) (hb : Below Wp.heap.size Wp W) :
    BoxI ((((((W.setCell ⟨b, 0, none⟩ (.int .i64 s1)).setCell ⟨b, 1, none⟩ (.bool neg1)).setCell ⟨b, 2, none⟩ (.slice A1 l1.length c1)).setCell ⟨c, 0, none⟩ (.int .i64 s2)).setCell ⟨c, 1, none⟩ (.bool neg2)).setCell ⟨c, 2, none⟩ (.slice A2 l2.length c2)) b z1 ∧ BoxI ((((((W.setCell ⟨b, 0, none⟩ (.int .i64 s1)).setCell ⟨b, 1, none⟩ (.bool neg1)).setCell ⟨b, 2, none⟩ (.slice A1 l1.length c1)).setCell ⟨c, 0, none⟩ (.int .i64 s2)).setCell ⟨c, 1, none⟩ (.bool neg2)).setCell ⟨c, 2, none⟩ (.slice A2 l2.length c2)) c z2 ∧ Below Wp.heap.size Wp ((((((W.setCell ⟨b, 0, none⟩ (.int .i64 s1)).setCell ⟨b, 1, none⟩ (.bool neg1)).setCell ⟨b, 2, none⟩ (.slice A1 l1.length c1)).setCell ⟨c, 0, none⟩ (.int .i64 s2)).setCell ⟨c, 1, none⟩ (.bool neg2)).setCell ⟨c, 2, none⟩ (.slice A2 l2.length c2)) ∧ Wp.heap.size ≤ b ∧ Wp.heap.size ≤ c := by
  have g1 := set3_grown W b (.int .i64 s1) (.bool neg1) (.slice A1 l1.length c1)
  have k2 := h2.upto hf.one.zero (noWord3 _ _ _ _ _) g1
  have kc := (g1.block c hf.two.lt (fun e => hf.ne (by injection e with e; exact e.symm))).trans hf.two.zero
  have kb := (put_one hf.one h1 hb)
  have ks := kb.2.1.size
  obtain ⟨⟨s, neg, A, cap, l, e1, e2⟩, kb2, _⟩ := kb
  have g2 := set3_grown (((W.setCell ⟨b, 0, none⟩ (.int .i64 s1)).setCell ⟨b, 1, none⟩ (.bool neg1)).setCell ⟨b, 2, none⟩ (.slice A1 l1.length c1)) c (.int .i64 s2) (.bool neg2) (.slice A2 l2.length c2)
  exact ⟨⟨s, neg, A, cap, l, (g2.block b (lt_of_block e1) (fun e => hf.ne (by injection e))).trans e1, e2.upto kc (noWord3 _ _ _ _ _) g2⟩,
    ⟨s2, neg2, A2, c2, l2, set3_block kc, k2.upto kc (noWord3 _ _ _ _ _) g2⟩, kb2.grown g2 ks (fun k hk => by injection hk with hk; have := hf.two.old; omega), hf.one.old, hf.two.old⟩
theorem put_nn {Wp W : World} {b c : Nat} {s1 : Int} {neg1 : Bool} {A1 : Option Addr} {c1 : Nat} {l1 : List Nat} {z1 : Int} {s2 : Int} {neg2 : Bool} {A2 : Option Addr} {c2 : Nat} {l2 : List Nat} {z2 : Int} (h1 : IntF W s1 neg1 A1 c1 l1 z1) (h2 : IntF W s2 neg2 A2 c2 l2 z2) (hb : Below Wp.heap.size Wp W) (eb : b = W.heap.size) (ec : c = W.heap.size + 1) :
    BoxI ((W.alloc (.cells #[.int .i64 s1, .bool neg1, .slice A1 l1.length c1] 61)).alloc (.cells #[.int .i64 s2, .bool neg2, .slice A2 l2.length c2] 61)) b z1 ∧ BoxI ((W.alloc (.cells #[.int .i64 s1, .bool neg1, .slice A1 l1.length c1] 61)).alloc (.cells #[.int .i64 s2, .bool neg2, .slice A2 l2.length c2] 61)) c z2 ∧ Below Wp.heap.size Wp ((W.alloc (.cells #[.int .i64 s1, .bool neg1, .slice A1 l1.length c1] 61)).alloc (.cells #[.int .i64 s2, .bool neg2, .slice A2 l2.length c2] 61)) ∧ Wp.heap.size ≤ b ∧ Wp.heap.size ≤ c :=
  ⟨(BoxI.new h1 eb).alloc, BoxI.new h2.alloc (by rw [ec, World.size_alloc]), (hb.alloc hb.size _).alloc (hb.alloc hb.size _).size _, by have := hb.size; omega, by have := hb.size; omega⟩
theorem put_mm {Wp W : World} {b c : Nat} {s1 : Int} {neg1 : Bool} {A1 : Option Addr} {c1 : Nat} {l1 : List Nat} {z1 : Int} {s2 : Int} {neg2 : Bool} {A2 : Option Addr} {c2 : Nat} {l2 : List Nat} {z2 : Int} (h1 : IntF W s1 neg1 A1 c1 l1 z1) (h2 : IntF W s2 neg2 A2 c2 l2 z2) (hb : Below Wp.heap.size Wp W) (ec : c = W.heap.size) (eb : b = W.heap.size + 1) :
    BoxI ((W.alloc (.cells #[.int .i64 s2, .bool neg2, .slice A2 l2.length c2] 61)).alloc (.cells #[.int .i64 s1, .bool neg1, .slice A1 l1.length c1] 61)) b z1 ∧ BoxI ((W.alloc (.cells #[.int .i64 s2, .bool neg2, .slice A2 l2.length c2] 61)).alloc (.cells #[.int .i64 s1, .bool neg1, .slice A1 l1.length c1] 61)) c z2 ∧ Below Wp.heap.size Wp ((W.alloc (.cells #[.int .i64 s2, .bool neg2, .slice A2 l2.length c2] 61)).alloc (.cells #[.int .i64 s1, .bool neg1, .slice A1 l1.length c1] 61)) ∧ Wp.heap.size ≤ b ∧ Wp.heap.size ≤ c := by
  obtain ⟨x1, x2, x3, x4, x5⟩ := put_nn h2 h1 hb ec eb
  exact ⟨x2, x1, x3, x5, x4⟩
theorem put_ns {Wp W : World} {b c : Nat} {s1 : Int} {neg1 : Bool} {A1 : Option Addr} {c1 : Nat} {l1 : List Nat} {z1 : Int} {s2 : Int} {neg2 : Bool} {A2 : Option Addr} {c2 : Nat} {l2 : List Nat} {z2 : Int} (hf : Fr Wp W c) (h1 : IntF W s1 neg1 A1 c1 l1 z1) (h2 : IntF W s2 neg2 A2 c2 l2 z2) (hb : Below Wp.heap.size Wp W) (eb : b = W.heap.size) :
    BoxI ((((W.alloc (.cells #[.int .i64 s1, .bool neg1, .slice A1 l1.length c1] 61)).setCell ⟨c, 0, none⟩ (.int .i64 s2)).setCell ⟨c, 1, none⟩ (.bool neg2)).setCell ⟨c, 2, none⟩ (.slice A2 l2.length c2)) b z1 ∧ BoxI ((((W.alloc (.cells #[.int .i64 s1, .bool neg1, .slice A1 l1.length c1] 61)).setCell ⟨c, 0, none⟩ (.int .i64 s2)).setCell ⟨c, 1, none⟩ (.bool neg2)).setCell ⟨c, 2, none⟩ (.slice A2 l2.length c2)) c z2 ∧ Below Wp.heap.size Wp ((((W.alloc (.cells #[.int .i64 s1, .bool neg1, .slice A1 l1.length c1] 61)).setCell ⟨c, 0, none⟩ (.int .i64 s2)).setCell ⟨c, 1, none⟩ (.bool neg2)).setCell ⟨c, 2, none⟩ (.slice A2 l2.length c2)) ∧ Wp.heap.size ≤ b ∧ Wp.heap.size ≤ c := by
  have hl := hf.lt
  have hx := put_one hf.alloc h2.alloc (hb.alloc hb.size (.cells #[.int .i64 s1, .bool neg1, .slice A1 l1.length c1] 61))
  have hn := (BoxI.new h1 eb)
  obtain ⟨s, neg, A, cap, l, e1, e2⟩ := hn
  have g2 := set3_grown (W.alloc (.cells #[.int .i64 s1, .bool neg1, .slice A1 l1.length c1] 61)) c (.int .i64 s2) (.bool neg2) (.slice A2 l2.length c2)
  exact ⟨⟨s, neg, A, cap, l, (g2.block b (lt_of_block e1) (fun e => by injection e with e; omega)).trans e1, e2.upto (hf.alloc (o := _)).zero (noWord3 _ _ _ _ _) g2⟩, hx.1, hx.2.1, by have := hb.size; omega, hx.2.2⟩
theorem below_alloc {W W' : World} (h : Below W.heap.size W W') (o : Obj) : Below W.heap.size W (W'.alloc o) := h.alloc h.size o
theorem keep_cell {W W' : World} {b o : Nat} {v : Value} (hB : Below W.heap.size W W') (q : b < W.heap.size) (k : W.cell? ⟨b, o, none⟩ = some v) : W'.cell? ⟨b, o, none⟩ = some v := (hB.cell (p := ⟨b, o, none⟩) q).trans k
theorem below_set {W W' : World} {g : Nat} (hB : Below W.heap.size W W') (hg : W.heap.size ≤ g) (o : Nat) (u : Value) : Below W.heap.size W (W'.setCell ⟨g, o, none⟩ u) :=
  hB.grown (grown_setCell (grown_refl _ (some g)) o u) hB.size (fun k hk => by injection hk with hk; omega)
/-- Function F makes of the whole numbers a and b the whole number c, in every world that holds what w holds. -/
def Op2 (w : World) (F : Nat) (a b c : Int) : Prop := ∀ (s1 : Int) (neg1 : Bool) (A1 : Option Addr) (c1 : Nat) (l1 : List Nat) (s2 : Int) (neg2 : Bool) (A2 : Option Addr) (c2 : Nat) (l2 : List Nat) (W : World), Below w.heap.size w W → IntF W s1 neg1 A1 c1 l1 a → IntF W s2 neg2 A2 c2 l2 b → Calls Tryz.prog F #[(Value.agg #[.int .i64 s1, .bool neg1, .slice A1 l1.length c1]), (Value.agg #[.int .i64 s2, .bool neg2, .slice A2 l2.length c2])] W fun e w' => IntR W c e w'
/-- The fact that a number's words are few, from its size. -/
theorem op_gcd {w : World} {a b c : Int} {K : Nat} (hT : Tab w) (ha : Wd.Sz B64 K a) (hb : Wd.Sz B64 K b) (hK : K ≤ lim) (e : c = ((a.natAbs.gcd b.natAbs : Nat) : Int)) : Op2 w 124 a b c := by
  subst e
  exact fun s1 neg1 A1 c1 l1 s2 neg2 A2 c2 l2 W hW f1 f2 => igcd_any s1 neg1 A1 c1 l1 a s2 neg2 A2 c2 l2 b W f1 f2 (f1.fit ha hK) (f2.fit hb hK) (hT.below hW)
theorem op_quo {w : World} {a b c : Int} {K : Nat} (ha : Wd.Sz B64 K a) (hb : Wd.Sz B64 K b) (hK : K ≤ lim) (h0 : b ≠ 0) (e : c = a.tdiv b) : Op2 w 125 a b c := by
  subst e
  exact fun s1 neg1 A1 c1 l1 s2 neg2 A2 c2 l2 W hW f1 f2 => iquo_any s1 neg1 A1 c1 l1 a s2 neg2 A2 c2 l2 b W f1 f2 (f1.fit ha hK) (f2.fit hb hK) h0
theorem op_mul {w : World} {a b c : Int} {K : Nat} (ha : Wd.Sz B64 K a) (hb : Wd.Sz B64 K b) (hK : K ≤ lim) (e : c = a * b) : Op2 w 112 a b c := by
  subst e
  exact fun s1 neg1 A1 c1 l1 s2 neg2 A2 c2 l2 W hW f1 f2 => imul_any s1 neg1 A1 c1 l1 a s2 neg2 A2 c2 l2 b W f1 f2 (f1.fit ha hK) (f2.fit hb hK)
theorem op_add {w : World} {a b c : Int} {K : Nat} (ha : Wd.Sz B64 K a) (hb : Wd.Sz B64 K b) (hK : K ≤ lim) (e : c = a + b) : Op2 w 127 a b c := by
  subst e
  exact fun s1 neg1 A1 c1 l1 s2 neg2 A2 c2 l2 W hW f1 f2 => iadd_any s1 neg1 A1 c1 l1 a s2 neg2 A2 c2 l2 b W f1 f2 (f1.fit ha hK) (f2.fit hb hK)

end Go.Proofs.YtpjgoogeokbaaaaGreatDoor
/- The walk through the sum of two quotients. -/
namespace Go.Proofs.YtpjgoogeokbaaaaGreatDoor
open Go.RowKit

set_option maxRecDepth 100000 in
set_option maxHeartbeats 16000000 in
theorem radd_walk (s1 : Int) (neg1 : Bool) (A1 : Option Addr) (c1 : Nat) (l1 : List Nat) (s2 : Int) (neg2 : Bool) (A2 : Option Addr) (c2 : Nat) (l2 : List Nat) (s3 : Int) (neg3 : Bool) (A3 : Option Addr) (c3 : Nat) (l3 : List Nat) (s4 : Int) (neg4 : Bool) (A4 : Option Addr) (c4 : Nat) (l4 : List Nat) (z1 z2 z3 z4 g xd yd m1 m2 n h r1 e1 r2 : Int) (w : World) (f1 : IntF w s1 neg1 A1 c1 l1 z1) (f2 : IntF w s2 neg2 A2 c2 l2 z2) (f3 : IntF w s3 neg3 A3 c3 l3 z3) (f4 : IntF w s4 neg4 A4 c4 l4 z4)
    (hg : Op2 w 124 z2 z4 g) (hxd : Op2 w 125 z2 g xd) (hyd : Op2 w 125 z4 g yd) (hm1 : Op2 w 112 z1 yd m1) (hm2 : Op2 w 112 z3 xd m2) (hn : Op2 w 127 m1 m2 n) (hh : Op2 w 124 g n h) (hr1 : Op2 w 125 n h r1) (he : Op2 w 125 z4 h e1) (hr2 : Op2 w 112 xd e1 r2) :
    Calls Tryz.prog 82 #[(Value.agg #[.int .i64 s1, .bool neg1, .slice A1 l1.length c1, .int .i64 s2, .bool neg2, .slice A2 l2.length c2]), (Value.agg #[.int .i64 s3, .bool neg3, .slice A3 l3.length c3, .int .i64 s4, .bool neg4, .slice A4 l4.length c4])] w fun e w' => PairR w r1 r2 e w' := by
  have H1 := hide f1
  have H2 := hide f2
  have H3 := hide f3
  have H4 := hide f4
  clear f1 f2 f3 f4
  have HG := hide hg
  have HXD := hide hxd
  have HYD := hide hyd
  have HM1 := hide hm1
  have HM2 := hide hm2
  have HN := hide hn
  have HH := hide hh
  have HR1 := hide hr1
  have HE := hide he
  have HR2 := hide hr2
  clear hg hxd hyd hm1 hm2 hn hh hr1 he hr2
  go_enter Tryz.func82, Tryz.ntmps82
  go_upto_region 1 with fail
  obtain ⟨n0, n1, n2, hsz, hw0⟩ := three_new w (.cells #[.int .i64 s1, .bool neg1, .slice A1 l1.length c1, .int .i64 s2, .bool neg2, .slice A2 l2.length c2] 63) (.cells #[.int .i64 s3, .bool neg3, .slice A3 l3.length c3, .int .i64 s4, .bool neg4, .slice A4 l4.length c4] 63) (.cells #[.int .i64 0, .bool false, .slice none 0 0, .int .i64 0, .bool false, .slice none 0 0] 63)
  generalize (((w.alloc (.cells #[.int .i64 s1, .bool neg1, .slice A1 l1.length c1, .int .i64 s2, .bool neg2, .slice A2 l2.length c2] 63)).alloc (.cells #[.int .i64 s3, .bool neg3, .slice A3 l3.length c3, .int .i64 s4, .bool neg4, .slice A4 l4.length c4] 63)).alloc (.cells #[.int .i64 0, .bool false, .slice none 0 0, .int .i64 0, .bool false, .slice none 0 0] 63)) = W0 at *
  have k0_0 : W0.cell? ⟨w.heap.size, 0, none⟩ = some (.int .i64 s1) := cells_of n0 0
  have k0_1 : W0.cell? ⟨w.heap.size, 1, none⟩ = some (.bool neg1) := cells_of n0 1
  have k0_2 : W0.cell? ⟨w.heap.size, 2, none⟩ = some (.slice A1 l1.length c1) := cells_of n0 2
  have k0_3 : W0.cell? ⟨w.heap.size, 3, none⟩ = some (.int .i64 s2) := cells_of n0 3
  have k0_4 : W0.cell? ⟨w.heap.size, 4, none⟩ = some (.bool neg2) := cells_of n0 4
  have k0_5 : W0.cell? ⟨w.heap.size, 5, none⟩ = some (.slice A2 l2.length c2) := cells_of n0 5
  have q0 : w.heap.size < W0.heap.size := by omega
  have k1_0 : W0.cell? ⟨w.heap.size + 1, 0, none⟩ = some (.int .i64 s3) := cells_of n1 0
  have k1_1 : W0.cell? ⟨w.heap.size + 1, 1, none⟩ = some (.bool neg3) := cells_of n1 1
  have k1_2 : W0.cell? ⟨w.heap.size + 1, 2, none⟩ = some (.slice A3 l3.length c3) := cells_of n1 2
  have k1_3 : W0.cell? ⟨w.heap.size + 1, 3, none⟩ = some (.int .i64 s4) := cells_of n1 3
  have k1_4 : W0.cell? ⟨w.heap.size + 1, 4, none⟩ = some (.bool neg4) := cells_of n1 4
  have k1_5 : W0.cell? ⟨w.heap.size + 1, 5, none⟩ = some (.slice A4 l4.length c4) := cells_of n1 5
  have q1 : w.heap.size + 1 < W0.heap.size := by omega
  have k2_0 : W0.cell? ⟨w.heap.size + 1 + 1, 0, none⟩ = some (.int .i64 0) := cells_of n2 0
  have k2_1 : W0.cell? ⟨w.heap.size + 1 + 1, 1, none⟩ = some (.bool false) := cells_of n2 1
  have k2_2 : W0.cell? ⟨w.heap.size + 1 + 1, 2, none⟩ = some (.slice none 0 0) := cells_of n2 2
  have k2_3 : W0.cell? ⟨w.heap.size + 1 + 1, 3, none⟩ = some (.int .i64 0) := cells_of n2 3
  have k2_4 : W0.cell? ⟨w.heap.size + 1 + 1, 4, none⟩ = some (.bool false) := cells_of n2 4
  have k2_5 : W0.cell? ⟨w.heap.size + 1 + 1, 5, none⟩ = some (.slice none 0 0) := cells_of n2 5
  have q2 : w.heap.size + 1 + 1 < W0.heap.size := by omega
  have f2_0 := unfrozen_of n2 0
  have f2_1 := unfrozen_of n2 1
  have f2_2 := unfrozen_of n2 2
  have f2_3 := unfrozen_of n2 3
  have f2_4 := unfrozen_of n2 4
  have f2_5 := unfrozen_of n2 5
  have NR := Lib.hid n2
  clear hsz n0 n1 n2
  replace H1 := hide ((unhide H1).below hw0)
  replace H2 := hide ((unhide H2).below hw0)
  replace H3 := hide ((unhide H3).below hw0)
  replace H4 := hide ((unhide H4).below hw0)
  go_upto_region 1 with fail
  go_cut [5] (fun s5_ wx => ∃ b5 : Nat, s5_ = .pointer (some ⟨b5, 0, none⟩) ∧ BoxI wx b5 g ∧ Below W0.heap.size W0 wx ∧ W0.heap.size ≤ b5)
  case first =>
    go_wp2_with fail
    (go_at_call_of 124 (Value.agg #[.int .i64 s2, .bool neg2, .slice A2 l2.length c2]); refine ((unhide HG) s2 neg2 A2 c2 l2 s4 neg4 A4 c4 l4 _ (below_step' hw0 (by (repeat (first | with_reducible exact Below.refl _ _ | with_reducible assumption | with_reducible refine Below.drew ?_ | with_reducible refine below_alloc ?_ _)))) (IntF.below (unhide H2) (by (repeat (first | with_reducible exact Below.refl _ _ | with_reducible assumption | with_reducible refine Below.drew ?_ | with_reducible refine below_alloc ?_ _)))) (IntF.below (unhide H4) (by (repeat (first | with_reducible exact Below.refl _ _ | with_reducible assumption | with_reducible refine Below.drew ?_ | with_reducible refine below_alloc ?_ _))))).mono ?_; rintro e w' ⟨s5, neg5, A5, c5, l5, rfl, hf5, hb5⟩; have hbw := below_step (w := W0) (by (repeat (first | with_reducible exact Below.refl _ _ | with_reducible assumption | with_reducible refine Below.drew ?_ | with_reducible refine below_alloc ?_ _))) hb5; have hsw := hbw.size; obtain ⟨hc, hfz⟩ := bcell hbw)
    (go_wp2_with fail; go_meet; refine ⟨_, rfl, ?_⟩; first | with_reducible exact put_one (by assumption) hf5 hbw | with_reducible exact put_n hf5 hbw rfl)
  case rest =>
    revert hcut
    generalize wc = W1
    intro hcut
    obtain ⟨b5, rfl, B5, hbx, ob5⟩ := hcut
    obtain ⟨hc, hfz⟩ := bcell hbx
    replace k0_0 := (hc _ _ q0).trans k0_0
    replace k0_1 := (hc _ _ q0).trans k0_1
    replace k0_2 := (hc _ _ q0).trans k0_2
    replace k0_3 := (hc _ _ q0).trans k0_3
    replace k0_4 := (hc _ _ q0).trans k0_4
    replace k0_5 := (hc _ _ q0).trans k0_5
    replace q0 := Nat.lt_of_lt_of_le q0 hbx.size
    replace k1_0 := (hc _ _ q1).trans k1_0
    replace k1_1 := (hc _ _ q1).trans k1_1
    replace k1_2 := (hc _ _ q1).trans k1_2
    replace k1_3 := (hc _ _ q1).trans k1_3
    replace k1_4 := (hc _ _ q1).trans k1_4
    replace k1_5 := (hc _ _ q1).trans k1_5
    replace q1 := Nat.lt_of_lt_of_le q1 hbx.size
    replace ob5 : w.heap.size + 1 + 1 < b5 := Nat.lt_of_lt_of_le q2 ob5
    replace k2_0 := (hc _ _ q2).trans k2_0
    replace f2_0 := (hfz _ _ q2).trans f2_0
    replace k2_1 := (hc _ _ q2).trans k2_1
    replace f2_1 := (hfz _ _ q2).trans f2_1
    replace k2_2 := (hc _ _ q2).trans k2_2
    replace f2_2 := (hfz _ _ q2).trans f2_2
    replace k2_3 := (hc _ _ q2).trans k2_3
    replace f2_3 := (hfz _ _ q2).trans f2_3
    replace k2_4 := (hc _ _ q2).trans k2_4
    replace f2_4 := (hfz _ _ q2).trans f2_4
    replace k2_5 := (hc _ _ q2).trans k2_5
    replace f2_5 := (hfz _ _ q2).trans f2_5
    replace NR := Lib.hid ((hbx.block _ q2).trans NR.out)
    replace q2 := Nat.lt_of_lt_of_le q2 hbx.size
    replace hw0 := below_step' hw0 hbx
    replace H1 := hide ((unhide H1).below hbx)
    replace H2 := hide ((unhide H2).below hbx)
    replace H3 := hide ((unhide H3).below hbx)
    replace H4 := hide ((unhide H4).below hbx)
    obtain ⟨s5, neg5, A5, c5, l5, n5, H5⟩ := B5
    have kb5_0 : W1.cell? ⟨b5, 0, none⟩ = some (.int .i64 s5) := cells_of n5 0
    have kb5_1 : W1.cell? ⟨b5, 1, none⟩ = some (.bool neg5) := cells_of n5 1
    have kb5_2 : W1.cell? ⟨b5, 2, none⟩ = some (.slice A5 l5.length c5) := cells_of n5 2
    have qb5 := lt_of_block n5
    replace H5 := hide H5
    clear n5
    clear hbx hc hfz
    go_upto_region 2 with fail
    go_cut [6, 7] (fun s6_ s7_ wx => ∃ b6 b7 : Nat, s6_ = .pointer (some ⟨b6, 0, none⟩) ∧ s7_ = .pointer (some ⟨b7, 0, none⟩) ∧ BoxI wx b6 xd ∧ BoxI wx b7 yd ∧ Below W1.heap.size W1 wx ∧ W1.heap.size ≤ b6 ∧ W1.heap.size ≤ b7)
    case first =>
      have KEEP := hide (show ∀ X, Below W1.heap.size W1 X → X.cell? ⟨w.heap.size, 0, none⟩ = some (.int .i64 s1) ∧ X.cell? ⟨w.heap.size, 1, none⟩ = some (.bool neg1) ∧ X.cell? ⟨w.heap.size, 2, none⟩ = some (.slice A1 l1.length c1) ∧ X.cell? ⟨w.heap.size, 3, none⟩ = some (.int .i64 s2) ∧ X.cell? ⟨w.heap.size, 4, none⟩ = some (.bool neg2) ∧ X.cell? ⟨w.heap.size, 5, none⟩ = some (.slice A2 l2.length c2) ∧ X.cell? ⟨w.heap.size + 1, 0, none⟩ = some (.int .i64 s3) ∧ X.cell? ⟨w.heap.size + 1, 1, none⟩ = some (.bool neg3) ∧ X.cell? ⟨w.heap.size + 1, 2, none⟩ = some (.slice A3 l3.length c3) ∧ X.cell? ⟨w.heap.size + 1, 3, none⟩ = some (.int .i64 s4) ∧ X.cell? ⟨w.heap.size + 1, 4, none⟩ = some (.bool neg4) ∧ X.cell? ⟨w.heap.size + 1, 5, none⟩ = some (.slice A4 l4.length c4) ∧ X.cell? ⟨b5, 0, none⟩ = some (.int .i64 s5) ∧ X.cell? ⟨b5, 1, none⟩ = some (.bool neg5) ∧ X.cell? ⟨b5, 2, none⟩ = some (.slice A5 l5.length c5) from fun X hB => ⟨keep_cell hB q0 k0_0, keep_cell hB q0 k0_1, keep_cell hB q0 k0_2, keep_cell hB q0 k0_3, keep_cell hB q0 k0_4, keep_cell hB q0 k0_5, keep_cell hB q1 k1_0, keep_cell hB q1 k1_1, keep_cell hB q1 k1_2, keep_cell hB q1 k1_3, keep_cell hB q1 k1_4, keep_cell hB q1 k1_5, keep_cell hB qb5 kb5_0, keep_cell hB qb5 kb5_1, keep_cell hB qb5 kb5_2⟩)
      go_region_held3 (fun w' => w'.cell? ⟨w.heap.size, 0, none⟩ = some (.int .i64 s1) ∧ w'.cell? ⟨w.heap.size, 1, none⟩ = some (.bool neg1) ∧ w'.cell? ⟨w.heap.size, 2, none⟩ = some (.slice A1 l1.length c1) ∧ w'.cell? ⟨w.heap.size, 3, none⟩ = some (.int .i64 s2) ∧ w'.cell? ⟨w.heap.size, 4, none⟩ = some (.bool neg2) ∧ w'.cell? ⟨w.heap.size, 5, none⟩ = some (.slice A2 l2.length c2) ∧ w'.cell? ⟨w.heap.size + 1, 0, none⟩ = some (.int .i64 s3) ∧ w'.cell? ⟨w.heap.size + 1, 1, none⟩ = some (.bool neg3) ∧ w'.cell? ⟨w.heap.size + 1, 2, none⟩ = some (.slice A3 l3.length c3) ∧ w'.cell? ⟨w.heap.size + 1, 3, none⟩ = some (.int .i64 s4) ∧ w'.cell? ⟨w.heap.size + 1, 4, none⟩ = some (.bool neg4) ∧ w'.cell? ⟨w.heap.size + 1, 5, none⟩ = some (.slice A4 l4.length c4) ∧ w'.cell? ⟨b5, 0, none⟩ = some (.int .i64 s5) ∧ w'.cell? ⟨b5, 1, none⟩ = some (.bool neg5) ∧ w'.cell? ⟨b5, 2, none⟩ = some (.slice A5 l5.length c5)) (exact (unhide KEEP) _ (by (repeat (first | with_reducible exact Below.refl _ _ | with_reducible assumption | with_reducible refine Below.drew ?_ | with_reducible refine below_alloc ?_ _ | (with_reducible refine below_set ?_ ?_ _ _; rotate_left; (first | omega | (simp <;> omega))))))) (first | (go_at_call_of 125 (Value.agg #[.int .i64 s2, .bool neg2, .slice A2 l2.length c2]); refine ((unhide HXD) s2 neg2 A2 c2 l2 s5 neg5 A5 c5 l5 _ (below_step' hw0 (by (repeat (first | with_reducible exact Below.refl _ _ | with_reducible assumption | with_reducible refine Below.drew ?_ | with_reducible refine below_alloc ?_ _)))) (IntF.below (unhide H2) (by (repeat (first | with_reducible exact Below.refl _ _ | with_reducible assumption | with_reducible refine Below.drew ?_ | with_reducible refine below_alloc ?_ _)))) (IntF.below (unhide H5) (by (repeat (first | with_reducible exact Below.refl _ _ | with_reducible assumption | with_reducible refine Below.drew ?_ | with_reducible refine below_alloc ?_ _))))).mono ?_; rintro e w' ⟨s6, neg6, A6, c6, l6, rfl, hf6, hb6⟩; have hbw := below_step (w := W1) (by (repeat (first | with_reducible exact Below.refl _ _ | with_reducible assumption | with_reducible refine Below.drew ?_ | with_reducible refine below_alloc ?_ _))) hb6; have hsw := hbw.size; obtain ⟨hc, hfz⟩ := bcell hbw; (try ((first | have u6a : Fr W1 w' _ := Fr.below (Fr.new (by (repeat (first | with_reducible exact Below.refl _ _ | with_reducible assumption | with_reducible refine Below.drew ?_ | with_reducible refine below_alloc ?_ _))) rfl) hb6 | have u6a : Fr W1 w' _ := Fr.below (Fr.drew (Fr.new (by (repeat (first | with_reducible exact Below.refl _ _ | with_reducible assumption | with_reducible refine Below.drew ?_ | with_reducible refine below_alloc ?_ _))) rfl)) hb6); (try simp only [World.size_alloc] at u6a); (try dsimp only [World.drew] at u6a); (try simp only [World.size_alloc] at u6a); obtain ⟨⟨u6a1, u6a2, u6a3⟩, ⟨u6a4, u6a5, u6a6⟩, ⟨u6a7, u6a8, u6a9⟩, ⟨u6a10, u6a11, u6a12⟩, u6a13, u6a14⟩ := Fr.facts u6a)); (try ((first | have u6b : Fr W1 w' _ := Fr.below (Fr.alloc (Fr.new (by (repeat (first | with_reducible exact Below.refl _ _ | with_reducible assumption | with_reducible refine Below.drew ?_ | with_reducible refine below_alloc ?_ _))) rfl)) hb6 | have u6b : Fr W1 w' _ := Fr.below (Fr.drew (Fr.alloc (Fr.new (by (repeat (first | with_reducible exact Below.refl _ _ | with_reducible assumption | with_reducible refine Below.drew ?_ | with_reducible refine below_alloc ?_ _))) rfl))) hb6); (try simp only [World.size_alloc] at u6b); (try dsimp only [World.drew] at u6b); (try simp only [World.size_alloc] at u6b); obtain ⟨⟨u6b1, u6b2, u6b3⟩, ⟨u6b4, u6b5, u6b6⟩, ⟨u6b7, u6b8, u6b9⟩, ⟨u6b10, u6b11, u6b12⟩, u6b13, u6b14⟩ := Fr.facts u6b))) | (go_at_call_of 125 (Value.agg #[.int .i64 s4, .bool neg4, .slice A4 l4.length c4]); refine ((unhide HYD) s4 neg4 A4 c4 l4 s5 neg5 A5 c5 l5 _ (below_step' hw0 (by (repeat (first | with_reducible exact Below.refl _ _ | with_reducible assumption | with_reducible refine Below.drew ?_ | with_reducible refine below_alloc ?_ _)))) (IntF.below (unhide H4) (by (repeat (first | with_reducible exact Below.refl _ _ | with_reducible assumption | with_reducible refine Below.drew ?_ | with_reducible refine below_alloc ?_ _)))) (IntF.below (unhide H5) (by (repeat (first | with_reducible exact Below.refl _ _ | with_reducible assumption | with_reducible refine Below.drew ?_ | with_reducible refine below_alloc ?_ _))))).mono ?_; rintro e w' ⟨s7, neg7, A7, c7, l7, rfl, hf7, hb7⟩; have hf6 := IntF.below (IntF.below hf6 (by (repeat (first | with_reducible exact Below.refl _ _ | with_reducible assumption | with_reducible refine Below.drew ?_ | with_reducible refine below_alloc ?_ _)))) hb7; have hbw := below_step (w := W1) (by (repeat (first | with_reducible exact Below.refl _ _ | with_reducible assumption | with_reducible refine Below.drew ?_ | with_reducible refine below_alloc ?_ _))) hb7; have hsw := hbw.size; obtain ⟨hc, hfz⟩ := bcell hbw; (try ((first | have u7a : Fr W1 w' _ := Fr.below (Fr.new (by (repeat (first | with_reducible exact Below.refl _ _ | with_reducible assumption | with_reducible refine Below.drew ?_ | with_reducible refine below_alloc ?_ _))) rfl) hb7 | have u7a : Fr W1 w' _ := Fr.below (Fr.drew (Fr.new (by (repeat (first | with_reducible exact Below.refl _ _ | with_reducible assumption | with_reducible refine Below.drew ?_ | with_reducible refine below_alloc ?_ _))) rfl)) hb7); (try simp only [World.size_alloc] at u7a); (try dsimp only [World.drew] at u7a); (try simp only [World.size_alloc] at u7a); obtain ⟨⟨u7a1, u7a2, u7a3⟩, ⟨u7a4, u7a5, u7a6⟩, ⟨u7a7, u7a8, u7a9⟩, ⟨u7a10, u7a11, u7a12⟩, u7a13, u7a14⟩ := Fr.facts u7a)); (try ((first | have u7b : Fr W1 w' _ := Fr.below (Fr.alloc (Fr.new (by (repeat (first | with_reducible exact Below.refl _ _ | with_reducible assumption | with_reducible refine Below.drew ?_ | with_reducible refine below_alloc ?_ _))) rfl)) hb7 | have u7b : Fr W1 w' _ := Fr.below (Fr.drew (Fr.alloc (Fr.new (by (repeat (first | with_reducible exact Below.refl _ _ | with_reducible assumption | with_reducible refine Below.drew ?_ | with_reducible refine below_alloc ?_ _))) rfl))) hb7); (try simp only [World.size_alloc] at u7b); (try dsimp only [World.drew] at u7b); (try simp only [World.size_alloc] at u7b); obtain ⟨⟨u7b1, u7b2, u7b3⟩, ⟨u7b4, u7b5, u7b6⟩, ⟨u7b7, u7b8, u7b9⟩, ⟨u7b10, u7b11, u7b12⟩, u7b13, u7b14⟩ := Fr.facts u7b)); (try ((first | have u7c : Fr W1 w' _ := Fr.below u6a hb7 | have u7c : Fr W1 w' _ := Fr.below (Fr.alloc u6a) hb7 | have u7c : Fr W1 w' _ := Fr.below (Fr.alloc (Fr.alloc u6a)) hb7); (try simp only [World.size_alloc] at u7c); (try dsimp only [World.drew] at u7c); (try simp only [World.size_alloc] at u7c); obtain ⟨⟨u7c1, u7c2, u7c3⟩, ⟨u7c4, u7c5, u7c6⟩, ⟨u7c7, u7c8, u7c9⟩, ⟨u7c10, u7c11, u7c12⟩, u7c13, u7c14⟩ := Fr.facts u7c)); (try ((first | have u7d : Fr W1 w' _ := Fr.below u6b hb7 | have u7d : Fr W1 w' _ := Fr.below (Fr.alloc u6b) hb7 | have u7d : Fr W1 w' _ := Fr.below (Fr.alloc (Fr.alloc u6b)) hb7); (try simp only [World.size_alloc] at u7d); (try dsimp only [World.drew] at u7d); (try simp only [World.size_alloc] at u7d); obtain ⟨⟨u7d1, u7d2, u7d3⟩, ⟨u7d4, u7d5, u7d6⟩, ⟨u7d7, u7d8, u7d9⟩, ⟨u7d10, u7d11, u7d12⟩, u7d13, u7d14⟩ := Fr.facts u7d))))
      all_goals (go_wp2_with fail; go_meet; refine ⟨_, _, rfl, rfl, ?_⟩; first | with_reducible exact put_two ⟨by assumption, by assumption, by first | assumption | omega⟩ hf6 hf7 hbw | with_reducible exact put_two (Fr2.newR (by assumption) rfl) hf6.alloc hf7.alloc (below_alloc hbw _) | with_reducible exact put_two (Fr2.newL (by assumption) rfl) hf6.alloc hf7.alloc (below_alloc hbw _) | with_reducible exact put_nn hf6 hf7 hbw rfl rfl | with_reducible exact put_mm hf6 hf7 hbw rfl rfl | with_reducible exact put_ns (by assumption) hf6 hf7 hbw rfl)
    case rest =>
      revert hcut
      generalize wc = W2
      intro hcut
      obtain ⟨b6, b7, rfl, rfl, B6, B7, hbx, ob6, ob7⟩ := hcut
      obtain ⟨hc, hfz⟩ := bcell hbx
      replace k0_0 := (hc _ _ q0).trans k0_0
      replace k0_1 := (hc _ _ q0).trans k0_1
      replace k0_2 := (hc _ _ q0).trans k0_2
      replace k0_3 := (hc _ _ q0).trans k0_3
      replace k0_4 := (hc _ _ q0).trans k0_4
      replace k0_5 := (hc _ _ q0).trans k0_5
      replace q0 := Nat.lt_of_lt_of_le q0 hbx.size
      replace k1_0 := (hc _ _ q1).trans k1_0
      replace k1_1 := (hc _ _ q1).trans k1_1
      replace k1_2 := (hc _ _ q1).trans k1_2
      replace k1_3 := (hc _ _ q1).trans k1_3
      replace k1_4 := (hc _ _ q1).trans k1_4
      replace k1_5 := (hc _ _ q1).trans k1_5
      replace q1 := Nat.lt_of_lt_of_le q1 hbx.size
      replace kb5_0 := (hc _ _ qb5).trans kb5_0
      replace kb5_1 := (hc _ _ qb5).trans kb5_1
      replace kb5_2 := (hc _ _ qb5).trans kb5_2
      replace qb5 := Nat.lt_of_lt_of_le qb5 hbx.size
      replace ob6 : w.heap.size + 1 + 1 < b6 := Nat.lt_of_lt_of_le q2 ob6
      replace ob7 : w.heap.size + 1 + 1 < b7 := Nat.lt_of_lt_of_le q2 ob7
      replace k2_0 := (hc _ _ q2).trans k2_0
      replace f2_0 := (hfz _ _ q2).trans f2_0
      replace k2_1 := (hc _ _ q2).trans k2_1
      replace f2_1 := (hfz _ _ q2).trans f2_1
      replace k2_2 := (hc _ _ q2).trans k2_2
      replace f2_2 := (hfz _ _ q2).trans f2_2
      replace k2_3 := (hc _ _ q2).trans k2_3
      replace f2_3 := (hfz _ _ q2).trans f2_3
      replace k2_4 := (hc _ _ q2).trans k2_4
      replace f2_4 := (hfz _ _ q2).trans f2_4
      replace k2_5 := (hc _ _ q2).trans k2_5
      replace f2_5 := (hfz _ _ q2).trans f2_5
      replace NR := Lib.hid ((hbx.block _ q2).trans NR.out)
      replace q2 := Nat.lt_of_lt_of_le q2 hbx.size
      replace hw0 := below_step' hw0 hbx
      replace H1 := hide ((unhide H1).below hbx)
      replace H2 := hide ((unhide H2).below hbx)
      replace H3 := hide ((unhide H3).below hbx)
      replace H4 := hide ((unhide H4).below hbx)
      replace H5 := hide ((unhide H5).below hbx)
      obtain ⟨s6, neg6, A6, c6, l6, n6, H6⟩ := B6
      have kb6_0 : W2.cell? ⟨b6, 0, none⟩ = some (.int .i64 s6) := cells_of n6 0
      have kb6_1 : W2.cell? ⟨b6, 1, none⟩ = some (.bool neg6) := cells_of n6 1
      have kb6_2 : W2.cell? ⟨b6, 2, none⟩ = some (.slice A6 l6.length c6) := cells_of n6 2
      have qb6 := lt_of_block n6
      replace H6 := hide H6
      clear n6
      obtain ⟨s7, neg7, A7, c7, l7, n7, H7⟩ := B7
      have kb7_0 : W2.cell? ⟨b7, 0, none⟩ = some (.int .i64 s7) := cells_of n7 0
      have kb7_1 : W2.cell? ⟨b7, 1, none⟩ = some (.bool neg7) := cells_of n7 1
      have kb7_2 : W2.cell? ⟨b7, 2, none⟩ = some (.slice A7 l7.length c7) := cells_of n7 2
      have qb7 := lt_of_block n7
      replace H7 := hide H7
      clear n7
      clear hbx hc hfz
      go_upto_region 3 with fail
      go_cut [8] (fun s8_ wx => ∃ b8 : Nat, s8_ = .pointer (some ⟨b8, 0, none⟩) ∧ BoxI wx b8 n ∧ Below W2.heap.size W2 wx ∧ W2.heap.size ≤ b8)
      case first =>
        have KEEP := hide (show ∀ X, Below W2.heap.size W2 X → X.cell? ⟨w.heap.size, 0, none⟩ = some (.int .i64 s1) ∧ X.cell? ⟨w.heap.size, 1, none⟩ = some (.bool neg1) ∧ X.cell? ⟨w.heap.size, 2, none⟩ = some (.slice A1 l1.length c1) ∧ X.cell? ⟨w.heap.size, 3, none⟩ = some (.int .i64 s2) ∧ X.cell? ⟨w.heap.size, 4, none⟩ = some (.bool neg2) ∧ X.cell? ⟨w.heap.size, 5, none⟩ = some (.slice A2 l2.length c2) ∧ X.cell? ⟨w.heap.size + 1, 0, none⟩ = some (.int .i64 s3) ∧ X.cell? ⟨w.heap.size + 1, 1, none⟩ = some (.bool neg3) ∧ X.cell? ⟨w.heap.size + 1, 2, none⟩ = some (.slice A3 l3.length c3) ∧ X.cell? ⟨w.heap.size + 1, 3, none⟩ = some (.int .i64 s4) ∧ X.cell? ⟨w.heap.size + 1, 4, none⟩ = some (.bool neg4) ∧ X.cell? ⟨w.heap.size + 1, 5, none⟩ = some (.slice A4 l4.length c4) ∧ X.cell? ⟨b6, 0, none⟩ = some (.int .i64 s6) ∧ X.cell? ⟨b6, 1, none⟩ = some (.bool neg6) ∧ X.cell? ⟨b6, 2, none⟩ = some (.slice A6 l6.length c6) ∧ X.cell? ⟨b7, 0, none⟩ = some (.int .i64 s7) ∧ X.cell? ⟨b7, 1, none⟩ = some (.bool neg7) ∧ X.cell? ⟨b7, 2, none⟩ = some (.slice A7 l7.length c7) from fun X hB => ⟨keep_cell hB q0 k0_0, keep_cell hB q0 k0_1, keep_cell hB q0 k0_2, keep_cell hB q0 k0_3, keep_cell hB q0 k0_4, keep_cell hB q0 k0_5, keep_cell hB q1 k1_0, keep_cell hB q1 k1_1, keep_cell hB q1 k1_2, keep_cell hB q1 k1_3, keep_cell hB q1 k1_4, keep_cell hB q1 k1_5, keep_cell hB qb6 kb6_0, keep_cell hB qb6 kb6_1, keep_cell hB qb6 kb6_2, keep_cell hB qb7 kb7_0, keep_cell hB qb7 kb7_1, keep_cell hB qb7 kb7_2⟩)
        go_region_held3 (fun w' => w'.cell? ⟨w.heap.size, 0, none⟩ = some (.int .i64 s1) ∧ w'.cell? ⟨w.heap.size, 1, none⟩ = some (.bool neg1) ∧ w'.cell? ⟨w.heap.size, 2, none⟩ = some (.slice A1 l1.length c1) ∧ w'.cell? ⟨w.heap.size, 3, none⟩ = some (.int .i64 s2) ∧ w'.cell? ⟨w.heap.size, 4, none⟩ = some (.bool neg2) ∧ w'.cell? ⟨w.heap.size, 5, none⟩ = some (.slice A2 l2.length c2) ∧ w'.cell? ⟨w.heap.size + 1, 0, none⟩ = some (.int .i64 s3) ∧ w'.cell? ⟨w.heap.size + 1, 1, none⟩ = some (.bool neg3) ∧ w'.cell? ⟨w.heap.size + 1, 2, none⟩ = some (.slice A3 l3.length c3) ∧ w'.cell? ⟨w.heap.size + 1, 3, none⟩ = some (.int .i64 s4) ∧ w'.cell? ⟨w.heap.size + 1, 4, none⟩ = some (.bool neg4) ∧ w'.cell? ⟨w.heap.size + 1, 5, none⟩ = some (.slice A4 l4.length c4) ∧ w'.cell? ⟨b6, 0, none⟩ = some (.int .i64 s6) ∧ w'.cell? ⟨b6, 1, none⟩ = some (.bool neg6) ∧ w'.cell? ⟨b6, 2, none⟩ = some (.slice A6 l6.length c6) ∧ w'.cell? ⟨b7, 0, none⟩ = some (.int .i64 s7) ∧ w'.cell? ⟨b7, 1, none⟩ = some (.bool neg7) ∧ w'.cell? ⟨b7, 2, none⟩ = some (.slice A7 l7.length c7)) (exact (unhide KEEP) _ (by (repeat (first | with_reducible exact Below.refl _ _ | with_reducible assumption | with_reducible refine Below.drew ?_ | with_reducible refine below_alloc ?_ _ | (with_reducible refine below_set ?_ ?_ _ _; rotate_left; (first | omega | (simp <;> omega))))))) (first | (go_at_call_of 112 (Value.agg #[.int .i64 s1, .bool neg1, .slice A1 l1.length c1]); refine ((unhide HM1) s1 neg1 A1 c1 l1 s7 neg7 A7 c7 l7 _ (below_step' hw0 (by (repeat (first | with_reducible exact Below.refl _ _ | with_reducible assumption | with_reducible refine Below.drew ?_ | with_reducible refine below_alloc ?_ _)))) (IntF.below (unhide H1) (by (repeat (first | with_reducible exact Below.refl _ _ | with_reducible assumption | with_reducible refine Below.drew ?_ | with_reducible refine below_alloc ?_ _)))) (IntF.below (unhide H7) (by (repeat (first | with_reducible exact Below.refl _ _ | with_reducible assumption | with_reducible refine Below.drew ?_ | with_reducible refine below_alloc ?_ _))))).mono ?_; rintro e w' ⟨s8, neg8, A8, c8, l8, rfl, hf8, hb8⟩; have hbw := below_step (w := W2) (by (repeat (first | with_reducible exact Below.refl _ _ | with_reducible assumption | with_reducible refine Below.drew ?_ | with_reducible refine below_alloc ?_ _))) hb8; have hsw := hbw.size; obtain ⟨hc, hfz⟩ := bcell hbw; (try ((first | have u8a : Fr W2 w' _ := Fr.below (Fr.new (by (repeat (first | with_reducible exact Below.refl _ _ | with_reducible assumption | with_reducible refine Below.drew ?_ | with_reducible refine below_alloc ?_ _))) rfl) hb8 | have u8a : Fr W2 w' _ := Fr.below (Fr.drew (Fr.new (by (repeat (first | with_reducible exact Below.refl _ _ | with_reducible assumption | with_reducible refine Below.drew ?_ | with_reducible refine below_alloc ?_ _))) rfl)) hb8); (try simp only [World.size_alloc] at u8a); (try dsimp only [World.drew] at u8a); (try simp only [World.size_alloc] at u8a); obtain ⟨⟨u8a1, u8a2, u8a3⟩, ⟨u8a4, u8a5, u8a6⟩, ⟨u8a7, u8a8, u8a9⟩, ⟨u8a10, u8a11, u8a12⟩, u8a13, u8a14⟩ := Fr.facts u8a))) | (go_at_call_of 112 (Value.agg #[.int .i64 s3, .bool neg3, .slice A3 l3.length c3]); refine ((unhide HM2) s3 neg3 A3 c3 l3 s6 neg6 A6 c6 l6 _ (below_step' hw0 (by (repeat (first | with_reducible exact Below.refl _ _ | with_reducible assumption | with_reducible refine Below.drew ?_ | with_reducible refine below_alloc ?_ _)))) (IntF.below (unhide H3) (by (repeat (first | with_reducible exact Below.refl _ _ | with_reducible assumption | with_reducible refine Below.drew ?_ | with_reducible refine below_alloc ?_ _)))) (IntF.below (unhide H6) (by (repeat (first | with_reducible exact Below.refl _ _ | with_reducible assumption | with_reducible refine Below.drew ?_ | with_reducible refine below_alloc ?_ _))))).mono ?_; rintro e w' ⟨s9, neg9, A9, c9, l9, rfl, hf9, hb9⟩; have hf8 := IntF.below (IntF.below hf8 (by (repeat (first | with_reducible exact Below.refl _ _ | with_reducible assumption | with_reducible refine Below.drew ?_ | with_reducible refine below_alloc ?_ _)))) hb9; have hbw := below_step (w := W2) (by (repeat (first | with_reducible exact Below.refl _ _ | with_reducible assumption | with_reducible refine Below.drew ?_ | with_reducible refine below_alloc ?_ _))) hb9; have hsw := hbw.size; obtain ⟨hc, hfz⟩ := bcell hbw; (try ((first | have u9a : Fr W2 w' _ := Fr.below (Fr.new (by (repeat (first | with_reducible exact Below.refl _ _ | with_reducible assumption | with_reducible refine Below.drew ?_ | with_reducible refine below_alloc ?_ _))) rfl) hb9 | have u9a : Fr W2 w' _ := Fr.below (Fr.drew (Fr.new (by (repeat (first | with_reducible exact Below.refl _ _ | with_reducible assumption | with_reducible refine Below.drew ?_ | with_reducible refine below_alloc ?_ _))) rfl)) hb9); (try simp only [World.size_alloc] at u9a); (try dsimp only [World.drew] at u9a); (try simp only [World.size_alloc] at u9a); obtain ⟨⟨u9a1, u9a2, u9a3⟩, ⟨u9a4, u9a5, u9a6⟩, ⟨u9a7, u9a8, u9a9⟩, ⟨u9a10, u9a11, u9a12⟩, u9a13, u9a14⟩ := Fr.facts u9a)); (try ((first | have u9c : Fr W2 w' _ := Fr.below u8a hb9 | have u9c : Fr W2 w' _ := Fr.below (Fr.alloc u8a) hb9 | have u9c : Fr W2 w' _ := Fr.below (Fr.alloc (Fr.alloc u8a)) hb9); (try simp only [World.size_alloc] at u9c); (try dsimp only [World.drew] at u9c); (try simp only [World.size_alloc] at u9c); obtain ⟨⟨u9c1, u9c2, u9c3⟩, ⟨u9c4, u9c5, u9c6⟩, ⟨u9c7, u9c8, u9c9⟩, ⟨u9c10, u9c11, u9c12⟩, u9c13, u9c14⟩ := Fr.facts u9c))) | (go_at_call_of 127 (Value.agg #[.int .i64 s8, .bool neg8, .slice A8 l8.length c8]); refine ((unhide HN) s8 neg8 A8 c8 l8 s9 neg9 A9 c9 l9 _ (below_step' hw0 (by (repeat (first | with_reducible exact Below.refl _ _ | with_reducible assumption | with_reducible refine Below.drew ?_ | with_reducible refine below_alloc ?_ _)))) (IntF.below hf8 (by (repeat (first | with_reducible exact Below.refl _ _ | with_reducible assumption | with_reducible refine Below.drew ?_ | with_reducible refine below_alloc ?_ _)))) (IntF.below hf9 (by (repeat (first | with_reducible exact Below.refl _ _ | with_reducible assumption | with_reducible refine Below.drew ?_ | with_reducible refine below_alloc ?_ _))))).mono ?_; rintro e w' ⟨s10, neg10, A10, c10, l10, rfl, hf10, hb10⟩; have hf8 := IntF.below (IntF.below hf8 (by (repeat (first | with_reducible exact Below.refl _ _ | with_reducible assumption | with_reducible refine Below.drew ?_ | with_reducible refine below_alloc ?_ _)))) hb10; have hf9 := IntF.below (IntF.below hf9 (by (repeat (first | with_reducible exact Below.refl _ _ | with_reducible assumption | with_reducible refine Below.drew ?_ | with_reducible refine below_alloc ?_ _)))) hb10; have hbw := below_step (w := W2) (by (repeat (first | with_reducible exact Below.refl _ _ | with_reducible assumption | with_reducible refine Below.drew ?_ | with_reducible refine below_alloc ?_ _))) hb10; have hsw := hbw.size; obtain ⟨hc, hfz⟩ := bcell hbw; (try ((first | have u10a : Fr W2 w' _ := Fr.below (Fr.new (by (repeat (first | with_reducible exact Below.refl _ _ | with_reducible assumption | with_reducible refine Below.drew ?_ | with_reducible refine below_alloc ?_ _))) rfl) hb10 | have u10a : Fr W2 w' _ := Fr.below (Fr.drew (Fr.new (by (repeat (first | with_reducible exact Below.refl _ _ | with_reducible assumption | with_reducible refine Below.drew ?_ | with_reducible refine below_alloc ?_ _))) rfl)) hb10); (try simp only [World.size_alloc] at u10a); (try dsimp only [World.drew] at u10a); (try simp only [World.size_alloc] at u10a); obtain ⟨⟨u10a1, u10a2, u10a3⟩, ⟨u10a4, u10a5, u10a6⟩, ⟨u10a7, u10a8, u10a9⟩, ⟨u10a10, u10a11, u10a12⟩, u10a13, u10a14⟩ := Fr.facts u10a)); (try ((first | have u10c : Fr W2 w' _ := Fr.below u9a hb10 | have u10c : Fr W2 w' _ := Fr.below (Fr.alloc u9a) hb10 | have u10c : Fr W2 w' _ := Fr.below (Fr.alloc (Fr.alloc u9a)) hb10); (try simp only [World.size_alloc] at u10c); (try dsimp only [World.drew] at u10c); (try simp only [World.size_alloc] at u10c); obtain ⟨⟨u10c1, u10c2, u10c3⟩, ⟨u10c4, u10c5, u10c6⟩, ⟨u10c7, u10c8, u10c9⟩, ⟨u10c10, u10c11, u10c12⟩, u10c13, u10c14⟩ := Fr.facts u10c)); (try ((first | have u10d : Fr W2 w' _ := Fr.below u9c hb10 | have u10d : Fr W2 w' _ := Fr.below (Fr.alloc u9c) hb10 | have u10d : Fr W2 w' _ := Fr.below (Fr.alloc (Fr.alloc u9c)) hb10); (try simp only [World.size_alloc] at u10d); (try dsimp only [World.drew] at u10d); (try simp only [World.size_alloc] at u10d); obtain ⟨⟨u10d1, u10d2, u10d3⟩, ⟨u10d4, u10d5, u10d6⟩, ⟨u10d7, u10d8, u10d9⟩, ⟨u10d10, u10d11, u10d12⟩, u10d13, u10d14⟩ := Fr.facts u10d))))
        all_goals (go_wp2_with fail; go_meet; refine ⟨_, rfl, ?_⟩; first | with_reducible exact put_one (by assumption) hf10 hbw | with_reducible exact put_n hf10 hbw rfl)
      case rest =>
        revert hcut
        generalize wc = W3
        intro hcut
        obtain ⟨b8, rfl, B8, hbx, ob8⟩ := hcut
        obtain ⟨hc, hfz⟩ := bcell hbx
        replace k0_0 := (hc _ _ q0).trans k0_0
        replace k0_1 := (hc _ _ q0).trans k0_1
        replace k0_2 := (hc _ _ q0).trans k0_2
        replace k0_3 := (hc _ _ q0).trans k0_3
        replace k0_4 := (hc _ _ q0).trans k0_4
        replace k0_5 := (hc _ _ q0).trans k0_5
        replace q0 := Nat.lt_of_lt_of_le q0 hbx.size
        replace k1_0 := (hc _ _ q1).trans k1_0
        replace k1_1 := (hc _ _ q1).trans k1_1
        replace k1_2 := (hc _ _ q1).trans k1_2
        replace k1_3 := (hc _ _ q1).trans k1_3
        replace k1_4 := (hc _ _ q1).trans k1_4
        replace k1_5 := (hc _ _ q1).trans k1_5
        replace q1 := Nat.lt_of_lt_of_le q1 hbx.size
        replace kb5_0 := (hc _ _ qb5).trans kb5_0
        replace kb5_1 := (hc _ _ qb5).trans kb5_1
        replace kb5_2 := (hc _ _ qb5).trans kb5_2
        replace qb5 := Nat.lt_of_lt_of_le qb5 hbx.size
        replace kb6_0 := (hc _ _ qb6).trans kb6_0
        replace kb6_1 := (hc _ _ qb6).trans kb6_1
        replace kb6_2 := (hc _ _ qb6).trans kb6_2
        replace qb6 := Nat.lt_of_lt_of_le qb6 hbx.size
        replace kb7_0 := (hc _ _ qb7).trans kb7_0
        replace kb7_1 := (hc _ _ qb7).trans kb7_1
        replace kb7_2 := (hc _ _ qb7).trans kb7_2
        replace qb7 := Nat.lt_of_lt_of_le qb7 hbx.size
        replace ob8 : w.heap.size + 1 + 1 < b8 := Nat.lt_of_lt_of_le q2 ob8
        replace k2_0 := (hc _ _ q2).trans k2_0
        replace f2_0 := (hfz _ _ q2).trans f2_0
        replace k2_1 := (hc _ _ q2).trans k2_1
        replace f2_1 := (hfz _ _ q2).trans f2_1
        replace k2_2 := (hc _ _ q2).trans k2_2
        replace f2_2 := (hfz _ _ q2).trans f2_2
        replace k2_3 := (hc _ _ q2).trans k2_3
        replace f2_3 := (hfz _ _ q2).trans f2_3
        replace k2_4 := (hc _ _ q2).trans k2_4
        replace f2_4 := (hfz _ _ q2).trans f2_4
        replace k2_5 := (hc _ _ q2).trans k2_5
        replace f2_5 := (hfz _ _ q2).trans f2_5
        replace NR := Lib.hid ((hbx.block _ q2).trans NR.out)
        replace q2 := Nat.lt_of_lt_of_le q2 hbx.size
        replace hw0 := below_step' hw0 hbx
        replace H1 := hide ((unhide H1).below hbx)
        replace H2 := hide ((unhide H2).below hbx)
        replace H3 := hide ((unhide H3).below hbx)
        replace H4 := hide ((unhide H4).below hbx)
        replace H5 := hide ((unhide H5).below hbx)
        replace H6 := hide ((unhide H6).below hbx)
        replace H7 := hide ((unhide H7).below hbx)
        obtain ⟨s10, neg10, A10, c10, l10, n10, H10⟩ := B8
        have kb8_0 : W3.cell? ⟨b8, 0, none⟩ = some (.int .i64 s10) := cells_of n10 0
        have kb8_1 : W3.cell? ⟨b8, 1, none⟩ = some (.bool neg10) := cells_of n10 1
        have kb8_2 : W3.cell? ⟨b8, 2, none⟩ = some (.slice A10 l10.length c10) := cells_of n10 2
        have qb8 := lt_of_block n10
        replace H10 := hide H10
        clear n10
        clear hbx hc hfz
        go_upto_region 4 with fail
        go_cut [9] (fun s9_ wx => ∃ b9 : Nat, s9_ = .pointer (some ⟨b9, 0, none⟩) ∧ BoxI wx b9 h ∧ Below W3.heap.size W3 wx ∧ W3.heap.size ≤ b9)
        case first =>
          go_wp2_with fail
          (go_at_call_of 124 (Value.agg #[.int .i64 s5, .bool neg5, .slice A5 l5.length c5]); refine ((unhide HH) s5 neg5 A5 c5 l5 s10 neg10 A10 c10 l10 _ (below_step' hw0 (by (repeat (first | with_reducible exact Below.refl _ _ | with_reducible assumption | with_reducible refine Below.drew ?_ | with_reducible refine below_alloc ?_ _)))) (IntF.below (unhide H5) (by (repeat (first | with_reducible exact Below.refl _ _ | with_reducible assumption | with_reducible refine Below.drew ?_ | with_reducible refine below_alloc ?_ _)))) (IntF.below (unhide H10) (by (repeat (first | with_reducible exact Below.refl _ _ | with_reducible assumption | with_reducible refine Below.drew ?_ | with_reducible refine below_alloc ?_ _))))).mono ?_; rintro e w' ⟨s11, neg11, A11, c11, l11, rfl, hf11, hb11⟩; have hbw := below_step (w := W3) (by (repeat (first | with_reducible exact Below.refl _ _ | with_reducible assumption | with_reducible refine Below.drew ?_ | with_reducible refine below_alloc ?_ _))) hb11; have hsw := hbw.size; obtain ⟨hc, hfz⟩ := bcell hbw)
          (go_wp2_with fail; go_meet; refine ⟨_, rfl, ?_⟩; first | with_reducible exact put_one (by assumption) hf11 hbw | with_reducible exact put_n hf11 hbw rfl)
        case rest =>
          revert hcut
          generalize wc = W4
          intro hcut
          obtain ⟨b9, rfl, B9, hbx, ob9⟩ := hcut
          obtain ⟨hc, hfz⟩ := bcell hbx
          replace k0_0 := (hc _ _ q0).trans k0_0
          replace k0_1 := (hc _ _ q0).trans k0_1
          replace k0_2 := (hc _ _ q0).trans k0_2
          replace k0_3 := (hc _ _ q0).trans k0_3
          replace k0_4 := (hc _ _ q0).trans k0_4
          replace k0_5 := (hc _ _ q0).trans k0_5
          replace q0 := Nat.lt_of_lt_of_le q0 hbx.size
          replace k1_0 := (hc _ _ q1).trans k1_0
          replace k1_1 := (hc _ _ q1).trans k1_1
          replace k1_2 := (hc _ _ q1).trans k1_2
          replace k1_3 := (hc _ _ q1).trans k1_3
          replace k1_4 := (hc _ _ q1).trans k1_4
          replace k1_5 := (hc _ _ q1).trans k1_5
          replace q1 := Nat.lt_of_lt_of_le q1 hbx.size
          replace kb5_0 := (hc _ _ qb5).trans kb5_0
          replace kb5_1 := (hc _ _ qb5).trans kb5_1
          replace kb5_2 := (hc _ _ qb5).trans kb5_2
          replace qb5 := Nat.lt_of_lt_of_le qb5 hbx.size
          replace kb6_0 := (hc _ _ qb6).trans kb6_0
          replace kb6_1 := (hc _ _ qb6).trans kb6_1
          replace kb6_2 := (hc _ _ qb6).trans kb6_2
          replace qb6 := Nat.lt_of_lt_of_le qb6 hbx.size
          replace kb7_0 := (hc _ _ qb7).trans kb7_0
          replace kb7_1 := (hc _ _ qb7).trans kb7_1
          replace kb7_2 := (hc _ _ qb7).trans kb7_2
          replace qb7 := Nat.lt_of_lt_of_le qb7 hbx.size
          replace kb8_0 := (hc _ _ qb8).trans kb8_0
          replace kb8_1 := (hc _ _ qb8).trans kb8_1
          replace kb8_2 := (hc _ _ qb8).trans kb8_2
          replace qb8 := Nat.lt_of_lt_of_le qb8 hbx.size
          replace ob9 : w.heap.size + 1 + 1 < b9 := Nat.lt_of_lt_of_le q2 ob9
          replace k2_0 := (hc _ _ q2).trans k2_0
          replace f2_0 := (hfz _ _ q2).trans f2_0
          replace k2_1 := (hc _ _ q2).trans k2_1
          replace f2_1 := (hfz _ _ q2).trans f2_1
          replace k2_2 := (hc _ _ q2).trans k2_2
          replace f2_2 := (hfz _ _ q2).trans f2_2
          replace k2_3 := (hc _ _ q2).trans k2_3
          replace f2_3 := (hfz _ _ q2).trans f2_3
          replace k2_4 := (hc _ _ q2).trans k2_4
          replace f2_4 := (hfz _ _ q2).trans f2_4
          replace k2_5 := (hc _ _ q2).trans k2_5
          replace f2_5 := (hfz _ _ q2).trans f2_5
          replace NR := Lib.hid ((hbx.block _ q2).trans NR.out)
          replace q2 := Nat.lt_of_lt_of_le q2 hbx.size
          replace hw0 := below_step' hw0 hbx
          replace H1 := hide ((unhide H1).below hbx)
          replace H2 := hide ((unhide H2).below hbx)
          replace H3 := hide ((unhide H3).below hbx)
          replace H4 := hide ((unhide H4).below hbx)
          replace H5 := hide ((unhide H5).below hbx)
          replace H6 := hide ((unhide H6).below hbx)
          replace H7 := hide ((unhide H7).below hbx)
          replace H10 := hide ((unhide H10).below hbx)
          obtain ⟨s11, neg11, A11, c11, l11, n11, H11⟩ := B9
          have kb9_0 : W4.cell? ⟨b9, 0, none⟩ = some (.int .i64 s11) := cells_of n11 0
          have kb9_1 : W4.cell? ⟨b9, 1, none⟩ = some (.bool neg11) := cells_of n11 1
          have kb9_2 : W4.cell? ⟨b9, 2, none⟩ = some (.slice A11 l11.length c11) := cells_of n11 2
          have qb9 := lt_of_block n11
          replace H11 := hide H11
          clear n11
          clear hbx hc hfz
          go_upto_region 5 with fail
          have KEEP := hide (show ∀ X, Below W4.heap.size W4 X → X.cell? ⟨w.heap.size + 1, 0, none⟩ = some (.int .i64 s3) ∧ X.cell? ⟨w.heap.size + 1, 1, none⟩ = some (.bool neg3) ∧ X.cell? ⟨w.heap.size + 1, 2, none⟩ = some (.slice A3 l3.length c3) ∧ X.cell? ⟨w.heap.size + 1, 3, none⟩ = some (.int .i64 s4) ∧ X.cell? ⟨w.heap.size + 1, 4, none⟩ = some (.bool neg4) ∧ X.cell? ⟨w.heap.size + 1, 5, none⟩ = some (.slice A4 l4.length c4) ∧ X.cell? ⟨b6, 0, none⟩ = some (.int .i64 s6) ∧ X.cell? ⟨b6, 1, none⟩ = some (.bool neg6) ∧ X.cell? ⟨b6, 2, none⟩ = some (.slice A6 l6.length c6) ∧ X.cell? ⟨b8, 0, none⟩ = some (.int .i64 s10) ∧ X.cell? ⟨b8, 1, none⟩ = some (.bool neg10) ∧ X.cell? ⟨b8, 2, none⟩ = some (.slice A10 l10.length c10) ∧ X.cell? ⟨b9, 0, none⟩ = some (.int .i64 s11) ∧ X.cell? ⟨b9, 1, none⟩ = some (.bool neg11) ∧ X.cell? ⟨b9, 2, none⟩ = some (.slice A11 l11.length c11) from fun X hB => ⟨keep_cell hB q1 k1_0, keep_cell hB q1 k1_1, keep_cell hB q1 k1_2, keep_cell hB q1 k1_3, keep_cell hB q1 k1_4, keep_cell hB q1 k1_5, keep_cell hB qb6 kb6_0, keep_cell hB qb6 kb6_1, keep_cell hB qb6 kb6_2, keep_cell hB qb8 kb8_0, keep_cell hB qb8 kb8_1, keep_cell hB qb8 kb8_2, keep_cell hB qb9 kb9_0, keep_cell hB qb9 kb9_1, keep_cell hB qb9 kb9_2⟩)
          go_region_held3 (fun w' => w'.cell? ⟨w.heap.size + 1, 0, none⟩ = some (.int .i64 s3) ∧ w'.cell? ⟨w.heap.size + 1, 1, none⟩ = some (.bool neg3) ∧ w'.cell? ⟨w.heap.size + 1, 2, none⟩ = some (.slice A3 l3.length c3) ∧ w'.cell? ⟨w.heap.size + 1, 3, none⟩ = some (.int .i64 s4) ∧ w'.cell? ⟨w.heap.size + 1, 4, none⟩ = some (.bool neg4) ∧ w'.cell? ⟨w.heap.size + 1, 5, none⟩ = some (.slice A4 l4.length c4) ∧ w'.cell? ⟨b6, 0, none⟩ = some (.int .i64 s6) ∧ w'.cell? ⟨b6, 1, none⟩ = some (.bool neg6) ∧ w'.cell? ⟨b6, 2, none⟩ = some (.slice A6 l6.length c6) ∧ w'.cell? ⟨b8, 0, none⟩ = some (.int .i64 s10) ∧ w'.cell? ⟨b8, 1, none⟩ = some (.bool neg10) ∧ w'.cell? ⟨b8, 2, none⟩ = some (.slice A10 l10.length c10) ∧ w'.cell? ⟨b9, 0, none⟩ = some (.int .i64 s11) ∧ w'.cell? ⟨b9, 1, none⟩ = some (.bool neg11) ∧ w'.cell? ⟨b9, 2, none⟩ = some (.slice A11 l11.length c11)) (first | with_reducible exact ⟨(cell_set6 _ _ _ _ _ _ _ _ (by omega)).trans (keep_cell hbw q1 k1_0), (cell_set6 _ _ _ _ _ _ _ _ (by omega)).trans (keep_cell hbw q1 k1_1), (cell_set6 _ _ _ _ _ _ _ _ (by omega)).trans (keep_cell hbw q1 k1_2), (cell_set6 _ _ _ _ _ _ _ _ (by omega)).trans (keep_cell hbw q1 k1_3), (cell_set6 _ _ _ _ _ _ _ _ (by omega)).trans (keep_cell hbw q1 k1_4), (cell_set6 _ _ _ _ _ _ _ _ (by omega)).trans (keep_cell hbw q1 k1_5), (cell_set6 _ _ _ _ _ _ _ _ (by omega)).trans (keep_cell hbw qb6 kb6_0), (cell_set6 _ _ _ _ _ _ _ _ (by omega)).trans (keep_cell hbw qb6 kb6_1), (cell_set6 _ _ _ _ _ _ _ _ (by omega)).trans (keep_cell hbw qb6 kb6_2), (cell_set6 _ _ _ _ _ _ _ _ (by omega)).trans (keep_cell hbw qb8 kb8_0), (cell_set6 _ _ _ _ _ _ _ _ (by omega)).trans (keep_cell hbw qb8 kb8_1), (cell_set6 _ _ _ _ _ _ _ _ (by omega)).trans (keep_cell hbw qb8 kb8_2), (cell_set6 _ _ _ _ _ _ _ _ (by omega)).trans (keep_cell hbw qb9 kb9_0), (cell_set6 _ _ _ _ _ _ _ _ (by omega)).trans (keep_cell hbw qb9 kb9_1), (cell_set6 _ _ _ _ _ _ _ _ (by omega)).trans (keep_cell hbw qb9 kb9_2)⟩ | with_reducible exact (unhide KEEP) _ (by (repeat (first | with_reducible exact Below.refl _ _ | with_reducible assumption | with_reducible refine Below.drew ?_ | with_reducible refine below_alloc ?_ _)))) (first | (go_at_call_of 125 (Value.agg #[.int .i64 s10, .bool neg10, .slice A10 l10.length c10]); refine ((unhide HR1) s10 neg10 A10 c10 l10 s11 neg11 A11 c11 l11 _ (below_step' hw0 (by (repeat (first | with_reducible exact Below.refl _ _ | with_reducible assumption | with_reducible refine Below.drew ?_ | with_reducible refine below_alloc ?_ _)))) (IntF.below (unhide H10) (by (repeat (first | with_reducible exact Below.refl _ _ | with_reducible assumption | with_reducible refine Below.drew ?_ | with_reducible refine below_alloc ?_ _)))) (IntF.below (unhide H11) (by (repeat (first | with_reducible exact Below.refl _ _ | with_reducible assumption | with_reducible refine Below.drew ?_ | with_reducible refine below_alloc ?_ _))))).mono ?_; rintro e w' ⟨s12, neg12, A12, c12, l12, rfl, hf12, hb12⟩; have hbw := below_step (w := W4) (by (repeat (first | with_reducible exact Below.refl _ _ | with_reducible assumption | with_reducible refine Below.drew ?_ | with_reducible refine below_alloc ?_ _))) hb12; have hsw := hbw.size; obtain ⟨hc, hfz⟩ := bcell hbw) | (go_at_call_of 125 (Value.agg #[.int .i64 s4, .bool neg4, .slice A4 l4.length c4]); refine ((unhide HE) s4 neg4 A4 c4 l4 s11 neg11 A11 c11 l11 _ (below_step' hw0 (by (repeat (first | with_reducible exact Below.refl _ _ | with_reducible assumption | with_reducible refine Below.drew ?_ | with_reducible refine below_alloc ?_ _)))) (IntF.below (unhide H4) (by (repeat (first | with_reducible exact Below.refl _ _ | with_reducible assumption | with_reducible refine Below.drew ?_ | with_reducible refine below_alloc ?_ _)))) (IntF.below (unhide H11) (by (repeat (first | with_reducible exact Below.refl _ _ | with_reducible assumption | with_reducible refine Below.drew ?_ | with_reducible refine below_alloc ?_ _))))).mono ?_; rintro e w' ⟨s13, neg13, A13, c13, l13, rfl, hf13, hb13⟩; have hf12 := IntF.below (IntF.below hf12 (by (repeat (first | with_reducible exact Below.refl _ _ | with_reducible assumption | with_reducible refine Below.drew ?_ | with_reducible refine below_alloc ?_ _)))) hb13; have hbw := below_step (w := W4) (by (repeat (first | with_reducible exact Below.refl _ _ | with_reducible assumption | with_reducible refine Below.drew ?_ | with_reducible refine below_alloc ?_ _))) hb13; have hsw := hbw.size; obtain ⟨hc, hfz⟩ := bcell hbw) | (go_at_call_of 112 (Value.agg #[.int .i64 s6, .bool neg6, .slice A6 l6.length c6]); refine ((unhide HR2) s6 neg6 A6 c6 l6 s13 neg13 A13 c13 l13 _ (below_step' hw0 (by (repeat (first | with_reducible exact Below.refl _ _ | with_reducible assumption | with_reducible refine Below.drew ?_ | with_reducible refine below_alloc ?_ _)))) (IntF.below (unhide H6) (by (repeat (first | with_reducible exact Below.refl _ _ | with_reducible assumption | with_reducible refine Below.drew ?_ | with_reducible refine below_alloc ?_ _)))) (IntF.below hf13 (by (repeat (first | with_reducible exact Below.refl _ _ | with_reducible assumption | with_reducible refine Below.drew ?_ | with_reducible refine below_alloc ?_ _))))).mono ?_; rintro e w' ⟨s14, neg14, A14, c14, l14, rfl, hf14, hb14⟩; have hf12 := IntF.below (IntF.below hf12 (by (repeat (first | with_reducible exact Below.refl _ _ | with_reducible assumption | with_reducible refine Below.drew ?_ | with_reducible refine below_alloc ?_ _)))) hb14; have hf13 := IntF.below (IntF.below hf13 (by (repeat (first | with_reducible exact Below.refl _ _ | with_reducible assumption | with_reducible refine Below.drew ?_ | with_reducible refine below_alloc ?_ _)))) hb14; have hbw := below_step (w := W4) (by (repeat (first | with_reducible exact Below.refl _ _ | with_reducible assumption | with_reducible refine Below.drew ?_ | with_reducible refine below_alloc ?_ _))) hb14; have hsw := hbw.size; obtain ⟨hc, hfz⟩ := bcell hbw))
          have hblk : w'.heap[w.heap.size + 1 + 1]? = some (.cells #[.int .i64 0, .bool false, .slice none 0 0, .int .i64 0, .bool false, .slice none 0 0] 63 (0, 0)) := (hbw.block _ q2).trans NR.out
          have HBLK := Lib.hid hblk
          have hb9 : Below w.heap.size w w' := below_step' hw0 hbw
          clear hblk
          go_wp2_with fail
          exact bodyPost_ret (v := (Value.agg #[.int .i64 s12, .bool neg12, .slice A12 l12.length c12, .int .i64 s14, .bool neg14, .slice A14 l14.length c14])) (by simp [results, Tryz.results82, go_sem, hc, k2_0, k2_1, k2_2, k2_3, k2_4, k2_5, q2]) rfl
            ⟨s12, neg12, A12, c12, l12, s14, neg14, A14, c14, l14, rfl, (hf12).upto HBLK.out (noWord6 _ _ _ _ _ _ _ _ _ _) (set6_grown _ _ _ _ _ _ _ _), (hf14).upto HBLK.out (noWord6 _ _ _ _ _ _ _ _ _ _) (set6_grown _ _ _ _ _ _ _ _), hb9.grown (set6_grown _ _ _ _ _ _ _ _) hb9.size (fun k hk => by injection hk with hk; omega)⟩

end Go.Proofs.YtpjgoogeokbaaaaGreatDoor
/- The walk through the product of two quotients. -/
namespace Go.Proofs.YtpjgoogeokbaaaaGreatDoor
open Go.RowKit

end Go.Proofs.YtpjgoogeokbaaaaGreatDoor
/- The opposite of a quotient. -/
namespace Go.Proofs.YtpjgoogeokbaaaaGreatDoor
open Go.RowKit

set_option maxRecDepth 100000 in
set_option maxHeartbeats 8000000 in
theorem rneg_any (s1 : Int) (neg1 : Bool) (A1 : Option Addr) (c1 : Nat) (l1 : List Nat) (z1 : Int) (s2 : Int) (neg2 : Bool) (A2 : Option Addr) (c2 : Nat) (l2 : List Nat) (z2 : Int) (w : World) (h1 : IntF w s1 neg1 A1 c1 l1 z1) (h2 : IntF w s2 neg2 A2 c2 l2 z2) :
    Calls Tryz.prog 87 #[(Value.agg #[.int .i64 s1, .bool neg1, .slice A1 l1.length c1, .int .i64 s2, .bool neg2, .slice A2 l2.length c2])] w fun e w' => PairR w (-z1) z2 e w' := by
  have H1 := hide h1
  have H2 := hide h2
  clear h1 h2
  go_enter Tryz.func87, Tryz.ntmps87
  go_wp2_with fail
  obtain ⟨n0, n1, hsz, hw0⟩ := two_new w (.cells #[.int .i64 s1, .bool neg1, .slice A1 l1.length c1, .int .i64 s2, .bool neg2, .slice A2 l2.length c2] 63) (.cells #[.int .i64 0, .bool false, .slice none 0 0, .int .i64 0, .bool false, .slice none 0 0] 63)
  generalize ((w.alloc (.cells #[.int .i64 s1, .bool neg1, .slice A1 l1.length c1, .int .i64 s2, .bool neg2, .slice A2 l2.length c2] 63)).alloc (.cells #[.int .i64 0, .bool false, .slice none 0 0, .int .i64 0, .bool false, .slice none 0 0] 63)) = W0 at *
  have k0_0 : W0.cell? ⟨w.heap.size, 0, none⟩ = some (.int .i64 s1) := cells_of n0 0
  have k0_1 : W0.cell? ⟨w.heap.size, 1, none⟩ = some (.bool neg1) := cells_of n0 1
  have k0_2 : W0.cell? ⟨w.heap.size, 2, none⟩ = some (.slice A1 l1.length c1) := cells_of n0 2
  have k0_3 : W0.cell? ⟨w.heap.size, 3, none⟩ = some (.int .i64 s2) := cells_of n0 3
  have k0_4 : W0.cell? ⟨w.heap.size, 4, none⟩ = some (.bool neg2) := cells_of n0 4
  have k0_5 : W0.cell? ⟨w.heap.size, 5, none⟩ = some (.slice A2 l2.length c2) := cells_of n0 5
  have q0 : w.heap.size < W0.heap.size := by omega
  have k1_0 : W0.cell? ⟨w.heap.size + 1, 0, none⟩ = some (.int .i64 0) := cells_of n1 0
  have k1_1 : W0.cell? ⟨w.heap.size + 1, 1, none⟩ = some (.bool false) := cells_of n1 1
  have k1_2 : W0.cell? ⟨w.heap.size + 1, 2, none⟩ = some (.slice none 0 0) := cells_of n1 2
  have k1_3 : W0.cell? ⟨w.heap.size + 1, 3, none⟩ = some (.int .i64 0) := cells_of n1 3
  have k1_4 : W0.cell? ⟨w.heap.size + 1, 4, none⟩ = some (.bool false) := cells_of n1 4
  have k1_5 : W0.cell? ⟨w.heap.size + 1, 5, none⟩ = some (.slice none 0 0) := cells_of n1 5
  have q1 : w.heap.size + 1 < W0.heap.size := by omega
  have f1_0 := unfrozen_of n1 0
  have f1_1 := unfrozen_of n1 1
  have f1_2 := unfrozen_of n1 2
  have f1_3 := unfrozen_of n1 3
  have f1_4 := unfrozen_of n1 4
  have f1_5 := unfrozen_of n1 5
  have NR := Lib.hid n1
  clear n0 n1
  go_region_held3 (fun w' => w'.cell? ⟨w.heap.size, 0, none⟩ = some (.int .i64 s1) ∧ w'.cell? ⟨w.heap.size, 1, none⟩ = some (.bool neg1) ∧ w'.cell? ⟨w.heap.size, 2, none⟩ = some (.slice A1 l1.length c1) ∧ w'.cell? ⟨w.heap.size, 3, none⟩ = some (.int .i64 s2) ∧ w'.cell? ⟨w.heap.size, 4, none⟩ = some (.bool neg2) ∧ w'.cell? ⟨w.heap.size, 5, none⟩ = some (.slice A2 l2.length c2)) ((first | with_reducible exact ⟨(hc _ _ q0).trans k0_0, (hc _ _ q0).trans k0_1, (hc _ _ q0).trans k0_2, (hc _ _ q0).trans k0_3, (hc _ _ q0).trans k0_4, (hc _ _ q0).trans k0_5⟩ | with_reducible exact ⟨k0_0, k0_1, k0_2, k0_3, k0_4, k0_5⟩ | with_reducible exact ⟨(cell_set6 _ _ _ _ _ _ _ _ (by omega)).trans ((hc _ _ q0).trans k0_0), (cell_set6 _ _ _ _ _ _ _ _ (by omega)).trans ((hc _ _ q0).trans k0_1), (cell_set6 _ _ _ _ _ _ _ _ (by omega)).trans ((hc _ _ q0).trans k0_2), (cell_set6 _ _ _ _ _ _ _ _ (by omega)).trans ((hc _ _ q0).trans k0_3), (cell_set6 _ _ _ _ _ _ _ _ (by omega)).trans ((hc _ _ q0).trans k0_4), (cell_set6 _ _ _ _ _ _ _ _ (by omega)).trans ((hc _ _ q0).trans k0_5)⟩ | exact ⟨(hc _ _ q0).trans k0_0, (hc _ _ q0).trans k0_1, (hc _ _ q0).trans k0_2, (hc _ _ q0).trans k0_3, (hc _ _ q0).trans k0_4, (hc _ _ q0).trans k0_5⟩ | exact ⟨k0_0, k0_1, k0_2, k0_3, k0_4, k0_5⟩ | exact ⟨(cell_set6 _ _ _ _ _ _ _ _ (by omega)).trans ((hc _ _ q0).trans k0_0), (cell_set6 _ _ _ _ _ _ _ _ (by omega)).trans ((hc _ _ q0).trans k0_1), (cell_set6 _ _ _ _ _ _ _ _ (by omega)).trans ((hc _ _ q0).trans k0_2), (cell_set6 _ _ _ _ _ _ _ _ (by omega)).trans ((hc _ _ q0).trans k0_3), (cell_set6 _ _ _ _ _ _ _ _ (by omega)).trans ((hc _ _ q0).trans k0_4), (cell_set6 _ _ _ _ _ _ _ _ (by omega)).trans ((hc _ _ q0).trans k0_5)⟩)) (first | (go_at_call_of 129 (Value.agg #[.int .i64 s1, .bool neg1, .slice A1 l1.length c1]); refine (neg_any s1 neg1 A1 c1 l1 z1 _ (by exact (unhide H1).below (below_step' hw0 (by (first | assumption | (repeat (first | exact Below.refl _ _ | assumption | refine Below.drew ?_ | (refine Below.alloc ?_ (by simp <;> omega) _)))))))).mono ?_; rintro e w' ⟨s5, neg5, A5, c5, l5, rfl, hf5, hb⟩; have hbw := below_step (w := W0) (by (first | assumption | (repeat (first | exact Below.refl _ _ | assumption | refine Below.drew ?_ | (refine Below.alloc ?_ (by simp <;> omega) _))))) hb; obtain ⟨hc, hfz⟩ := bcell hbw))
  have hblk : w'.heap[w.heap.size + 1]? = some (.cells #[.int .i64 0, .bool false, .slice none 0 0, .int .i64 0, .bool false, .slice none 0 0] 63 (0, 0)) := (hbw.block _ q1).trans NR.out
  have HBLK := Lib.hid hblk
  have hb9 : Below w.heap.size w w' := below_step' hw0 hbw
  clear hblk
  go_wp2_with fail
  exact bodyPost_ret (v := (Value.agg #[.int .i64 s5, .bool neg5, .slice A5 l5.length c5, .int .i64 s2, .bool neg2, .slice A2 l2.length c2])) (by simp [results, Tryz.results87, go_sem, hc, k1_0, k1_1, k1_2, k1_3, k1_4, k1_5, q1]) rfl
    ⟨s5, neg5, A5, c5, l5, s2, neg2, A2, c2, l2, rfl, (hf5).upto HBLK.out (noWord6 _ _ _ _ _ _ _ _ _ _) (set6_grown _ _ _ _ _ _ _ _), ((unhide H2).below (below_step' hw0 hbw)).upto HBLK.out (noWord6 _ _ _ _ _ _ _ _ _ _) (set6_grown _ _ _ _ _ _ _ _), hb9.grown (set6_grown _ _ _ _ _ _ _ _) hb9.size (fun k hk => by injection hk with hk; omega)⟩

end Go.Proofs.YtpjgoogeokbaaaaGreatDoor
/- The inverse of a quotient. -/
namespace Go.Proofs.YtpjgoogeokbaaaaGreatDoor
open Go.RowKit

end Go.Proofs.YtpjgoogeokbaaaaGreatDoor
/- Quotients as rational numbers. -/
namespace Go.Proofs.YtpjgoogeokbaaaaGreatDoor
open Go.RowKit

/-- Function F makes of the quotient x the quotient q, in every world that holds what w holds. -/
def OpQ1 (w : World) (F : Nat) (x q : Rat) : Prop := ∀ (s1 : Int) (neg1 : Bool) (A1 : Option Addr) (c1 : Nat) (l1 : List Nat) (s2 : Int) (neg2 : Bool) (A2 : Option Addr) (c2 : Nat) (l2 : List Nat) (W : World), Below w.heap.size w W → IntF W s1 neg1 A1 c1 l1 x.num → IntF W s2 neg2 A2 c2 l2 (x.den : Int) → Calls Tryz.prog F #[(Value.agg #[.int .i64 s1, .bool neg1, .slice A1 l1.length c1, .int .i64 s2, .bool neg2, .slice A2 l2.length c2])] W fun e w' => PairR W q.num (q.den : Int) e w'
/-- Function F makes of the quotients x and y the quotient q. -/
def OpQ2 (w : World) (F : Nat) (x y q : Rat) : Prop := ∀ (s1 : Int) (neg1 : Bool) (A1 : Option Addr) (c1 : Nat) (l1 : List Nat) (s2 : Int) (neg2 : Bool) (A2 : Option Addr) (c2 : Nat) (l2 : List Nat) (s3 : Int) (neg3 : Bool) (A3 : Option Addr) (c3 : Nat) (l3 : List Nat) (s4 : Int) (neg4 : Bool) (A4 : Option Addr) (c4 : Nat) (l4 : List Nat) (W : World), Below w.heap.size w W → IntF W s1 neg1 A1 c1 l1 x.num → IntF W s2 neg2 A2 c2 l2 (x.den : Int) → IntF W s3 neg3 A3 c3 l3 y.num → IntF W s4 neg4 A4 c4 l4 (y.den : Int) → Calls Tryz.prog F #[(Value.agg #[.int .i64 s1, .bool neg1, .slice A1 l1.length c1, .int .i64 s2, .bool neg2, .slice A2 l2.length c2]), (Value.agg #[.int .i64 s3, .bool neg3, .slice A3 l3.length c3, .int .i64 s4, .bool neg4, .slice A4 l4.length c4])] W fun e w' => PairR W q.num (q.den : Int) e w'
theorem OpQ1.mono {w w' : World} {F : Nat} {x q : Rat} (h : OpQ1 w F x q) (hb : Below w.heap.size w w') : OpQ1 w' F x q := fun _ _ _ _ _ _ _ _ _ _ W hW => h _ _ _ _ _ _ _ _ _ _ W (below_step' hb hW)
theorem OpQ2.mono {w w' : World} {F : Nat} {x y q : Rat} (h : OpQ2 w F x y q) (hb : Below w.heap.size w w') : OpQ2 w' F x y q := fun _ _ _ _ _ _ _ _ _ _ _ _ _ _ _ _ _ _ _ _ W hW => h _ _ _ _ _ _ _ _ _ _ _ _ _ _ _ _ _ _ _ _ W (below_step' hb hW)

/-- Numerator and denominator have at most K words. -/
def SzQ (K : Nat) (q : Rat) : Prop := Wd.Sz B64 K q.num ∧ Wd.Sz B64 K (q.den : Int)
theorem SzQ.mono {K L : Nat} {q : Rat} (h : SzQ K q) (hk : K ≤ L) : SzQ L q := ⟨h.1.mono B64_pos hk, h.2.mono B64_pos hk⟩
theorem SzQ.neg {K : Nat} {q : Rat} (h : SzQ K q) : SzQ K (-q) := ⟨by rw [Rat.neg_num]; exact h.1.neg, by rw [Rat.neg_den]; exact h.2⟩

theorem opq_neg (w : World) (x : Rat) : OpQ1 w 87 x (-x) := fun s1 neg1 A1 c1 l1 s2 neg2 A2 c2 l2 W _ f1 f2 => by
  rw [Rat.neg_num, Rat.neg_den]
  exact rneg_any s1 neg1 A1 c1 l1 _ s2 neg2 A2 c2 l2 _ W f1 f2
theorem opq_add {w : World} {K : Nat} (hT : Tab w) (x y : Rat) (hx : SzQ K x) (hy : SzQ K y) (hK : K + K + 1 ≤ lim) : OpQ2 w 82 x y (x + y) ∧ SzQ (K + K + 1) (x + y) := by
  have dx : (x.den : Int) ≠ 0 := by have := x.den_pos; omega
  have dy : (y.den : Int) ≠ 0 := by have := y.den_pos; omega
  obtain ⟨g, hg⟩ : ∃ g, g = x.den.gcd y.den := ⟨_, rfl⟩
  obtain ⟨xd, hxd⟩ : ∃ z, z = (x.den : Int).tdiv g := ⟨_, rfl⟩
  obtain ⟨yd, hyd⟩ : ∃ z, z = (y.den : Int).tdiv g := ⟨_, rfl⟩
  obtain ⟨m1, hm1⟩ : ∃ z, z = x.num * yd := ⟨_, rfl⟩
  obtain ⟨m2, hm2⟩ : ∃ z, z = y.num * xd := ⟨_, rfl⟩
  obtain ⟨n, hn⟩ : ∃ z, z = m1 + m2 := ⟨_, rfl⟩
  obtain ⟨h, hh⟩ : ∃ h, h = g.gcd n.natAbs := ⟨_, rfl⟩
  obtain ⟨e1, he1⟩ : ∃ z, z = (y.den : Int).tdiv h := ⟨_, rfl⟩
  have hp := Wd.add_parts_int x y g h n hg (by rw [hn, hm1, hm2, hxd, hyd]) hh
  have g0 : 0 < g := by rw [hg]; exact Nat.gcd_pos_of_pos_left _ x.den_pos
  have h0 : 0 < h := by rw [hh]; exact Nat.gcd_pos_of_pos_left _ g0
  have sg : Wd.Sz B64 K (g : Int) := by
    have := hx.2.gcd_left (b := (y.den : Int)) dx
    simpa [hg] using this
  have sh : Wd.Sz B64 K (h : Int) := by
    have := sg.gcd_left (b := n) (by omega)
    simpa [hh] using this
  have sxd : Wd.Sz B64 K xd := by rw [hxd]; exact hx.2.tdiv _
  have syd : Wd.Sz B64 K yd := by rw [hyd]; exact hy.2.tdiv _
  have sm1 : Wd.Sz B64 (K + K) m1 := by rw [hm1]; exact hx.1.mul syd
  have sm2 : Wd.Sz B64 (K + K) m2 := by rw [hm2]; exact hy.1.mul sxd
  have sn : Wd.Sz B64 (K + K + 1) n := by rw [hn]; exact sm1.add B64_pos sm2
  have se1 : Wd.Sz B64 K e1 := by rw [he1]; exact hy.2.tdiv _
  have B := B64_pos
  have up : ∀ z, Wd.Sz B64 K z → Wd.Sz B64 (K + K + 1) z := fun z hz => hz.mono B (by omega)
  refine ⟨?_, ⟨by rw [hp.1]; exact sn.tdiv _, by rw [hp.2]; exact ((hx.2.tdiv _).mul (hy.2.tdiv _)).mono B (by omega)⟩⟩
  rw [OpQ2, hp.1, hp.2]
  exact fun s1 neg1 A1 c1 l1 s2 neg2 A2 c2 l2 s3 neg3 A3 c3 l3 s4 neg4 A4 c4 l4 W hW f1 f2 f3 f4 => radd_walk s1 neg1 A1 c1 l1 s2 neg2 A2 c2 l2 s3 neg3 A3 c3 l3 s4 neg4 A4 c4 l4 x.num (x.den : Int) y.num (y.den : Int) (g : Int) xd yd m1 m2 n (h : Int) _ e1 _ W f1 f2 f3 f4
    (op_gcd (hT.below hW) (up _ hx.2) (up _ hy.2) hK (by simp [hg])) (op_quo (up _ hx.2) (up _ sg) hK (by omega) hxd) (op_quo (up _ hy.2) (up _ sg) hK (by omega) hyd)
    (op_mul (up _ hx.1) (up _ syd) hK hm1) (op_mul (up _ hy.1) (up _ sxd) hK hm2) (op_add (sm1.mono B (by omega)) (sm2.mono B (by omega)) hK hn)
    (op_gcd (hT.below hW) (up _ sg) sn hK (by simp [hh])) (op_quo sn (up _ sh) hK (by omega) rfl) (op_quo (up _ hy.2) (up _ sh) hK (by omega) he1) (op_mul (up _ sxd) (up _ se1) hK (by rw [hxd, he1]))

end Go.Proofs.YtpjgoogeokbaaaaGreatDoor
