/- Texts beneath a law of layer 1. -/
import Derived.Test.YtpjgoogeokbaaaaGreatDoorCk5
set_option maxRecDepth 100000
namespace Go.Proofs.YtpjgoogeokbaaaaGreatDoor
open Go.RowKit

set_option maxHeartbeats 4000000 in
theorem aji (s1 : Int) (bz : Bool) (A1 : Option Addr) (c1 : Nat) (l1 : List Nat) (z1 : Int) (s2 : Int) (cu : Bool) (A2 : Option Addr) (c2 : Nat) (l2 : List Nat) (z2 : Int) (w : World)
  (h1 : dz w s1 bz A1 c1 l1 z1) (h2 : dz w s2 cu A2 c2 l2 z2) (hl1 : l1.length ≤ lim) (hl2 : l2.length ≤ lim) :
  Calls Tryz.prog 112 #[.agg #[.int .i64 s1, .bool bz, .slice A1 l1.length c1], .agg #[.int .i64 s2, .bool cu, .slice A2 l2.length c2]] w fun e w' => Fp w (z1 * z2) e w' := by
 have pz := hide (fun W => vv s1 bz A1 c1 l1.length W)
 have HS2 := hide (fun W => vv s2 cu A2 c2 l2.length W)
 have hz := aif z1 z2
 have Ry : ∀ (A5 A6 : Option Addr) (c5 c6 : Nat) (l5 l6 : List Nat) (W : World), nz W A5 c5 l5 z1.natAbs → nz W A6 c6 l6 z2.natAbs → l5.length + l6.length ≤ 35184372088832 := fun _ _ _ _ _ _ _ g1 g2 => by
  have e1 := g1.len h1.Tt
  have e2 := g2.len h2.Tt
  rw [Rj] at hl1 hl2
  omega
 have G1 : ∀ W0, Below w.heap.size w W0 → Hid (∀ W, Below W0.heap.size W0 W → Calls Tryz.prog 128 #[.agg #[.int .i64 s1, .bool bz, .slice A1 l1.length c1]] W fun e w' => e = .returned (.int .i64 (gm z1)) ∧ Below W.heap.size W w') := fun W0 h0 W hW => Bl s1 bz A1 c1 l1 z1 W (dz.below h1 (au h0 hW))
 have G2 : ∀ W0, Below w.heap.size w W0 → Hid (∀ W, Below W0.heap.size W0 W → Calls Tryz.prog 128 #[.agg #[.int .i64 s2, .bool cu, .slice A2 l2.length c2]] W fun e w' => e = .returned (.int .i64 (gm z2)) ∧ Below W.heap.size W w') := fun W0 h0 W hW => Bl s2 cu A2 c2 l2 z2 W (dz.below h2 (au h0 hW))
 have B1 : ∀ W0, Below w.heap.size w W0 → Hid (∀ W, Below W0.heap.size W0 W → Calls Tryz.prog 153 #[.agg #[.int .i64 s1, .bool bz, .slice A1 l1.length c1]] W fun e w' => Gs W z1.natAbs e w') := fun W0 h0 W hW => Ez s1 bz A1 c1 l1 z1 W (dz.below h1 (au h0 hW))
 have B2 : ∀ W0, Below w.heap.size w W0 → Hid (∀ W, Below W0.heap.size W0 W → Calls Tryz.prog 153 #[.agg #[.int .i64 s2, .bool cu, .slice A2 l2.length c2]] W fun e w' => Gs W z2.natAbs e w') := fun W0 h0 W hW => Ez s2 cu A2 c2 l2 z2 W (dz.below h2 (au h0 hW))
 have ho1 : -1 ≤ gm z1 * gm z2 ∧ gm z1 * gm z2 ≤ 1 := by unfold gm; (repeat' split) <;> omega
 have Tm := h1.bounds
 have Tk := h2.bounds
 have hsz1 : l1.length = 0 → s1.natAbs = z1.natAbs ∧ z1.natAbs < Ku := fun h => by obtain ⟨e, _, e3⟩ := h1.Cj h; rw [e]; exact ⟨rfl, e3⟩
 have hsz2 : l2.length = 0 → s2.natAbs = z2.natAbs ∧ z2.natAbs < Ku := fun h => by obtain ⟨e, _, e3⟩ := h2.Cj h; rw [e]; exact ⟨rfl, e3⟩
 have Z1 := hide (fun W => Lg s1 Tm.1 Tm.2 W)
 have Z2 := hide (fun W => Lg s2 Tk.1 Tk.2 W)
 obtain ⟨m1, hm1⟩ : ∃ o, o = z1.natAbs := ⟨_, rfl⟩
 obtain ⟨m2, hm2⟩ : ∃ o, o = z2.natAbs := ⟨_, rfl⟩
 obtain ⟨o1, ajs⟩ : ∃ o, o = gm z1 := ⟨_, rfl⟩
 obtain ⟨o2, ajr⟩ : ∃ o, o = gm z2 := ⟨_, rfl⟩
 rw [← hm1] at B1 Ry hz hsz1
 rw [← hm2] at B2 Ry hz hsz2
 rw [← ajs] at G1 hz ho1
 rw [← ajr] at G2 hz ho1
 obtain ⟨op, hop⟩ : ∃ o, o = o1 * o2 := ⟨_, rfl⟩
 have e1 : IntKind.i64.wrap (o1 * o2) = op := by rw [hop]; exact IntWalk.i64_in _ om
 have e1' : wrap64 (o1 * o2) = op := by rw [hop]; exact IntWalk.wrap64_in _ om
 rw [← hop] at hz
 obtain ⟨ng, Wt⟩ : ∃ b, b = decide (op < 0) := ⟨_, rfl⟩
 rw [← Wt] at hz
 obtain ⟨Z, hZ⟩ : ∃ o, o = z1 * z2 := ⟨_, rfl⟩
 rw [← hZ] at hz ⊢
 have HZ := Lib.hid hz.symm
 have Fu := hide G1; have HG2 := hide G2; have HB1 := hide B1; have HB2 := hide B2; have HLEN := hide Ry
 have ngE := Wt.symm
 clear hm1 hm2 ajs ajr ho1 hop Wt hz hZ G1 G2 B1 B2 h1 h2 Tm Tk Ry hl1 hl2
 by_cases hs : l1.length = 0 ∧ l2.length = 0
 ·
  obtain ⟨a1, a2⟩ := hs
  rw [decide_eq_true a1] at pz
  rw [decide_eq_true a2] at HS2
  obtain ⟨y1, y2⟩ := hsz1 a1
  obtain ⟨y3, y4⟩ := hsz2 a2
  rw [y1] at Z1
  rw [y3] at Z2
  have hB1 : m1 < dm := by have := y2; rw [Ad] at this; rw [gu]; omega
  have hB2 : m2 < dm := by have := y4; rw [Ad] at this; rw [gu]; omega
  obtain ⟨hi', hhi⟩ : ∃ t, t = m1 * m2 / dm := ⟨_, rfl⟩
  obtain ⟨lo, hlo⟩ : ∃ t, t = m1 * m2 % dm := ⟨_, rfl⟩
  have hM := Uh m1 m2 hB1 hB2
  rw [← hhi, ← hlo] at hM
  have HM := hide hM
  have Kr : lo < dm := by rw [hlo]; exact Nat.mod_lt _ (Nat.lt_trans Nat.zero_lt_one wz)
  have HW := hide (fun W => Sc ng lo Kr W)
  have Dg : hi' = 0 → lo = m1 * m2 := fun h => by
   have := Nat.div_add_mod (m1 * m2) dm
   rw [← hhi, ← hlo, h] at this
   omega
  by_cases hh : hi' = 0
  ·
   have hb0 : ((hi' : Int) == 0) = true := beq_iff_eq.2 om
   have hW' : ∀ W, Calls Tryz.prog 147 #[.bool ng, .int .u64 ((lo : Nat) : Int)] W fun e w' => Fp W Z e w' := fun W => by
    have := (aa HW) W
    rw [Dg hh] at this ⊢
    rw [HZ.out]; exact this
   have HWW := hide hW'
   clear hW' HW Dg hh hlo hhi hM hB1 hB2 Kr y1 y2 y3 y4 hsz1 hsz2 a1 a2
   go_enter Tryz.func112, Tryz.ntmps112
   go_wp2_with fail
   obtain ⟨n1, n2, n3, hsz, hw0⟩ := ll w (.cells #[.int .i64 s1, .bool bz, .slice A1 l1.length c1] 61) (.cells #[.int .i64 s2, .bool cu, .slice A2 l2.length c2] 61) (.cells #[.int .i64 0, .bool false, .slice none 0 0] 61)
   generalize (((w.alloc (.cells #[.int .i64 s1, .bool bz, .slice A1 l1.length c1] 61)).alloc (.cells #[.int .i64 s2, .bool cu, .slice A2 l2.length c2] 61)).alloc (.cells #[.int .i64 0, .bool false, .slice none 0 0] 61)) = W0 at *
   have k1 := ag n1 0
   have k2 := ag n1 1
   have k3 := ag n1 2
   simp only [Array.getElem?_eq_getElem, ku, ko, kg] at k1 k2 k3
   have k4 := ag n2 0
   have k5 := ag n2 1
   have k6 := ag n2 2
   simp only [Array.getElem?_eq_getElem, ku, ko, kg] at k4 k5 k6
   have q0 : w.heap.size < W0.heap.size := by omega
   have q1 : w.heap.size + 1 < W0.heap.size := by omega
   have q2 : w.heap.size + 1 + 1 < W0.heap.size := by omega
   have k7 := ag n3 0
   have k8 := ag n3 1
   have k9 := ag n3 2
   simp only [Array.getElem?_eq_getElem, ku, ko, kg] at k7 k8 k9
   have f7 := ah n3 0
   have f8 := ah n3 1
   have f9 := ah n3 2
   have N3 := Lib.hid n3
   clear n3
   clear n1 n2
   have G1 := (aa Fu) W0 hw0; have G2 := (aa HG2) W0 hw0; have B1 := (aa HB1) W0 hw0; have B2 := (aa HB2) W0 hw0
   go_region_held3 (fun w' => w'.cell? ⟨w.heap.size, 0, none⟩ = some (.int .i64 s1) ∧ w'.cell? ⟨w.heap.size, 1, none⟩ = some (.bool bz) ∧ w'.cell? ⟨w.heap.size, 2, none⟩ = some (.slice A1 l1.length c1) ∧ w'.cell? ⟨w.heap.size + 1, 0, none⟩ = some (.int .i64 s2) ∧ w'.cell? ⟨w.heap.size + 1, 1, none⟩ = some (.bool cu) ∧ w'.cell? ⟨w.heap.size + 1, 2, none⟩ = some (.slice A2 l2.length c2)) ((first | exact ⟨(hc _ _ q0).trans k1, (hc _ _ q0).trans k2, (hc _ _ q0).trans k3, (hc _ _ q1).trans k4, (hc _ _ q1).trans k5, (hc _ _ q1).trans k6⟩ | exact ⟨k1, k2, k3, k4, k5, k6⟩)) (first | (go_at_call_of 128 (Value.agg #[.int .i64 s1, .bool bz, .slice A1 l1.length c1]); refine ((aa G1) _ bem).mono ?_; rintro e w' ⟨rfl, hb⟩; have hbw := ay (w := W0) bem hb; obtain ⟨hc, hfz⟩ := az hbw) | (go_at_call_of 128 (Value.agg #[.int .i64 s2, .bool cu, .slice A2 l2.length c2]); refine ((aa G2) _ bem).mono ?_; rintro e w' ⟨rfl, hb⟩; have hbw := ay (w := W0) bem hb; obtain ⟨hc, hfz⟩ := az hbw))
   go_wp2_with fail
   refine ((aa pz) _).mono ?_
   rintro e w1 ⟨rfl, hw1⟩
   have zf := qf (w := W0) bem hw1
   obtain ⟨hc, hfz⟩ := az zf
   clear hw1
   go_wp2_with fail
   refine ((aa HS2) _).mono ?_
   rintro e w2 ⟨rfl, hw2⟩
   have hbw2 := qf (w := W0) bem hw2
   obtain ⟨hc, hfz⟩ := az hbw2
   clear hw2
   go_wp2_with fail
   go_region_held3 (fun w' => w'.cell? ⟨w.heap.size, 0, none⟩ = some (.int .i64 s1) ∧ w'.cell? ⟨w.heap.size, 1, none⟩ = some (.bool bz) ∧ w'.cell? ⟨w.heap.size, 2, none⟩ = some (.slice A1 l1.length c1) ∧ w'.cell? ⟨w.heap.size + 1, 0, none⟩ = some (.int .i64 s2) ∧ w'.cell? ⟨w.heap.size + 1, 1, none⟩ = some (.bool cu) ∧ w'.cell? ⟨w.heap.size + 1, 2, none⟩ = some (.slice A2 l2.length c2)) ((first | exact ⟨(hc _ _ q0).trans k1, (hc _ _ q0).trans k2, (hc _ _ q0).trans k3, (hc _ _ q1).trans k4, (hc _ _ q1).trans k5, (hc _ _ q1).trans k6⟩ | exact ⟨k1, k2, k3, k4, k5, k6⟩)) (first | (go_at_call_of 148 (Value.int .i64 s1); refine ((aa Z1) _).mono ?_; rintro e w' ⟨rfl, Kb⟩; subst Kb) | (go_at_call_of 148 (Value.int .i64 s2); refine ((aa Z2) _).mono ?_; rintro e w' ⟨rfl, Kb⟩; subst Kb) | (go_at_call 151; refine ((aa HM) _).mono ?_; rintro e w' ⟨rfl, Kb⟩; subst Kb))
   go_wp2_with fail
   refine ((aa HWW) _).mono ?_
   rintro e w' ⟨s, uf, A', cap', l', rfl, hf, hb⟩
   have hbw := ay (w := W0) bem hb
   obtain ⟨hc, hfz⟩ := az hbw
   have hblk : w'.heap[w.heap.size + 1 + 1]? = some (.cells #[.int .i64 0, .bool false, .slice none 0 0] 61 (0, 0)) := (hbw.block _ q2).trans N3.out
   have jd := Lib.hid hblk
   have gp : Below w.heap.size w w' := au hw0 hbw
   clear hblk
   go_wp2_with fail
   exact bodyPost_ret (v := .agg #[.int .i64 s, .bool uf, .slice A' l'.length cap']) (by simp [results, Tryz.results112, go_sem, hc, k7, k8, k9, q2]) rfl
    ⟨s, uf, A', cap', l', rfl, hf.upto jd.out (wu _ _ _ _ _) (jg _ _ _ _ _), gp.grown (jg _ _ _ _ _) gp.size (fun k hk => by injection hk with hk; omega)⟩
  ·
   have hb0 : ((hi' : Int) == 0) = false := beq_eq_false_iff_ne.2 om
   clear HW Dg hh hlo hhi hM hB1 hB2 Kr y1 y2 y3 y4 hsz1 hsz2 a1 a2
   go_enter Tryz.func112, Tryz.ntmps112
   go_wp2_with fail
   obtain ⟨n1, n2, n3, hsz, hw0⟩ := ll w (.cells #[.int .i64 s1, .bool bz, .slice A1 l1.length c1] 61) (.cells #[.int .i64 s2, .bool cu, .slice A2 l2.length c2] 61) (.cells #[.int .i64 0, .bool false, .slice none 0 0] 61)
   generalize (((w.alloc (.cells #[.int .i64 s1, .bool bz, .slice A1 l1.length c1] 61)).alloc (.cells #[.int .i64 s2, .bool cu, .slice A2 l2.length c2] 61)).alloc (.cells #[.int .i64 0, .bool false, .slice none 0 0] 61)) = W0 at *
   have k1 := ag n1 0
   have k2 := ag n1 1
   have k3 := ag n1 2
   simp only [Array.getElem?_eq_getElem, ku, ko, kg] at k1 k2 k3
   have k4 := ag n2 0
   have k5 := ag n2 1
   have k6 := ag n2 2
   simp only [Array.getElem?_eq_getElem, ku, ko, kg] at k4 k5 k6
   have q0 : w.heap.size < W0.heap.size := by omega
   have q1 : w.heap.size + 1 < W0.heap.size := by omega
   have q2 : w.heap.size + 1 + 1 < W0.heap.size := by omega
   have k7 := ag n3 0
   have k8 := ag n3 1
   have k9 := ag n3 2
   simp only [Array.getElem?_eq_getElem, ku, ko, kg] at k7 k8 k9
   have f7 := ah n3 0
   have f8 := ah n3 1
   have f9 := ah n3 2
   have N3 := Lib.hid n3
   clear n3
   clear n1 n2
   have G1 := (aa Fu) W0 hw0; have G2 := (aa HG2) W0 hw0; have B1 := (aa HB1) W0 hw0; have B2 := (aa HB2) W0 hw0
   go_region_held3 (fun w' => w'.cell? ⟨w.heap.size, 0, none⟩ = some (.int .i64 s1) ∧ w'.cell? ⟨w.heap.size, 1, none⟩ = some (.bool bz) ∧ w'.cell? ⟨w.heap.size, 2, none⟩ = some (.slice A1 l1.length c1) ∧ w'.cell? ⟨w.heap.size + 1, 0, none⟩ = some (.int .i64 s2) ∧ w'.cell? ⟨w.heap.size + 1, 1, none⟩ = some (.bool cu) ∧ w'.cell? ⟨w.heap.size + 1, 2, none⟩ = some (.slice A2 l2.length c2)) ((first | exact ⟨(hc _ _ q0).trans k1, (hc _ _ q0).trans k2, (hc _ _ q0).trans k3, (hc _ _ q1).trans k4, (hc _ _ q1).trans k5, (hc _ _ q1).trans k6⟩ | exact ⟨k1, k2, k3, k4, k5, k6⟩)) (first | (go_at_call_of 128 (Value.agg #[.int .i64 s1, .bool bz, .slice A1 l1.length c1]); refine ((aa G1) _ bem).mono ?_; rintro e w' ⟨rfl, hb⟩; have hbw := ay (w := W0) bem hb; obtain ⟨hc, hfz⟩ := az hbw) | (go_at_call_of 128 (Value.agg #[.int .i64 s2, .bool cu, .slice A2 l2.length c2]); refine ((aa G2) _ bem).mono ?_; rintro e w' ⟨rfl, hb⟩; have hbw := ay (w := W0) bem hb; obtain ⟨hc, hfz⟩ := az hbw))
   go_wp2_with fail
   refine ((aa pz) _).mono ?_
   rintro e w1 ⟨rfl, hw1⟩
   have zf := qf (w := W0) bem hw1
   obtain ⟨hc, hfz⟩ := az zf
   clear hw1
   go_wp2_with fail
   refine ((aa HS2) _).mono ?_
   rintro e w2 ⟨rfl, hw2⟩
   have hbw2 := qf (w := W0) bem hw2
   obtain ⟨hc, hfz⟩ := az hbw2
   clear hw2
   go_wp2_with fail
   go_region_held3 (fun w' => w'.cell? ⟨w.heap.size, 0, none⟩ = some (.int .i64 s1) ∧ w'.cell? ⟨w.heap.size, 1, none⟩ = some (.bool bz) ∧ w'.cell? ⟨w.heap.size, 2, none⟩ = some (.slice A1 l1.length c1) ∧ w'.cell? ⟨w.heap.size + 1, 0, none⟩ = some (.int .i64 s2) ∧ w'.cell? ⟨w.heap.size + 1, 1, none⟩ = some (.bool cu) ∧ w'.cell? ⟨w.heap.size + 1, 2, none⟩ = some (.slice A2 l2.length c2)) ((first | exact ⟨(hc _ _ q0).trans k1, (hc _ _ q0).trans k2, (hc _ _ q0).trans k3, (hc _ _ q1).trans k4, (hc _ _ q1).trans k5, (hc _ _ q1).trans k6⟩ | exact ⟨k1, k2, k3, k4, k5, k6⟩)) (first | (go_at_call_of 148 (Value.int .i64 s1); refine ((aa Z1) _).mono ?_; rintro e w' ⟨rfl, Kb⟩; subst Kb) | (go_at_call_of 148 (Value.int .i64 s2); refine ((aa Z2) _).mono ?_; rintro e w' ⟨rfl, Kb⟩; subst Kb) | (go_at_call 151; refine ((aa HM) _).mono ?_; rintro e w' ⟨rfl, Kb⟩; subst Kb))
   go_wp2_with fail
   go_region_with (first | (go_at_call_of 153 (Value.agg #[.int .i64 s1, .bool bz, .slice A1 l1.length c1]); refine ((aa B1) _ bem).mono ?_; rintro e w' ⟨A5, cap5, l5, rfl, zq, hb⟩; have hbw := ay (w := W0) bem hb; obtain ⟨hc, hfz⟩ := az hbw) | (go_at_call_of 153 (Value.agg #[.int .i64 s2, .bool cu, .slice A2 l2.length c2]); refine ((aa B2) _ bem).mono ?_; rintro e w' ⟨A6, cap6, l6, rfl, oz, hb⟩; have lu := zq.below hb; have hbw := ay (w := W0) bem hb; obtain ⟨hc, hfz⟩ := az hbw) | (go_at_call 154; refine (adj A5 A6 cap5 cap6 l5 l6 m1 m2 _ (by exact lu) (by exact oz) ((aa HLEN) _ _ _ _ _ _ _ lu oz)).mono ?_; rintro e w' ⟨A7, Az, l7, rfl, Ar, hb⟩; have hbw := ay (w := W0) bem hb; obtain ⟨hc, hfz⟩ := az hbw) | (go_at_call 152; refine (Bu ng A7 Az l7 (m1 * m2) _ (by exact Ar)).mono ?_; rw [← HZ.out]; rintro e w' ⟨s, uf, A', cap', l', rfl, hf, hb⟩; have hbw := ay (w := W0) bem hb; obtain ⟨hc, hfz⟩ := az hbw))
   all_goals
    have hblk : w'.heap[w.heap.size + 1 + 1]? = some (.cells #[.int .i64 0, .bool false, .slice none 0 0] 61 (0, 0)) := (hbw.block _ q2).trans N3.out
    have jd := Lib.hid hblk
    have gp : Below w.heap.size w w' := au hw0 hbw
    clear hblk
    go_wp2_with fail
    exact bodyPost_ret (v := .agg #[.int .i64 s, .bool uf, .slice A' l'.length cap']) (by simp [results, Tryz.results112, go_sem, hc, k7, k8, k9, q2]) rfl
     ⟨s, uf, A', cap', l', rfl, hf.upto jd.out (wu _ _ _ _ _) (jg _ _ _ _ _), gp.grown (jg _ _ _ _ _) gp.size (fun k hk => by injection hk with hk; omega)⟩
 ·
  by_cases a1 : l1.length = 0
  ·
   have a2 : ¬ l2.length = 0 := fun h => hs ⟨a1, h⟩
   rw [decide_eq_true a1] at pz
   rw [decide_eq_false a2] at HS2
   clear hsz1 hsz2 hs a1 a2
   go_enter Tryz.func112, Tryz.ntmps112
   go_wp2_with fail
   obtain ⟨n1, n2, n3, hsz, hw0⟩ := ll w (.cells #[.int .i64 s1, .bool bz, .slice A1 l1.length c1] 61) (.cells #[.int .i64 s2, .bool cu, .slice A2 l2.length c2] 61) (.cells #[.int .i64 0, .bool false, .slice none 0 0] 61)
   generalize (((w.alloc (.cells #[.int .i64 s1, .bool bz, .slice A1 l1.length c1] 61)).alloc (.cells #[.int .i64 s2, .bool cu, .slice A2 l2.length c2] 61)).alloc (.cells #[.int .i64 0, .bool false, .slice none 0 0] 61)) = W0 at *
   have k1 := ag n1 0
   have k2 := ag n1 1
   have k3 := ag n1 2
   simp only [Array.getElem?_eq_getElem, ku, ko, kg] at k1 k2 k3
   have k4 := ag n2 0
   have k5 := ag n2 1
   have k6 := ag n2 2
   simp only [Array.getElem?_eq_getElem, ku, ko, kg] at k4 k5 k6
   have q0 : w.heap.size < W0.heap.size := by omega
   have q1 : w.heap.size + 1 < W0.heap.size := by omega
   have q2 : w.heap.size + 1 + 1 < W0.heap.size := by omega
   have k7 := ag n3 0
   have k8 := ag n3 1
   have k9 := ag n3 2
   simp only [Array.getElem?_eq_getElem, ku, ko, kg] at k7 k8 k9
   have f7 := ah n3 0
   have f8 := ah n3 1
   have f9 := ah n3 2
   have N3 := Lib.hid n3
   clear n3
   clear n1 n2
   have G1 := (aa Fu) W0 hw0; have G2 := (aa HG2) W0 hw0; have B1 := (aa HB1) W0 hw0; have B2 := (aa HB2) W0 hw0
   go_region_held3 (fun w' => w'.cell? ⟨w.heap.size, 0, none⟩ = some (.int .i64 s1) ∧ w'.cell? ⟨w.heap.size, 1, none⟩ = some (.bool bz) ∧ w'.cell? ⟨w.heap.size, 2, none⟩ = some (.slice A1 l1.length c1) ∧ w'.cell? ⟨w.heap.size + 1, 0, none⟩ = some (.int .i64 s2) ∧ w'.cell? ⟨w.heap.size + 1, 1, none⟩ = some (.bool cu) ∧ w'.cell? ⟨w.heap.size + 1, 2, none⟩ = some (.slice A2 l2.length c2)) ((first | exact ⟨(hc _ _ q0).trans k1, (hc _ _ q0).trans k2, (hc _ _ q0).trans k3, (hc _ _ q1).trans k4, (hc _ _ q1).trans k5, (hc _ _ q1).trans k6⟩ | exact ⟨k1, k2, k3, k4, k5, k6⟩)) (first | (go_at_call_of 128 (Value.agg #[.int .i64 s1, .bool bz, .slice A1 l1.length c1]); refine ((aa G1) _ bem).mono ?_; rintro e w' ⟨rfl, hb⟩; have hbw := ay (w := W0) bem hb; obtain ⟨hc, hfz⟩ := az hbw) | (go_at_call_of 128 (Value.agg #[.int .i64 s2, .bool cu, .slice A2 l2.length c2]); refine ((aa G2) _ bem).mono ?_; rintro e w' ⟨rfl, hb⟩; have hbw := ay (w := W0) bem hb; obtain ⟨hc, hfz⟩ := az hbw))
   go_wp2_with fail
   refine ((aa pz) _).mono ?_
   rintro e w1 ⟨rfl, hw1⟩
   have zf := qf (w := W0) bem hw1
   obtain ⟨hc, hfz⟩ := az zf
   clear hw1
   go_wp2_with fail
   refine ((aa HS2) _).mono ?_
   rintro e w2 ⟨rfl, hw2⟩
   have hbw2 := qf (w := W0) bem hw2
   obtain ⟨hc, hfz⟩ := az hbw2
   clear hw2
   go_wp2_with fail
   go_region_with (first | (go_at_call_of 153 (Value.agg #[.int .i64 s1, .bool bz, .slice A1 l1.length c1]); refine ((aa B1) _ bem).mono ?_; rintro e w' ⟨A5, cap5, l5, rfl, zq, hb⟩; have hbw := ay (w := W0) bem hb; obtain ⟨hc, hfz⟩ := az hbw) | (go_at_call_of 153 (Value.agg #[.int .i64 s2, .bool cu, .slice A2 l2.length c2]); refine ((aa B2) _ bem).mono ?_; rintro e w' ⟨A6, cap6, l6, rfl, oz, hb⟩; have lu := zq.below hb; have hbw := ay (w := W0) bem hb; obtain ⟨hc, hfz⟩ := az hbw) | (go_at_call 154; refine (adj A5 A6 cap5 cap6 l5 l6 m1 m2 _ (by exact lu) (by exact oz) ((aa HLEN) _ _ _ _ _ _ _ lu oz)).mono ?_; rintro e w' ⟨A7, Az, l7, rfl, Ar, hb⟩; have hbw := ay (w := W0) bem hb; obtain ⟨hc, hfz⟩ := az hbw) | (go_at_call 152; refine (Bu ng A7 Az l7 (m1 * m2) _ (by exact Ar)).mono ?_; rw [← HZ.out]; rintro e w' ⟨s, uf, A', cap', l', rfl, hf, hb⟩; have hbw := ay (w := W0) bem hb; obtain ⟨hc, hfz⟩ := az hbw))
   all_goals
    have hblk : w'.heap[w.heap.size + 1 + 1]? = some (.cells #[.int .i64 0, .bool false, .slice none 0 0] 61 (0, 0)) := (hbw.block _ q2).trans N3.out
    have jd := Lib.hid hblk
    have gp : Below w.heap.size w w' := au hw0 hbw
    clear hblk
    go_wp2_with fail
    exact bodyPost_ret (v := .agg #[.int .i64 s, .bool uf, .slice A' l'.length cap']) (by simp [results, Tryz.results112, go_sem, hc, k7, k8, k9, q2]) rfl
     ⟨s, uf, A', cap', l', rfl, hf.upto jd.out (wu _ _ _ _ _) (jg _ _ _ _ _), gp.grown (jg _ _ _ _ _) gp.size (fun k hk => by injection hk with hk; omega)⟩
  ·
   skip
   rw [decide_eq_false a1] at pz
   clear hsz1 hsz2 hs a1
   go_enter Tryz.func112, Tryz.ntmps112
   go_wp2_with fail
   obtain ⟨n1, n2, n3, hsz, hw0⟩ := ll w (.cells #[.int .i64 s1, .bool bz, .slice A1 l1.length c1] 61) (.cells #[.int .i64 s2, .bool cu, .slice A2 l2.length c2] 61) (.cells #[.int .i64 0, .bool false, .slice none 0 0] 61)
   generalize (((w.alloc (.cells #[.int .i64 s1, .bool bz, .slice A1 l1.length c1] 61)).alloc (.cells #[.int .i64 s2, .bool cu, .slice A2 l2.length c2] 61)).alloc (.cells #[.int .i64 0, .bool false, .slice none 0 0] 61)) = W0 at *
   have k1 := ag n1 0
   have k2 := ag n1 1
   have k3 := ag n1 2
   simp only [Array.getElem?_eq_getElem, ku, ko, kg] at k1 k2 k3
   have k4 := ag n2 0
   have k5 := ag n2 1
   have k6 := ag n2 2
   simp only [Array.getElem?_eq_getElem, ku, ko, kg] at k4 k5 k6
   have q0 : w.heap.size < W0.heap.size := by omega
   have q1 : w.heap.size + 1 < W0.heap.size := by omega
   have q2 : w.heap.size + 1 + 1 < W0.heap.size := by omega
   have k7 := ag n3 0
   have k8 := ag n3 1
   have k9 := ag n3 2
   simp only [Array.getElem?_eq_getElem, ku, ko, kg] at k7 k8 k9
   have f7 := ah n3 0
   have f8 := ah n3 1
   have f9 := ah n3 2
   have N3 := Lib.hid n3
   clear n3
   clear n1 n2
   have G1 := (aa Fu) W0 hw0; have G2 := (aa HG2) W0 hw0; have B1 := (aa HB1) W0 hw0; have B2 := (aa HB2) W0 hw0
   go_region_held3 (fun w' => w'.cell? ⟨w.heap.size, 0, none⟩ = some (.int .i64 s1) ∧ w'.cell? ⟨w.heap.size, 1, none⟩ = some (.bool bz) ∧ w'.cell? ⟨w.heap.size, 2, none⟩ = some (.slice A1 l1.length c1) ∧ w'.cell? ⟨w.heap.size + 1, 0, none⟩ = some (.int .i64 s2) ∧ w'.cell? ⟨w.heap.size + 1, 1, none⟩ = some (.bool cu) ∧ w'.cell? ⟨w.heap.size + 1, 2, none⟩ = some (.slice A2 l2.length c2)) ((first | exact ⟨(hc _ _ q0).trans k1, (hc _ _ q0).trans k2, (hc _ _ q0).trans k3, (hc _ _ q1).trans k4, (hc _ _ q1).trans k5, (hc _ _ q1).trans k6⟩ | exact ⟨k1, k2, k3, k4, k5, k6⟩)) (first | (go_at_call_of 128 (Value.agg #[.int .i64 s1, .bool bz, .slice A1 l1.length c1]); refine ((aa G1) _ bem).mono ?_; rintro e w' ⟨rfl, hb⟩; have hbw := ay (w := W0) bem hb; obtain ⟨hc, hfz⟩ := az hbw) | (go_at_call_of 128 (Value.agg #[.int .i64 s2, .bool cu, .slice A2 l2.length c2]); refine ((aa G2) _ bem).mono ?_; rintro e w' ⟨rfl, hb⟩; have hbw := ay (w := W0) bem hb; obtain ⟨hc, hfz⟩ := az hbw))
   go_wp2_with fail
   refine ((aa pz) _).mono ?_
   rintro e w1 ⟨rfl, hw1⟩
   have zf := qf (w := W0) bem hw1
   obtain ⟨hc, hfz⟩ := az zf
   clear hw1
   go_wp2_with fail
   go_region_with (first | (go_at_call_of 153 (Value.agg #[.int .i64 s1, .bool bz, .slice A1 l1.length c1]); refine ((aa B1) _ bem).mono ?_; rintro e w' ⟨A5, cap5, l5, rfl, zq, hb⟩; have hbw := ay (w := W0) bem hb; obtain ⟨hc, hfz⟩ := az hbw) | (go_at_call_of 153 (Value.agg #[.int .i64 s2, .bool cu, .slice A2 l2.length c2]); refine ((aa B2) _ bem).mono ?_; rintro e w' ⟨A6, cap6, l6, rfl, oz, hb⟩; have lu := zq.below hb; have hbw := ay (w := W0) bem hb; obtain ⟨hc, hfz⟩ := az hbw) | (go_at_call 154; refine (adj A5 A6 cap5 cap6 l5 l6 m1 m2 _ (by exact lu) (by exact oz) ((aa HLEN) _ _ _ _ _ _ _ lu oz)).mono ?_; rintro e w' ⟨A7, Az, l7, rfl, Ar, hb⟩; have hbw := ay (w := W0) bem hb; obtain ⟨hc, hfz⟩ := az hbw) | (go_at_call 152; refine (Bu ng A7 Az l7 (m1 * m2) _ (by exact Ar)).mono ?_; rw [← HZ.out]; rintro e w' ⟨s, uf, A', cap', l', rfl, hf, hb⟩; have hbw := ay (w := W0) bem hb; obtain ⟨hc, hfz⟩ := az hbw))
   all_goals
    have hblk : w'.heap[w.heap.size + 1 + 1]? = some (.cells #[.int .i64 0, .bool false, .slice none 0 0] 61 (0, 0)) := (hbw.block _ q2).trans N3.out
    have jd := Lib.hid hblk
    have gp : Below w.heap.size w w' := au hw0 hbw
    clear hblk
    go_wp2_with fail
    exact bodyPost_ret (v := .agg #[.int .i64 s, .bool uf, .slice A' l'.length cap']) (by simp [results, Tryz.results112, go_sem, hc, k7, k8, k9, q2]) rfl
     ⟨s, uf, A', cap', l', rfl, hf.upto jd.out (wu _ _ _ _ _) (jg _ _ _ _ _), gp.grown (jg _ _ _ _ _) gp.size (fun k hk => by injection hk with hk; omega)⟩

end Go.Proofs.YtpjgoogeokbaaaaGreatDoor
namespace Go.Proofs.YtpjgoogeokbaaaaGreatDoor
open Go.RowKit

structure Fr (Wp W : World) (b : Nat) : Prop where
 old : Wp.heap.size ≤ b
 zero : W.heap[b]? = some (.cells #[.int .i64 0, .bool false, .slice none 0 0] 61 (0, 0))
theorem lt_of_block {W : World} {b : Nat} {o : Obj} (h : W.heap[b]? = some o) : b < W.heap.size := by
 rcases Nat.lt_or_ge b W.heap.size with hlt | hge
 ·
  exact hlt
 ·
  rw [Array.getElem?_eq_none hge] at h; cases h
theorem Fr.lt {Wp W : World} {b : Nat} (h : Fr Wp W b) : b < W.heap.size := lt_of_block h.zero
theorem Fr.drew {Wp W : World} {b : Nat} (h : Fr Wp W b) : Fr Wp W.drew b := ⟨h.old, h.zero⟩
theorem Fr.drewN {Wp W : World} {b : Nat} {n : Nat} (h : Fr Wp W b) : Fr Wp (W.drewN n) b := ⟨h.old, h.zero⟩
theorem Fr.below {Wp W w' : World} {b : Nat} (h : Fr Wp W b) (hb : Below W.heap.size W w') : Fr Wp w' b := ⟨h.old, (hb.block _ h.lt).trans h.zero⟩
theorem Fr.new {Wp W : World} {b : Nat} (hb : Below Wp.heap.size Wp W) (e : b = W.heap.size) : Fr Wp (W.alloc (.cells #[.int .i64 0, .bool false, .slice none 0 0] 61 (0, 0))) b := by
 subst e; exact ⟨hb.size, heap_alloc_new W _⟩
structure Nc (Wp W : World) (b c : Nat) : Prop where
 one : Fr Wp W b
 two : Fr Wp W c
 ne : b ≠ c
theorem Nc.drew {Wp W : World} {b c : Nat} (h : Nc Wp W b c) : Nc Wp W.drew b c := ⟨h.one.drew, h.two.drew, h.ne⟩
theorem Nc.drewN {Wp W : World} {b c n : Nat} (h : Nc Wp W b c) : Nc Wp (W.drewN n) b c := ⟨h.one.drewN, h.two.drewN, h.ne⟩
theorem Nc.below {Wp W w' : World} {b c : Nat} (h : Nc Wp W b c) (hb : Below W.heap.size W w') : Nc Wp w' b c := ⟨h.one.below hb, h.two.below hb, h.ne⟩
theorem Nc.Sq {Wp W : World} {b c : Nat} (h : Fr Wp W b) (e : c = W.heap.size) : Nc Wp (W.alloc (.cells #[.int .i64 0, .bool false, .slice none 0 0] 61 (0, 0))) b c := by
 have hl := h.lt
 have ho := h.old
 subst e
 exact ⟨⟨ho, (Below.heap_alloc W _ b hl).trans h.zero⟩, ⟨by omega, heap_alloc_new W _⟩, by omega⟩
theorem Nc.Sr {Wp W : World} {b c : Nat} (h : Fr Wp W c) (e : b = W.heap.size) : Nc Wp (W.alloc (.cells #[.int .i64 0, .bool false, .slice none 0 0] 61 (0, 0))) b c := by
 have hl := h.lt
 have ho := h.old
 subst e
 exact ⟨⟨by omega, heap_alloc_new W _⟩, ⟨ho, (Below.heap_alloc W _ c hl).trans h.zero⟩, by omega⟩

def Bj (w : World) (b : Nat) (z : Int) : Prop := ∃ s neg A cap l, w.heap[b]? = some (.cells #[.int .i64 s, .bool neg, .slice A (List.length l) cap] 61 (0, 0)) ∧ dz w s neg A cap l z
theorem Bj.below {w w' : World} {b : Nat} {z : Int} (h : Bj w b z) (hb : Below w.heap.size w w') : Bj w' b z := by
 obtain ⟨s, neg, A, cap, l, h1, h2⟩ := h
 exact ⟨s, neg, A, cap, l, (hb.block _ (lt_of_block h1)).trans h1, h2.below hb⟩
theorem Nh {W : World} {b : Nat} {a0 a1 a2 u0 u1 u2 : Value} {T : TypeId} (h : W.heap[b]? = some (.cells #[a0, a1, a2] T (0, 0))) : (((W.setCell ⟨b, 0, none⟩ u0).setCell ⟨b, 1, none⟩ u1).setCell ⟨b, 2, none⟩ u2).heap[b]? = some (.cells #[u0, u1, u2] T (0, 0)) := by
 simp [World.setCell, Array.getElem?_modify, h]
theorem Bj.new {W : World} {b : Nat} {s1 : Int} {bz : Bool} {A1 : Option Addr} {c1 : Nat} {l1 : List Nat} {z1 : Int} (h1 : dz W s1 bz A1 c1 l1 z1) (e : b = W.heap.size) : Bj (W.alloc (.cells #[.int .i64 s1, .bool bz, .slice A1 l1.length c1] 61)) b z1 := by
 subst e; exact ⟨s1, bz, A1, c1, l1, heap_alloc_new W _, h1.below ((Below.refl _ _).alloc (Nat.le_refl _) _)⟩
theorem Bj.alloc {W : World} {b : Nat} {z : Int} {o : Obj} (h : Bj W b z) : Bj (W.alloc o) b z := h.below ((Below.refl _ _).alloc (Nat.le_refl _) _)
theorem dz.alloc {W : World} {o : Obj} {s1 : Int} {bz : Bool} {A1 : Option Addr} {c1 : Nat} {l1 : List Nat} {z1 : Int} (h1 : dz W s1 bz A1 c1 l1 z1) : dz (W.alloc o) s1 bz A1 c1 l1 z1 := h1.below ((Below.refl _ _).alloc (Nat.le_refl _) _)
theorem Fr.alloc {Wp W : World} {b : Nat} {o : Obj} (h : Fr Wp W b) : Fr Wp (W.alloc o) b := ⟨h.old, (Below.heap_alloc W _ b h.lt).trans h.zero⟩
theorem Fr.facts {Wp W : World} {b : Nat} (h : Fr Wp W b) : (W.cell? ⟨b, 0, none⟩ = some (.int .i64 0) ∧ W.cell? ⟨b, 1, none⟩ = some (.bool false) ∧ W.cell? ⟨b, 2, none⟩ = some (.slice none 0 0)) ∧
  (W.frozen? ⟨b, 0, none⟩ = false ∧ W.frozen? ⟨b, 1, none⟩ = false ∧ W.frozen? ⟨b, 2, none⟩ = false) ∧
  ((∀ o, (W.alloc o).cell? ⟨b, 0, none⟩ = some (.int .i64 0)) ∧ (∀ o, (W.alloc o).cell? ⟨b, 1, none⟩ = some (.bool false)) ∧ (∀ o, (W.alloc o).cell? ⟨b, 2, none⟩ = some (.slice none 0 0))) ∧
  ((∀ o, (W.alloc o).frozen? ⟨b, 0, none⟩ = false) ∧ (∀ o, (W.alloc o).frozen? ⟨b, 1, none⟩ = false) ∧ (∀ o, (W.alloc o).frozen? ⟨b, 2, none⟩ = false)) ∧
  ¬ (b = W.heap.size) ∧ ¬ (W.heap.size = b) :=
 ⟨⟨ag h.zero 0, ag h.zero 1, ag h.zero 2⟩, ⟨ah h.zero 0, ah h.zero 1, ah h.zero 2⟩,
  ⟨fun o => ag (h.alloc (o := o)).zero 0, fun o => ag (h.alloc (o := o)).zero 1, fun o => ag (h.alloc (o := o)).zero 2⟩,
  ⟨fun o => ah (h.alloc (o := o)).zero 0, fun o => ah (h.alloc (o := o)).zero 1, fun o => ah (h.alloc (o := o)).zero 2⟩, by have := h.lt; omega, by have := h.lt; omega⟩
theorem Re {Wp W : World} {b : Nat} {s1 : Int} {bz : Bool} {A1 : Option Addr} {c1 : Nat} {l1 : List Nat} {z1 : Int} (hf : Fr Wp W b) (h1 : dz W s1 bz A1 c1 l1 z1) (hb : Below Wp.heap.size Wp W) :
  Bj (((W.setCell ⟨b, 0, none⟩ (.int .i64 s1)).setCell ⟨b, 1, none⟩ (.bool bz)).setCell ⟨b, 2, none⟩ (.slice A1 l1.length c1)) b z1 ∧ Below Wp.heap.size Wp (((W.setCell ⟨b, 0, none⟩ (.int .i64 s1)).setCell ⟨b, 1, none⟩ (.bool bz)).setCell ⟨b, 2, none⟩ (.slice A1 l1.length c1)) ∧ Wp.heap.size ≤ b :=
 ⟨⟨s1, bz, A1, c1, l1, Nh hf.zero, h1.upto hf.zero (wu _ _ _ _ _) (jg _ _ _ _ _)⟩, hb.grown (jg _ _ _ _ _) hb.size (fun k hk => by injection hk with hk; have := hf.old; omega), hf.old⟩
theorem Zc {Wp W : World} {b : Nat} {s1 : Int} {bz : Bool} {A1 : Option Addr} {c1 : Nat} {l1 : List Nat} {z1 : Int} (h1 : dz W s1 bz A1 c1 l1 z1) (hb : Below Wp.heap.size Wp W) (e : b = W.heap.size) :
  Bj (W.alloc (.cells #[.int .i64 s1, .bool bz, .slice A1 l1.length c1] 61)) b z1 ∧ Below Wp.heap.size Wp (W.alloc (.cells #[.int .i64 s1, .bool bz, .slice A1 l1.length c1] 61)) ∧ Wp.heap.size ≤ b :=
 ⟨Bj.new h1 e, hb.alloc hb.size _, by have := hb.size; omega⟩
theorem adf {Wp W : World} {b c : Nat} {s1 : Int} {bz : Bool} {A1 : Option Addr} {c1 : Nat} {l1 : List Nat} {z1 : Int} {s2 : Int} {cu : Bool} {A2 : Option Addr} {c2 : Nat} {l2 : List Nat} {z2 : Int} (hf : Nc Wp W b c) (h1 : dz W s1 bz A1 c1 l1 z1) (h2 : dz W s2 cu A2 c2 l2 z2) (hb : Below Wp.heap.size Wp W) :
  Bj ((((((W.setCell ⟨b, 0, none⟩ (.int .i64 s1)).setCell ⟨b, 1, none⟩ (.bool bz)).setCell ⟨b, 2, none⟩ (.slice A1 l1.length c1)).setCell ⟨c, 0, none⟩ (.int .i64 s2)).setCell ⟨c, 1, none⟩ (.bool cu)).setCell ⟨c, 2, none⟩ (.slice A2 l2.length c2)) b z1 ∧ Bj ((((((W.setCell ⟨b, 0, none⟩ (.int .i64 s1)).setCell ⟨b, 1, none⟩ (.bool bz)).setCell ⟨b, 2, none⟩ (.slice A1 l1.length c1)).setCell ⟨c, 0, none⟩ (.int .i64 s2)).setCell ⟨c, 1, none⟩ (.bool cu)).setCell ⟨c, 2, none⟩ (.slice A2 l2.length c2)) c z2 ∧ Below Wp.heap.size Wp ((((((W.setCell ⟨b, 0, none⟩ (.int .i64 s1)).setCell ⟨b, 1, none⟩ (.bool bz)).setCell ⟨b, 2, none⟩ (.slice A1 l1.length c1)).setCell ⟨c, 0, none⟩ (.int .i64 s2)).setCell ⟨c, 1, none⟩ (.bool cu)).setCell ⟨c, 2, none⟩ (.slice A2 l2.length c2)) ∧ Wp.heap.size ≤ b ∧ Wp.heap.size ≤ c := by
 have g1 := jg W b (.int .i64 s1) (.bool bz) (.slice A1 l1.length c1)
 have k2 := h2.upto hf.one.zero (wu _ _ _ _ _) g1
 have kc := (g1.block c hf.two.lt (fun e => hf.ne (by injection e with e; exact e.symm))).trans hf.two.zero
 have kb := (Re hf.one h1 hb)
 have ks := kb.2.1.size
 obtain ⟨⟨s, neg, A, cap, l, e1, e2⟩, kb2, _⟩ := kb
 have g2 := jg (((W.setCell ⟨b, 0, none⟩ (.int .i64 s1)).setCell ⟨b, 1, none⟩ (.bool bz)).setCell ⟨b, 2, none⟩ (.slice A1 l1.length c1)) c (.int .i64 s2) (.bool cu) (.slice A2 l2.length c2)
 exact ⟨⟨s, neg, A, cap, l, (g2.block b (lt_of_block e1) (fun e => hf.ne (by injection e))).trans e1, e2.upto kc (wu _ _ _ _ _) g2⟩,
  ⟨s2, cu, A2, c2, l2, Nh kc, k2.upto kc (wu _ _ _ _ _) g2⟩, kb2.grown g2 ks (fun k hk => by injection hk with hk; have := hf.two.old; omega), hf.one.old, hf.two.old⟩
theorem atw {Wp W : World} {b c : Nat} {s1 : Int} {bz : Bool} {A1 : Option Addr} {c1 : Nat} {l1 : List Nat} {z1 : Int} {s2 : Int} {cu : Bool} {A2 : Option Addr} {c2 : Nat} {l2 : List Nat} {z2 : Int} (h1 : dz W s1 bz A1 c1 l1 z1) (h2 : dz W s2 cu A2 c2 l2 z2) (hb : Below Wp.heap.size Wp W) (eb : b = W.heap.size) (ec : c = W.heap.size + 1) :
  Bj ((W.alloc (.cells #[.int .i64 s1, .bool bz, .slice A1 l1.length c1] 61)).alloc (.cells #[.int .i64 s2, .bool cu, .slice A2 l2.length c2] 61)) b z1 ∧ Bj ((W.alloc (.cells #[.int .i64 s1, .bool bz, .slice A1 l1.length c1] 61)).alloc (.cells #[.int .i64 s2, .bool cu, .slice A2 l2.length c2] 61)) c z2 ∧ Below Wp.heap.size Wp ((W.alloc (.cells #[.int .i64 s1, .bool bz, .slice A1 l1.length c1] 61)).alloc (.cells #[.int .i64 s2, .bool cu, .slice A2 l2.length c2] 61)) ∧ Wp.heap.size ≤ b ∧ Wp.heap.size ≤ c :=
 ⟨(Bj.new h1 eb).alloc, Bj.new h2.alloc (by rw [ec, World.size_alloc]), (hb.alloc hb.size _).alloc (hb.alloc hb.size _).size _, by have := hb.size; omega, by have := hb.size; omega⟩
theorem bii {Wp W : World} {b c : Nat} {s1 : Int} {bz : Bool} {A1 : Option Addr} {c1 : Nat} {l1 : List Nat} {z1 : Int} {s2 : Int} {cu : Bool} {A2 : Option Addr} {c2 : Nat} {l2 : List Nat} {z2 : Int} (h1 : dz W s1 bz A1 c1 l1 z1) (h2 : dz W s2 cu A2 c2 l2 z2) (hb : Below Wp.heap.size Wp W) (ec : c = W.heap.size) (eb : b = W.heap.size + 1) :
  Bj ((W.alloc (.cells #[.int .i64 s2, .bool cu, .slice A2 l2.length c2] 61)).alloc (.cells #[.int .i64 s1, .bool bz, .slice A1 l1.length c1] 61)) b z1 ∧ Bj ((W.alloc (.cells #[.int .i64 s2, .bool cu, .slice A2 l2.length c2] 61)).alloc (.cells #[.int .i64 s1, .bool bz, .slice A1 l1.length c1] 61)) c z2 ∧ Below Wp.heap.size Wp ((W.alloc (.cells #[.int .i64 s2, .bool cu, .slice A2 l2.length c2] 61)).alloc (.cells #[.int .i64 s1, .bool bz, .slice A1 l1.length c1] 61)) ∧ Wp.heap.size ≤ b ∧ Wp.heap.size ≤ c := by
 obtain ⟨x1, x2, x3, x4, x5⟩ := atw h2 h1 hb ec eb
 exact ⟨x2, x1, x3, x5, x4⟩
theorem bih {Wp W : World} {b c : Nat} {s1 : Int} {bz : Bool} {A1 : Option Addr} {c1 : Nat} {l1 : List Nat} {z1 : Int} {s2 : Int} {cu : Bool} {A2 : Option Addr} {c2 : Nat} {l2 : List Nat} {z2 : Int} (hf : Fr Wp W c) (h1 : dz W s1 bz A1 c1 l1 z1) (h2 : dz W s2 cu A2 c2 l2 z2) (hb : Below Wp.heap.size Wp W) (eb : b = W.heap.size) :
  Bj ((((W.alloc (.cells #[.int .i64 s1, .bool bz, .slice A1 l1.length c1] 61)).setCell ⟨c, 0, none⟩ (.int .i64 s2)).setCell ⟨c, 1, none⟩ (.bool cu)).setCell ⟨c, 2, none⟩ (.slice A2 l2.length c2)) b z1 ∧ Bj ((((W.alloc (.cells #[.int .i64 s1, .bool bz, .slice A1 l1.length c1] 61)).setCell ⟨c, 0, none⟩ (.int .i64 s2)).setCell ⟨c, 1, none⟩ (.bool cu)).setCell ⟨c, 2, none⟩ (.slice A2 l2.length c2)) c z2 ∧ Below Wp.heap.size Wp ((((W.alloc (.cells #[.int .i64 s1, .bool bz, .slice A1 l1.length c1] 61)).setCell ⟨c, 0, none⟩ (.int .i64 s2)).setCell ⟨c, 1, none⟩ (.bool cu)).setCell ⟨c, 2, none⟩ (.slice A2 l2.length c2)) ∧ Wp.heap.size ≤ b ∧ Wp.heap.size ≤ c := by
 have hl := hf.lt
 have hx := Re hf.alloc h2.alloc (hb.alloc hb.size (.cells #[.int .i64 s1, .bool bz, .slice A1 l1.length c1] 61))
 have hn := (Bj.new h1 eb)
 obtain ⟨s, neg, A, cap, l, e1, e2⟩ := hn
 have g2 := jg (W.alloc (.cells #[.int .i64 s1, .bool bz, .slice A1 l1.length c1] 61)) c (.int .i64 s2) (.bool cu) (.slice A2 l2.length c2)
 exact ⟨⟨s, neg, A, cap, l, (g2.block b (lt_of_block e1) (fun e => by injection e with e; omega)).trans e1, e2.upto (hf.alloc (o := _)).zero (wu _ _ _ _ _) g2⟩, hx.1, hx.2.1, by have := hb.size; omega, hx.2.2⟩
theorem je {W W' : World} (h : Below W.heap.size W W') (o : Obj) : Below W.heap.size W (W'.alloc o) := h.alloc h.size o
theorem bel {P : Prop} (h : P := by (repeat (first | with_reducible exact Below.refl _ _ | with_reducible assumption | with_reducible refine Below.drew ?_ | with_reducible refine je ?_ _))) : P := h
theorem ai {W W' : World} {b o : Nat} {v : Value} (hB : Below W.heap.size W W') (q : b < W.heap.size) (k : W.cell? ⟨b, o, none⟩ = some v) : W'.cell? ⟨b, o, none⟩ = some v := (hB.cell (p := ⟨b, o, none⟩) q).trans k
theorem Eg {W W' : World} {g : Nat} (hB : Below W.heap.size W W') (hg : W.heap.size ≤ g) (o : Nat) (u : Value) : Below W.heap.size W (W'.setCell ⟨g, o, none⟩ u) :=
 hB.grown (pg (Dk _ (some g)) o u) hB.size (fun k hk => by injection hk with hk; omega)
def Ir (w : World) (F : Nat) (a b c : Int) : Prop := ∀ (s1 : Int) (bz : Bool) (A1 : Option Addr) (c1 : Nat) (l1 : List Nat) (s2 : Int) (cu : Bool) (A2 : Option Addr) (c2 : Nat) (l2 : List Nat) (W : World), Below w.heap.size w W → dz W s1 bz A1 c1 l1 a → dz W s2 cu A2 c2 l2 b → Calls Tryz.prog F #[(Value.agg #[.int .i64 s1, .bool bz, .slice A1 l1.length c1]), (Value.agg #[.int .i64 s2, .bool cu, .slice A2 l2.length c2])] W fun e w' => Fp W c e w'
theorem Ze {w : World} {a b c : Int} {K : Nat} (hT : rz w) (ha : Wd.Sz dm K a) (hb : Wd.Sz dm K b) (hK : K ≤ lim) (e : c = ((a.natAbs.gcd b.natAbs : Nat) : Int)) : Ir w 124 a b c := by
 subst e
 exact fun s1 bz A1 c1 l1 s2 cu A2 c2 l2 W hW f1 f2 => azs s1 bz A1 c1 l1 a s2 cu A2 c2 l2 b W f1 f2 (f1.fit ha hK) (f2.fit hb hK) (hT.below hW)
theorem Mh {w : World} {a b c : Int} {K : Nat} (ha : Wd.Sz dm K a) (hb : Wd.Sz dm K b) (hK : K ≤ lim) (h0 : b ≠ 0) (e : c = a.tdiv b) : Ir w 125 a b c := by
 subst e
 exact fun s1 bz A1 c1 l1 s2 cu A2 c2 l2 W hW f1 f2 => azr s1 bz A1 c1 l1 a s2 cu A2 c2 l2 b W f1 f2 (f1.fit ha hK) (f2.fit hb hK) h0
theorem Ue {w : World} {a b c : Int} {K : Nat} (ha : Wd.Sz dm K a) (hb : Wd.Sz dm K b) (hK : K ≤ lim) (e : c = a * b) : Ir w 112 a b c := by
 subst e
 exact fun s1 bz A1 c1 l1 s2 cu A2 c2 l2 W hW f1 f2 => aji s1 bz A1 c1 l1 a s2 cu A2 c2 l2 b W f1 f2 (f1.fit ha hK) (f2.fit hb hK)
theorem bij {w : World} {a b c : Int} {K : Nat} (ha : Wd.Sz dm K a) (hb : Wd.Sz dm K b) (hK : K ≤ lim) (e : c = a + b) : Ir w 127 a b c := by
 subst e
 exact fun s1 bz A1 c1 l1 s2 cu A2 c2 l2 W hW f1 f2 => azv s1 bz A1 c1 l1 a s2 cu A2 c2 l2 b W f1 f2 (f1.fit ha hK) (f2.fit hb hK)

end Go.Proofs.YtpjgoogeokbaaaaGreatDoor
namespace Go.Proofs.YtpjgoogeokbaaaaGreatDoor
open Go.RowKit

set_option maxHeartbeats 16000000 in
theorem ato (s1 : Int) (bz : Bool) (A1 : Option Addr) (c1 : Nat) (l1 : List Nat) (s2 : Int) (cu : Bool) (A2 : Option Addr) (c2 : Nat) (l2 : List Nat) (s3 : Int) (ze : Bool) (A3 : Option Addr) (c3 : Nat) (l3 : List Nat) (s4 : Int) (yc : Bool) (A4 : Option Addr) (c4 : Nat) (l4 : List Nat) (z1 z2 z3 z4 g xd yd m1 m2 n h r1 e1 r2 : Int) (w : World) (f1 : dz w s1 bz A1 c1 l1 z1) (f2 : dz w s2 cu A2 c2 l2 z2) (f3 : dz w s3 ze A3 c3 l3 z3) (f4 : dz w s4 yc A4 c4 l4 z4)
  (hg : Ir w 124 z2 z4 g) (hxd : Ir w 125 z2 g xd) (hyd : Ir w 125 z4 g yd) (hm1 : Ir w 112 z1 yd m1) (hm2 : Ir w 112 z3 xd m2) (hn : Ir w 127 m1 m2 n) (hh : Ir w 124 g n h) (hr1 : Ir w 125 n h r1) (he : Ir w 125 z4 h e1) (hr2 : Ir w 112 xd e1 r2) :
  Calls Tryz.prog 82 #[(Value.agg #[.int .i64 s1, .bool bz, .slice A1 l1.length c1, .int .i64 s2, .bool cu, .slice A2 l2.length c2]), (Value.agg #[.int .i64 s3, .bool ze, .slice A3 l3.length c3, .int .i64 s4, .bool yc, .slice A4 l4.length c4])] w fun e w' => Gr w r1 r2 e w' := by
 have H1 := hide f1
 have H2 := hide f2
 have H3 := hide f3
 have H4 := hide f4
 clear f1 f2 f3 f4
 have HG := hide hg
 have HXD := hide hxd
 have HYD := hide hyd
 have HM1 := hide hm1
 have HM2 := hide hm2
 have HN := hide hn
 have HH := hide hh
 have HR1 := hide hr1
 have HE := hide he
 have HR2 := hide hr2
 clear hg hxd hyd hm1 hm2 hn hh hr1 he hr2
 go_enter Tryz.func82, Tryz.ntmps82
 go_upto_region 1 with fail
 obtain ⟨n0, n1, n2, hsz, hw0⟩ := ll w (.cells #[.int .i64 s1, .bool bz, .slice A1 l1.length c1, .int .i64 s2, .bool cu, .slice A2 l2.length c2] 63) (.cells #[.int .i64 s3, .bool ze, .slice A3 l3.length c3, .int .i64 s4, .bool yc, .slice A4 l4.length c4] 63) (.cells #[.int .i64 0, .bool false, .slice none 0 0, .int .i64 0, .bool false, .slice none 0 0] 63)
 generalize (((w.alloc (.cells #[.int .i64 s1, .bool bz, .slice A1 l1.length c1, .int .i64 s2, .bool cu, .slice A2 l2.length c2] 63)).alloc (.cells #[.int .i64 s3, .bool ze, .slice A3 l3.length c3, .int .i64 s4, .bool yc, .slice A4 l4.length c4] 63)).alloc (.cells #[.int .i64 0, .bool false, .slice none 0 0, .int .i64 0, .bool false, .slice none 0 0] 63)) = W0 at *
 have jl : W0.cell? ⟨w.heap.size, 0, none⟩ = some (.int .i64 s1) := ag n0 0
 have jk : W0.cell? ⟨w.heap.size, 1, none⟩ = some (.bool bz) := ag n0 1
 have jy : W0.cell? ⟨w.heap.size, 2, none⟩ = some (.slice A1 l1.length c1) := ag n0 2
 have ky : W0.cell? ⟨w.heap.size, 3, none⟩ = some (.int .i64 s2) := ag n0 3
 have Ag : W0.cell? ⟨w.heap.size, 4, none⟩ = some (.bool cu) := ag n0 4
 have Af : W0.cell? ⟨w.heap.size, 5, none⟩ = some (.slice A2 l2.length c2) := ag n0 5
 have q0 : w.heap.size < W0.heap.size := by omega
 have jq : W0.cell? ⟨w.heap.size + 1, 0, none⟩ = some (.int .i64 s3) := ag n1 0
 have jo : W0.cell? ⟨w.heap.size + 1, 1, none⟩ = some (.bool ze) := ag n1 1
 have lh : W0.cell? ⟨w.heap.size + 1, 2, none⟩ = some (.slice A3 l3.length c3) := ag n1 2
 have lv : W0.cell? ⟨w.heap.size + 1, 3, none⟩ = some (.int .i64 s4) := ag n1 3
 have Dw : W0.cell? ⟨w.heap.size + 1, 4, none⟩ = some (.bool yc) := ag n1 4
 have Dv : W0.cell? ⟨w.heap.size + 1, 5, none⟩ = some (.slice A4 l4.length c4) := ag n1 5
 have q1 : w.heap.size + 1 < W0.heap.size := by omega
 have qw : W0.cell? ⟨w.heap.size + 1 + 1, 0, none⟩ = some (.int .i64 0) := ag n2 0
 have qo : W0.cell? ⟨w.heap.size + 1 + 1, 1, none⟩ = some (.bool false) := ag n2 1
 have qm : W0.cell? ⟨w.heap.size + 1 + 1, 2, none⟩ = some (.slice none 0 0) := ag n2 2
 have qj : W0.cell? ⟨w.heap.size + 1 + 1, 3, none⟩ = some (.int .i64 0) := ag n2 3
 have Ht : W0.cell? ⟨w.heap.size + 1 + 1, 4, none⟩ = some (.bool false) := ag n2 4
 have Hr : W0.cell? ⟨w.heap.size + 1 + 1, 5, none⟩ = some (.slice none 0 0) := ag n2 5
 have q2 : w.heap.size + 1 + 1 < W0.heap.size := by omega
 have uj := ah n2 0
 have ui := ah n2 1
 have uh := ah n2 2
 have ug := ah n2 3
 have Jq := ah n2 4
 have Jp := ah n2 5
 have NR := Lib.hid n2
 clear hsz n0 n1 n2
 replace H1 := hide ((aa H1).below hw0)
 replace H2 := hide ((aa H2).below hw0)
 replace H3 := hide ((aa H3).below hw0)
 replace H4 := hide ((aa H4).below hw0)
 go_upto_region 1 with fail
 go_cut [5] (fun Me wx => ∃ b5 : Nat, Me = .pointer (some ⟨b5, 0, none⟩) ∧ Bj wx b5 g ∧ Below W0.heap.size W0 wx ∧ W0.heap.size ≤ b5)
 case first =>
  go_wp2_with fail
  (go_at_call_of 124 (Value.agg #[.int .i64 s2, .bool cu, .slice A2 l2.length c2]); refine ((aa HG) s2 cu A2 c2 l2 s4 yc A4 c4 l4 _ (au hw0 bel) (dz.below (aa H2) bel) (dz.below (aa H4) bel)).mono ?_; rintro e w' ⟨s5, si, A5, c5, l5, rfl, kz, hb5⟩; have hbw := ay (w := W0) bel hb5; have hsw := hbw.size; obtain ⟨hc, hfz⟩ := az hbw)
  (go_wp2_with fail; go_meet; refine ⟨_, rfl, ?_⟩; first | with_reducible exact Re (by assumption) kz hbw | with_reducible exact Zc kz hbw rfl)
 case rest =>
  revert hcut
  generalize wc = W1
  intro hcut
  obtain ⟨b5, rfl, B5, hbx, Hd⟩ := hcut
  obtain ⟨hc, hfz⟩ := az hbx
  replace jl := (hc _ _ q0).trans jl
  replace jk := (hc _ _ q0).trans jk
  replace jy := (hc _ _ q0).trans jy
  replace ky := (hc _ _ q0).trans ky
  replace Ag := (hc _ _ q0).trans Ag
  replace Af := (hc _ _ q0).trans Af
  replace q0 := Nat.lt_of_lt_of_le q0 hbx.size
  replace jq := (hc _ _ q1).trans jq
  replace jo := (hc _ _ q1).trans jo
  replace lh := (hc _ _ q1).trans lh
  replace lv := (hc _ _ q1).trans lv
  replace Dw := (hc _ _ q1).trans Dw
  replace Dv := (hc _ _ q1).trans Dv
  replace q1 := Nat.lt_of_lt_of_le q1 hbx.size
  replace Hd : w.heap.size + 1 + 1 < b5 := Nat.lt_of_lt_of_le q2 Hd
  replace qw := (hc _ _ q2).trans qw
  replace uj := (hfz _ _ q2).trans uj
  replace qo := (hc _ _ q2).trans qo
  replace ui := (hfz _ _ q2).trans ui
  replace qm := (hc _ _ q2).trans qm
  replace uh := (hfz _ _ q2).trans uh
  replace qj := (hc _ _ q2).trans qj
  replace ug := (hfz _ _ q2).trans ug
  replace Ht := (hc _ _ q2).trans Ht
  replace Jq := (hfz _ _ q2).trans Jq
  replace Hr := (hc _ _ q2).trans Hr
  replace Jp := (hfz _ _ q2).trans Jp
  replace NR := Lib.hid ((hbx.block _ q2).trans NR.out)
  replace q2 := Nat.lt_of_lt_of_le q2 hbx.size
  replace hw0 := au hw0 hbx
  replace H1 := hide ((aa H1).below hbx)
  replace H2 := hide ((aa H2).below hbx)
  replace H3 := hide ((aa H3).below hbx)
  replace H4 := hide ((aa H4).below hbx)
  obtain ⟨s5, si, A5, c5, l5, n5, H5⟩ := B5
  have tu : W1.cell? ⟨b5, 0, none⟩ = some (.int .i64 s5) := ag n5 0
  have tq : W1.cell? ⟨b5, 1, none⟩ = some (.bool si) := ag n5 1
  have Sw : W1.cell? ⟨b5, 2, none⟩ = some (.slice A5 l5.length c5) := ag n5 2
  have qi := lt_of_block n5
  replace H5 := hide H5
  clear n5
  clear hbx hc hfz
  go_upto_region 2 with fail
  go_cut [6, 7] (fun Ra s7_ wx => ∃ b6 b7 : Nat, Ra = .pointer (some ⟨b6, 0, none⟩) ∧ s7_ = .pointer (some ⟨b7, 0, none⟩) ∧ Bj wx b6 xd ∧ Bj wx b7 yd ∧ Below W1.heap.size W1 wx ∧ W1.heap.size ≤ b6 ∧ W1.heap.size ≤ b7)
  case first =>
   have KEEP := hide (show ∀ X, Below W1.heap.size W1 X → X.cell? ⟨w.heap.size, 0, none⟩ = some (.int .i64 s1) ∧ X.cell? ⟨w.heap.size, 1, none⟩ = some (.bool bz) ∧ X.cell? ⟨w.heap.size, 2, none⟩ = some (.slice A1 l1.length c1) ∧ X.cell? ⟨w.heap.size, 3, none⟩ = some (.int .i64 s2) ∧ X.cell? ⟨w.heap.size, 4, none⟩ = some (.bool cu) ∧ X.cell? ⟨w.heap.size, 5, none⟩ = some (.slice A2 l2.length c2) ∧ X.cell? ⟨w.heap.size + 1, 0, none⟩ = some (.int .i64 s3) ∧ X.cell? ⟨w.heap.size + 1, 1, none⟩ = some (.bool ze) ∧ X.cell? ⟨w.heap.size + 1, 2, none⟩ = some (.slice A3 l3.length c3) ∧ X.cell? ⟨w.heap.size + 1, 3, none⟩ = some (.int .i64 s4) ∧ X.cell? ⟨w.heap.size + 1, 4, none⟩ = some (.bool yc) ∧ X.cell? ⟨w.heap.size + 1, 5, none⟩ = some (.slice A4 l4.length c4) ∧ X.cell? ⟨b5, 0, none⟩ = some (.int .i64 s5) ∧ X.cell? ⟨b5, 1, none⟩ = some (.bool si) ∧ X.cell? ⟨b5, 2, none⟩ = some (.slice A5 l5.length c5) from fun X hB => ⟨ai hB q0 jl, ai hB q0 jk, ai hB q0 jy, ai hB q0 ky, ai hB q0 Ag, ai hB q0 Af, ai hB q1 jq, ai hB q1 jo, ai hB q1 lh, ai hB q1 lv, ai hB q1 Dw, ai hB q1 Dv, ai hB qi tu, ai hB qi tq, ai hB qi Sw⟩)
   go_region_held3 (fun w' => w'.cell? ⟨w.heap.size, 0, none⟩ = some (.int .i64 s1) ∧ w'.cell? ⟨w.heap.size, 1, none⟩ = some (.bool bz) ∧ w'.cell? ⟨w.heap.size, 2, none⟩ = some (.slice A1 l1.length c1) ∧ w'.cell? ⟨w.heap.size, 3, none⟩ = some (.int .i64 s2) ∧ w'.cell? ⟨w.heap.size, 4, none⟩ = some (.bool cu) ∧ w'.cell? ⟨w.heap.size, 5, none⟩ = some (.slice A2 l2.length c2) ∧ w'.cell? ⟨w.heap.size + 1, 0, none⟩ = some (.int .i64 s3) ∧ w'.cell? ⟨w.heap.size + 1, 1, none⟩ = some (.bool ze) ∧ w'.cell? ⟨w.heap.size + 1, 2, none⟩ = some (.slice A3 l3.length c3) ∧ w'.cell? ⟨w.heap.size + 1, 3, none⟩ = some (.int .i64 s4) ∧ w'.cell? ⟨w.heap.size + 1, 4, none⟩ = some (.bool yc) ∧ w'.cell? ⟨w.heap.size + 1, 5, none⟩ = some (.slice A4 l4.length c4) ∧ w'.cell? ⟨b5, 0, none⟩ = some (.int .i64 s5) ∧ w'.cell? ⟨b5, 1, none⟩ = some (.bool si) ∧ w'.cell? ⟨b5, 2, none⟩ = some (.slice A5 l5.length c5)) (exact (aa KEEP) _ (by (repeat (first | with_reducible exact Below.refl _ _ | with_reducible assumption | with_reducible refine Below.drew ?_ | with_reducible refine je ?_ _ | (with_reducible refine Eg ?_ ?_ _ _; rotate_left; (first | omega | (simp <;> omega))))))) (first | (go_at_call_of 125 (Value.agg #[.int .i64 s2, .bool cu, .slice A2 l2.length c2]); refine ((aa HXD) s2 cu A2 c2 l2 s5 si A5 c5 l5 _ (au hw0 bel) (dz.below (aa H2) bel) (dz.below (aa H5) bel)).mono ?_; rintro e w' ⟨s6, xg, A6, c6, l6, rfl, og, hb6⟩; have hbw := ay (w := W1) bel hb6; have hsw := hbw.size; obtain ⟨hc, hfz⟩ := az hbw; (try ((first | have Bt : Fr W1 w' _ := Fr.below (Fr.new bel rfl) hb6 | have Bt : Fr W1 w' _ := Fr.below (Fr.drew (Fr.new bel rfl)) hb6); (try simp only [World.size_alloc] at Bt); (try dsimp only [World.drew] at Bt); (try simp only [World.size_alloc] at Bt); obtain ⟨⟨acp, aco, acn⟩, ⟨acm, ack, acj⟩, ⟨aci, ach, acg⟩, ⟨Vh, cbx, cbw⟩, cbu, cbt⟩ := Fr.facts Bt)); (try ((first | have Bo : Fr W1 w' _ := Fr.below (Fr.alloc (Fr.new bel rfl)) hb6 | have Bo : Fr W1 w' _ := Fr.below (Fr.drew (Fr.alloc (Fr.new bel rfl))) hb6); (try simp only [World.size_alloc] at Bo); (try dsimp only [World.drew] at Bo); (try simp only [World.size_alloc] at Bo); obtain ⟨⟨acf, ace, acd⟩, ⟨acb, aca, abz⟩, ⟨aby, abx, abw⟩, ⟨Vg, cbs, cbr⟩, cbq, cbp⟩ := Fr.facts Bo))) | (go_at_call_of 125 (Value.agg #[.int .i64 s4, .bool yc, .slice A4 l4.length c4]); refine ((aa HYD) s4 yc A4 c4 l4 s5 si A5 c5 l5 _ (au hw0 bel) (dz.below (aa H4) bel) (dz.below (aa H5) bel)).mono ?_; rintro e w' ⟨s7, Dc, A7, c7, l7, rfl, Au, yf⟩; have og := dz.below (dz.below og bel) yf; have hbw := ay (w := W1) bel yf; have hsw := hbw.size; obtain ⟨hc, hfz⟩ := az hbw; (try ((first | have u7a : Fr W1 w' _ := Fr.below (Fr.new bel rfl) yf | have u7a : Fr W1 w' _ := Fr.below (Fr.drew (Fr.new bel rfl)) yf); (try simp only [World.size_alloc] at u7a); (try dsimp only [World.drew] at u7a); (try simp only [World.size_alloc] at u7a); obtain ⟨⟨cfl, cfk, cfj⟩, ⟨cfi, cfh, cff⟩, ⟨cfe, cfd, cfc⟩, ⟨cbo, cbn, cbm⟩, cbl, cbk⟩ := Fr.facts u7a)); (try ((first | have u7b : Fr W1 w' _ := Fr.below (Fr.alloc (Fr.new bel rfl)) yf | have u7b : Fr W1 w' _ := Fr.below (Fr.drew (Fr.alloc (Fr.new bel rfl))) yf); (try simp only [World.size_alloc] at u7b); (try dsimp only [World.drew] at u7b); (try simp only [World.size_alloc] at u7b); obtain ⟨⟨cfb, cfa, cez⟩, ⟨cey, cex, cew⟩, ⟨cev, ceu, cet⟩, ⟨cbj, cbi, cbh⟩, cbg, cbf⟩ := Fr.facts u7b)); (try ((first | have u7c : Fr W1 w' _ := Fr.below Bt yf | have u7c : Fr W1 w' _ := Fr.below (Fr.alloc Bt) yf | have u7c : Fr W1 w' _ := Fr.below (Fr.alloc (Fr.alloc Bt)) yf); (try simp only [World.size_alloc] at u7c); (try dsimp only [World.drew] at u7c); (try simp only [World.size_alloc] at u7c); obtain ⟨⟨ces, cer, ceq⟩, ⟨cep, ceo, cen⟩, ⟨cem, cel, cek⟩, ⟨cbe, cbd, cbc⟩, cbb, cba⟩ := Fr.facts u7c)); (try ((first | have u7d : Fr W1 w' _ := Fr.below Bo yf | have u7d : Fr W1 w' _ := Fr.below (Fr.alloc Bo) yf | have u7d : Fr W1 w' _ := Fr.below (Fr.alloc (Fr.alloc Bo)) yf); (try simp only [World.size_alloc] at u7d); (try dsimp only [World.drew] at u7d); (try simp only [World.size_alloc] at u7d); obtain ⟨⟨cej, cei, ceh⟩, ⟨ceg, cef, cee⟩, ⟨ced, cec, ceb⟩, ⟨caz, cay, cax⟩, caw, cav⟩ := Fr.facts u7d))))
   all_goals (go_wp2_with fail; go_meet; refine ⟨_, _, rfl, rfl, ?_⟩; first | with_reducible exact adf ⟨by assumption, by assumption, by first | assumption | omega⟩ og Au hbw | with_reducible exact adf (Nc.Sq (by assumption) rfl) og.alloc Au.alloc (je hbw _) | with_reducible exact adf (Nc.Sr (by assumption) rfl) og.alloc Au.alloc (je hbw _) | with_reducible exact atw og Au hbw rfl rfl | with_reducible exact bii og Au hbw rfl rfl | with_reducible exact bih (by assumption) og Au hbw rfl)
  case rest =>
   revert hcut
   generalize wc = W2
   intro hcut
   obtain ⟨b6, b7, rfl, rfl, B6, B7, hbx, Jz, ob7⟩ := hcut
   obtain ⟨hc, hfz⟩ := az hbx
   replace jl := (hc _ _ q0).trans jl
   replace jk := (hc _ _ q0).trans jk
   replace jy := (hc _ _ q0).trans jy
   replace ky := (hc _ _ q0).trans ky
   replace Ag := (hc _ _ q0).trans Ag
   replace Af := (hc _ _ q0).trans Af
   replace q0 := Nat.lt_of_lt_of_le q0 hbx.size
   replace jq := (hc _ _ q1).trans jq
   replace jo := (hc _ _ q1).trans jo
   replace lh := (hc _ _ q1).trans lh
   replace lv := (hc _ _ q1).trans lv
   replace Dw := (hc _ _ q1).trans Dw
   replace Dv := (hc _ _ q1).trans Dv
   replace q1 := Nat.lt_of_lt_of_le q1 hbx.size
   replace tu := (hc _ _ qi).trans tu
   replace tq := (hc _ _ qi).trans tq
   replace Sw := (hc _ _ qi).trans Sw
   replace qi := Nat.lt_of_lt_of_le qi hbx.size
   replace Jz : w.heap.size + 1 + 1 < b6 := Nat.lt_of_lt_of_le q2 Jz
   replace ob7 : w.heap.size + 1 + 1 < b7 := Nat.lt_of_lt_of_le q2 ob7
   replace qw := (hc _ _ q2).trans qw
   replace uj := (hfz _ _ q2).trans uj
   replace qo := (hc _ _ q2).trans qo
   replace ui := (hfz _ _ q2).trans ui
   replace qm := (hc _ _ q2).trans qm
   replace uh := (hfz _ _ q2).trans uh
   replace qj := (hc _ _ q2).trans qj
   replace ug := (hfz _ _ q2).trans ug
   replace Ht := (hc _ _ q2).trans Ht
   replace Jq := (hfz _ _ q2).trans Jq
   replace Hr := (hc _ _ q2).trans Hr
   replace Jp := (hfz _ _ q2).trans Jp
   replace NR := Lib.hid ((hbx.block _ q2).trans NR.out)
   replace q2 := Nat.lt_of_lt_of_le q2 hbx.size
   replace hw0 := au hw0 hbx
   replace H1 := hide ((aa H1).below hbx)
   replace H2 := hide ((aa H2).below hbx)
   replace H3 := hide ((aa H3).below hbx)
   replace H4 := hide ((aa H4).below hbx)
   replace H5 := hide ((aa H5).below hbx)
   obtain ⟨s6, xg, A6, c6, l6, n6, H6⟩ := B6
   have sw : W2.cell? ⟨b6, 0, none⟩ = some (.int .i64 s6) := ag n6 0
   have su : W2.cell? ⟨b6, 1, none⟩ = some (.bool xg) := ag n6 1
   have Sv : W2.cell? ⟨b6, 2, none⟩ = some (.slice A6 l6.length c6) := ag n6 2
   have qh := lt_of_block n6
   replace H6 := hide H6
   clear n6
   obtain ⟨s7, Dc, A7, c7, l7, n7, H7⟩ := B7
   have Ko : W2.cell? ⟨b7, 0, none⟩ = some (.int .i64 s7) := ag n7 0
   have Kn : W2.cell? ⟨b7, 1, none⟩ = some (.bool Dc) := ag n7 1
   have Zw : W2.cell? ⟨b7, 2, none⟩ = some (.slice A7 l7.length c7) := ag n7 2
   have Jv := lt_of_block n7
   replace H7 := hide H7
   clear n7
   clear hbx hc hfz
   go_upto_region 3 with fail
   go_cut [8] (fun s8_ wx => ∃ b8 : Nat, s8_ = .pointer (some ⟨b8, 0, none⟩) ∧ Bj wx b8 n ∧ Below W2.heap.size W2 wx ∧ W2.heap.size ≤ b8)
   case first =>
    have KEEP := hide (show ∀ X, Below W2.heap.size W2 X → X.cell? ⟨w.heap.size, 0, none⟩ = some (.int .i64 s1) ∧ X.cell? ⟨w.heap.size, 1, none⟩ = some (.bool bz) ∧ X.cell? ⟨w.heap.size, 2, none⟩ = some (.slice A1 l1.length c1) ∧ X.cell? ⟨w.heap.size, 3, none⟩ = some (.int .i64 s2) ∧ X.cell? ⟨w.heap.size, 4, none⟩ = some (.bool cu) ∧ X.cell? ⟨w.heap.size, 5, none⟩ = some (.slice A2 l2.length c2) ∧ X.cell? ⟨w.heap.size + 1, 0, none⟩ = some (.int .i64 s3) ∧ X.cell? ⟨w.heap.size + 1, 1, none⟩ = some (.bool ze) ∧ X.cell? ⟨w.heap.size + 1, 2, none⟩ = some (.slice A3 l3.length c3) ∧ X.cell? ⟨w.heap.size + 1, 3, none⟩ = some (.int .i64 s4) ∧ X.cell? ⟨w.heap.size + 1, 4, none⟩ = some (.bool yc) ∧ X.cell? ⟨w.heap.size + 1, 5, none⟩ = some (.slice A4 l4.length c4) ∧ X.cell? ⟨b6, 0, none⟩ = some (.int .i64 s6) ∧ X.cell? ⟨b6, 1, none⟩ = some (.bool xg) ∧ X.cell? ⟨b6, 2, none⟩ = some (.slice A6 l6.length c6) ∧ X.cell? ⟨b7, 0, none⟩ = some (.int .i64 s7) ∧ X.cell? ⟨b7, 1, none⟩ = some (.bool Dc) ∧ X.cell? ⟨b7, 2, none⟩ = some (.slice A7 l7.length c7) from fun X hB => ⟨ai hB q0 jl, ai hB q0 jk, ai hB q0 jy, ai hB q0 ky, ai hB q0 Ag, ai hB q0 Af, ai hB q1 jq, ai hB q1 jo, ai hB q1 lh, ai hB q1 lv, ai hB q1 Dw, ai hB q1 Dv, ai hB qh sw, ai hB qh su, ai hB qh Sv, ai hB Jv Ko, ai hB Jv Kn, ai hB Jv Zw⟩)
    go_region_held3 (fun w' => w'.cell? ⟨w.heap.size, 0, none⟩ = some (.int .i64 s1) ∧ w'.cell? ⟨w.heap.size, 1, none⟩ = some (.bool bz) ∧ w'.cell? ⟨w.heap.size, 2, none⟩ = some (.slice A1 l1.length c1) ∧ w'.cell? ⟨w.heap.size, 3, none⟩ = some (.int .i64 s2) ∧ w'.cell? ⟨w.heap.size, 4, none⟩ = some (.bool cu) ∧ w'.cell? ⟨w.heap.size, 5, none⟩ = some (.slice A2 l2.length c2) ∧ w'.cell? ⟨w.heap.size + 1, 0, none⟩ = some (.int .i64 s3) ∧ w'.cell? ⟨w.heap.size + 1, 1, none⟩ = some (.bool ze) ∧ w'.cell? ⟨w.heap.size + 1, 2, none⟩ = some (.slice A3 l3.length c3) ∧ w'.cell? ⟨w.heap.size + 1, 3, none⟩ = some (.int .i64 s4) ∧ w'.cell? ⟨w.heap.size + 1, 4, none⟩ = some (.bool yc) ∧ w'.cell? ⟨w.heap.size + 1, 5, none⟩ = some (.slice A4 l4.length c4) ∧ w'.cell? ⟨b6, 0, none⟩ = some (.int .i64 s6) ∧ w'.cell? ⟨b6, 1, none⟩ = some (.bool xg) ∧ w'.cell? ⟨b6, 2, none⟩ = some (.slice A6 l6.length c6) ∧ w'.cell? ⟨b7, 0, none⟩ = some (.int .i64 s7) ∧ w'.cell? ⟨b7, 1, none⟩ = some (.bool Dc) ∧ w'.cell? ⟨b7, 2, none⟩ = some (.slice A7 l7.length c7)) (exact (aa KEEP) _ (by (repeat (first | with_reducible exact Below.refl _ _ | with_reducible assumption | with_reducible refine Below.drew ?_ | with_reducible refine je ?_ _ | (with_reducible refine Eg ?_ ?_ _ _; rotate_left; (first | omega | (simp <;> omega))))))) (first | (go_at_call_of 112 (Value.agg #[.int .i64 s1, .bool bz, .slice A1 l1.length c1]); refine ((aa HM1) s1 bz A1 c1 l1 s7 Dc A7 c7 l7 _ (au hw0 bel) (dz.below (aa H1) bel) (dz.below (aa H7) bel)).mono ?_; rintro e w' ⟨s8, Fg, A8, c8, l8, rfl, wh, La⟩; have hbw := ay (w := W2) bel La; have hsw := hbw.size; obtain ⟨hc, hfz⟩ := az hbw; (try ((first | have u8a : Fr W2 w' _ := Fr.below (Fr.new bel rfl) La | have u8a : Fr W2 w' _ := Fr.below (Fr.drew (Fr.new bel rfl)) La); (try simp only [World.size_alloc] at u8a); (try dsimp only [World.drew] at u8a); (try simp only [World.size_alloc] at u8a); obtain ⟨⟨cea, cdz, cdy⟩, ⟨cdx, cdw, cdv⟩, ⟨cdu, cdt, cds⟩, ⟨cau, cas, car⟩, caq, cao⟩ := Fr.facts u8a))) | (go_at_call_of 112 (Value.agg #[.int .i64 s3, .bool ze, .slice A3 l3.length c3]); refine ((aa HM2) s3 ze A3 c3 l3 s6 xg A6 c6 l6 _ (au hw0 bel) (dz.below (aa H3) bel) (dz.below (aa H6) bel)).mono ?_; rintro e w' ⟨s9, Gx, A9, c9, l9, rfl, En, gp⟩; have wh := dz.below (dz.below wh bel) gp; have hbw := ay (w := W2) bel gp; have hsw := hbw.size; obtain ⟨hc, hfz⟩ := az hbw; (try ((first | have u9a : Fr W2 w' _ := Fr.below (Fr.new bel rfl) gp | have u9a : Fr W2 w' _ := Fr.below (Fr.drew (Fr.new bel rfl)) gp); (try simp only [World.size_alloc] at u9a); (try dsimp only [World.drew] at u9a); (try simp only [World.size_alloc] at u9a); obtain ⟨⟨cdr, cdq, cdp⟩, ⟨cdo, cdn, cdm⟩, ⟨cdl, cdk, cdj⟩, ⟨cam, cal, cak⟩, caj, cai⟩ := Fr.facts u9a)); (try ((first | have Yo : Fr W2 w' _ := Fr.below u8a gp | have Yo : Fr W2 w' _ := Fr.below (Fr.alloc u8a) gp | have Yo : Fr W2 w' _ := Fr.below (Fr.alloc (Fr.alloc u8a)) gp); (try simp only [World.size_alloc] at Yo); (try dsimp only [World.drew] at Yo); (try simp only [World.size_alloc] at Yo); obtain ⟨⟨cdi, cdh, cdg⟩, ⟨cdf, cde, cdd⟩, ⟨cdc, cdb, cda⟩, ⟨cah, cag, caf⟩, cae, cad⟩ := Fr.facts Yo))) | (go_at_call_of 127 (Value.agg #[.int .i64 s8, .bool Fg, .slice A8 l8.length c8]); refine ((aa HN) s8 Fg A8 c8 l8 s9 Gx A9 c9 l9 _ (au hw0 bel) (dz.below wh bel) (dz.below En bel)).mono ?_; rintro e w' ⟨s10, Es, Ae, c10, l10, rfl, zt, Cq⟩; have wh := dz.below (dz.below wh bel) Cq; have En := dz.below (dz.below En bel) Cq; have hbw := ay (w := W2) bel Cq; have hsw := hbw.size; obtain ⟨hc, hfz⟩ := az hbw; (try ((first | have ahs : Fr W2 w' _ := Fr.below (Fr.new bel rfl) Cq | have ahs : Fr W2 w' _ := Fr.below (Fr.drew (Fr.new bel rfl)) Cq); (try simp only [World.size_alloc] at ahs); (try dsimp only [World.drew] at ahs); (try simp only [World.size_alloc] at ahs); obtain ⟨⟨ccy, ccx, ccw⟩, ⟨ccv, ccu, cct⟩, ⟨ccs, ccr, ccq⟩, ⟨bwk, bwj, bwi⟩, bwh, bwg⟩ := Fr.facts ahs)); (try ((first | have acw : Fr W2 w' _ := Fr.below u9a Cq | have acw : Fr W2 w' _ := Fr.below (Fr.alloc u9a) Cq | have acw : Fr W2 w' _ := Fr.below (Fr.alloc (Fr.alloc u9a)) Cq); (try simp only [World.size_alloc] at acw); (try dsimp only [World.drew] at acw); (try simp only [World.size_alloc] at acw); obtain ⟨⟨ccp, cco, ccn⟩, ⟨ccm, ccl, cck⟩, ⟨ccj, cci, cch⟩, ⟨bwf, bwe, bwc⟩, bwb, bwa⟩ := Fr.facts acw)); (try ((first | have acv : Fr W2 w' _ := Fr.below Yo Cq | have acv : Fr W2 w' _ := Fr.below (Fr.alloc Yo) Cq | have acv : Fr W2 w' _ := Fr.below (Fr.alloc (Fr.alloc Yo)) Cq); (try simp only [World.size_alloc] at acv); (try dsimp only [World.drew] at acv); (try simp only [World.size_alloc] at acv); obtain ⟨⟨ccg, ccf, cce⟩, ⟨ccd, ccc, ccb⟩, ⟨cca, cbz, cby⟩, ⟨bvz, bvy, bvx⟩, bvw, bvv⟩ := Fr.facts acv))))
    all_goals (go_wp2_with fail; go_meet; refine ⟨_, rfl, ?_⟩; first | with_reducible exact Re (by assumption) zt hbw | with_reducible exact Zc zt hbw rfl)
   case rest =>
    revert hcut
    generalize wc = W3
    intro hcut
    obtain ⟨b8, rfl, B8, hbx, ob8⟩ := hcut
    obtain ⟨hc, hfz⟩ := az hbx
    replace jl := (hc _ _ q0).trans jl
    replace jk := (hc _ _ q0).trans jk
    replace jy := (hc _ _ q0).trans jy
    replace ky := (hc _ _ q0).trans ky
    replace Ag := (hc _ _ q0).trans Ag
    replace Af := (hc _ _ q0).trans Af
    replace q0 := Nat.lt_of_lt_of_le q0 hbx.size
    replace jq := (hc _ _ q1).trans jq
    replace jo := (hc _ _ q1).trans jo
    replace lh := (hc _ _ q1).trans lh
    replace lv := (hc _ _ q1).trans lv
    replace Dw := (hc _ _ q1).trans Dw
    replace Dv := (hc _ _ q1).trans Dv
    replace q1 := Nat.lt_of_lt_of_le q1 hbx.size
    replace tu := (hc _ _ qi).trans tu
    replace tq := (hc _ _ qi).trans tq
    replace Sw := (hc _ _ qi).trans Sw
    replace qi := Nat.lt_of_lt_of_le qi hbx.size
    replace sw := (hc _ _ qh).trans sw
    replace su := (hc _ _ qh).trans su
    replace Sv := (hc _ _ qh).trans Sv
    replace qh := Nat.lt_of_lt_of_le qh hbx.size
    replace Ko := (hc _ _ Jv).trans Ko
    replace Kn := (hc _ _ Jv).trans Kn
    replace Zw := (hc _ _ Jv).trans Zw
    replace Jv := Nat.lt_of_lt_of_le Jv hbx.size
    replace ob8 : w.heap.size + 1 + 1 < b8 := Nat.lt_of_lt_of_le q2 ob8
    replace qw := (hc _ _ q2).trans qw
    replace uj := (hfz _ _ q2).trans uj
    replace qo := (hc _ _ q2).trans qo
    replace ui := (hfz _ _ q2).trans ui
    replace qm := (hc _ _ q2).trans qm
    replace uh := (hfz _ _ q2).trans uh
    replace qj := (hc _ _ q2).trans qj
    replace ug := (hfz _ _ q2).trans ug
    replace Ht := (hc _ _ q2).trans Ht
    replace Jq := (hfz _ _ q2).trans Jq
    replace Hr := (hc _ _ q2).trans Hr
    replace Jp := (hfz _ _ q2).trans Jp
    replace NR := Lib.hid ((hbx.block _ q2).trans NR.out)
    replace q2 := Nat.lt_of_lt_of_le q2 hbx.size
    replace hw0 := au hw0 hbx
    replace H1 := hide ((aa H1).below hbx)
    replace H2 := hide ((aa H2).below hbx)
    replace H3 := hide ((aa H3).below hbx)
    replace H4 := hide ((aa H4).below hbx)
    replace H5 := hide ((aa H5).below hbx)
    replace H6 := hide ((aa H6).below hbx)
    replace H7 := hide ((aa H7).below hbx)
    obtain ⟨s10, Es, Ae, c10, l10, n10, Gg⟩ := B8
    have Mc : W3.cell? ⟨b8, 0, none⟩ = some (.int .i64 s10) := ag n10 0
    have Ma : W3.cell? ⟨b8, 1, none⟩ = some (.bool Es) := ag n10 1
    have afx : W3.cell? ⟨b8, 2, none⟩ = some (.slice Ae l10.length c10) := ag n10 2
    have Kk := lt_of_block n10
    replace Gg := hide Gg
    clear n10
    clear hbx hc hfz
    go_upto_region 4 with fail
    go_cut [9] (fun s9_ wx => ∃ b9 : Nat, s9_ = .pointer (some ⟨b9, 0, none⟩) ∧ Bj wx b9 h ∧ Below W3.heap.size W3 wx ∧ W3.heap.size ≤ b9)
    case first =>
     go_wp2_with fail
     (go_at_call_of 124 (Value.agg #[.int .i64 s5, .bool si, .slice A5 l5.length c5]); refine ((aa HH) s5 si A5 c5 l5 s10 Es Ae c10 l10 _ (au hw0 bel) (dz.below (aa H5) bel) (dz.below (aa Gg) bel)).mono ?_; rintro e w' ⟨s11, Lx, Fv, c11, Fq, rfl, Ec, Dx⟩; have hbw := ay (w := W3) bel Dx; have hsw := hbw.size; obtain ⟨hc, hfz⟩ := az hbw)
     (go_wp2_with fail; go_meet; refine ⟨_, rfl, ?_⟩; first | with_reducible exact Re (by assumption) Ec hbw | with_reducible exact Zc Ec hbw rfl)
    case rest =>
     revert hcut
     generalize wc = W4
     intro hcut
     obtain ⟨b9, rfl, B9, hbx, ob9⟩ := hcut
     obtain ⟨hc, hfz⟩ := az hbx
     replace jl := (hc _ _ q0).trans jl
     replace jk := (hc _ _ q0).trans jk
     replace jy := (hc _ _ q0).trans jy
     replace ky := (hc _ _ q0).trans ky
     replace Ag := (hc _ _ q0).trans Ag
     replace Af := (hc _ _ q0).trans Af
     replace q0 := Nat.lt_of_lt_of_le q0 hbx.size
     replace jq := (hc _ _ q1).trans jq
     replace jo := (hc _ _ q1).trans jo
     replace lh := (hc _ _ q1).trans lh
     replace lv := (hc _ _ q1).trans lv
     replace Dw := (hc _ _ q1).trans Dw
     replace Dv := (hc _ _ q1).trans Dv
     replace q1 := Nat.lt_of_lt_of_le q1 hbx.size
     replace tu := (hc _ _ qi).trans tu
     replace tq := (hc _ _ qi).trans tq
     replace Sw := (hc _ _ qi).trans Sw
     replace qi := Nat.lt_of_lt_of_le qi hbx.size
     replace sw := (hc _ _ qh).trans sw
     replace su := (hc _ _ qh).trans su
     replace Sv := (hc _ _ qh).trans Sv
     replace qh := Nat.lt_of_lt_of_le qh hbx.size
     replace Ko := (hc _ _ Jv).trans Ko
     replace Kn := (hc _ _ Jv).trans Kn
     replace Zw := (hc _ _ Jv).trans Zw
     replace Jv := Nat.lt_of_lt_of_le Jv hbx.size
     replace Mc := (hc _ _ Kk).trans Mc
     replace Ma := (hc _ _ Kk).trans Ma
     replace afx := (hc _ _ Kk).trans afx
     replace Kk := Nat.lt_of_lt_of_le Kk hbx.size
     replace ob9 : w.heap.size + 1 + 1 < b9 := Nat.lt_of_lt_of_le q2 ob9
     replace qw := (hc _ _ q2).trans qw
     replace uj := (hfz _ _ q2).trans uj
     replace qo := (hc _ _ q2).trans qo
     replace ui := (hfz _ _ q2).trans ui
     replace qm := (hc _ _ q2).trans qm
     replace uh := (hfz _ _ q2).trans uh
     replace qj := (hc _ _ q2).trans qj
     replace ug := (hfz _ _ q2).trans ug
     replace Ht := (hc _ _ q2).trans Ht
     replace Jq := (hfz _ _ q2).trans Jq
     replace Hr := (hc _ _ q2).trans Hr
     replace Jp := (hfz _ _ q2).trans Jp
     replace NR := Lib.hid ((hbx.block _ q2).trans NR.out)
     replace q2 := Nat.lt_of_lt_of_le q2 hbx.size
     replace hw0 := au hw0 hbx
     replace H1 := hide ((aa H1).below hbx)
     replace H2 := hide ((aa H2).below hbx)
     replace H3 := hide ((aa H3).below hbx)
     replace H4 := hide ((aa H4).below hbx)
     replace H5 := hide ((aa H5).below hbx)
     replace H6 := hide ((aa H6).below hbx)
     replace H7 := hide ((aa H7).below hbx)
     replace Gg := hide ((aa Gg).below hbx)
     obtain ⟨s11, Lx, Fv, c11, Fq, n11, Vf⟩ := B9
     have Vu : W4.cell? ⟨b9, 0, none⟩ = some (.int .i64 s11) := ag n11 0
     have Vt : W4.cell? ⟨b9, 1, none⟩ = some (.bool Lx) := ag n11 1
     have Vs : W4.cell? ⟨b9, 2, none⟩ = some (.slice Fv Fq.length c11) := ag n11 2
     have Ju := lt_of_block n11
     replace Vf := hide Vf
     clear n11
     clear hbx hc hfz
     go_upto_region 5 with fail
     have KEEP := hide (show ∀ X, Below W4.heap.size W4 X → X.cell? ⟨w.heap.size + 1, 0, none⟩ = some (.int .i64 s3) ∧ X.cell? ⟨w.heap.size + 1, 1, none⟩ = some (.bool ze) ∧ X.cell? ⟨w.heap.size + 1, 2, none⟩ = some (.slice A3 l3.length c3) ∧ X.cell? ⟨w.heap.size + 1, 3, none⟩ = some (.int .i64 s4) ∧ X.cell? ⟨w.heap.size + 1, 4, none⟩ = some (.bool yc) ∧ X.cell? ⟨w.heap.size + 1, 5, none⟩ = some (.slice A4 l4.length c4) ∧ X.cell? ⟨b6, 0, none⟩ = some (.int .i64 s6) ∧ X.cell? ⟨b6, 1, none⟩ = some (.bool xg) ∧ X.cell? ⟨b6, 2, none⟩ = some (.slice A6 l6.length c6) ∧ X.cell? ⟨b8, 0, none⟩ = some (.int .i64 s10) ∧ X.cell? ⟨b8, 1, none⟩ = some (.bool Es) ∧ X.cell? ⟨b8, 2, none⟩ = some (.slice Ae l10.length c10) ∧ X.cell? ⟨b9, 0, none⟩ = some (.int .i64 s11) ∧ X.cell? ⟨b9, 1, none⟩ = some (.bool Lx) ∧ X.cell? ⟨b9, 2, none⟩ = some (.slice Fv Fq.length c11) from fun X hB => ⟨ai hB q1 jq, ai hB q1 jo, ai hB q1 lh, ai hB q1 lv, ai hB q1 Dw, ai hB q1 Dv, ai hB qh sw, ai hB qh su, ai hB qh Sv, ai hB Kk Mc, ai hB Kk Ma, ai hB Kk afx, ai hB Ju Vu, ai hB Ju Vt, ai hB Ju Vs⟩)
     go_region_held3 (fun w' => w'.cell? ⟨w.heap.size + 1, 0, none⟩ = some (.int .i64 s3) ∧ w'.cell? ⟨w.heap.size + 1, 1, none⟩ = some (.bool ze) ∧ w'.cell? ⟨w.heap.size + 1, 2, none⟩ = some (.slice A3 l3.length c3) ∧ w'.cell? ⟨w.heap.size + 1, 3, none⟩ = some (.int .i64 s4) ∧ w'.cell? ⟨w.heap.size + 1, 4, none⟩ = some (.bool yc) ∧ w'.cell? ⟨w.heap.size + 1, 5, none⟩ = some (.slice A4 l4.length c4) ∧ w'.cell? ⟨b6, 0, none⟩ = some (.int .i64 s6) ∧ w'.cell? ⟨b6, 1, none⟩ = some (.bool xg) ∧ w'.cell? ⟨b6, 2, none⟩ = some (.slice A6 l6.length c6) ∧ w'.cell? ⟨b8, 0, none⟩ = some (.int .i64 s10) ∧ w'.cell? ⟨b8, 1, none⟩ = some (.bool Es) ∧ w'.cell? ⟨b8, 2, none⟩ = some (.slice Ae l10.length c10) ∧ w'.cell? ⟨b9, 0, none⟩ = some (.int .i64 s11) ∧ w'.cell? ⟨b9, 1, none⟩ = some (.bool Lx) ∧ w'.cell? ⟨b9, 2, none⟩ = some (.slice Fv Fq.length c11)) (first | with_reducible exact ⟨(ib _ _ _ _ _ _ _ _ om).trans (ai hbw q1 jq), (ib _ _ _ _ _ _ _ _ om).trans (ai hbw q1 jo), (ib _ _ _ _ _ _ _ _ om).trans (ai hbw q1 lh), (ib _ _ _ _ _ _ _ _ om).trans (ai hbw q1 lv), (ib _ _ _ _ _ _ _ _ om).trans (ai hbw q1 Dw), (ib _ _ _ _ _ _ _ _ om).trans (ai hbw q1 Dv), (ib _ _ _ _ _ _ _ _ om).trans (ai hbw qh sw), (ib _ _ _ _ _ _ _ _ om).trans (ai hbw qh su), (ib _ _ _ _ _ _ _ _ om).trans (ai hbw qh Sv), (ib _ _ _ _ _ _ _ _ om).trans (ai hbw Kk Mc), (ib _ _ _ _ _ _ _ _ om).trans (ai hbw Kk Ma), (ib _ _ _ _ _ _ _ _ om).trans (ai hbw Kk afx), (ib _ _ _ _ _ _ _ _ om).trans (ai hbw Ju Vu), (ib _ _ _ _ _ _ _ _ om).trans (ai hbw Ju Vt), (ib _ _ _ _ _ _ _ _ om).trans (ai hbw Ju Vs)⟩ | with_reducible exact (aa KEEP) _ bel) (first | (go_at_call_of 125 (Value.agg #[.int .i64 s10, .bool Es, .slice Ae l10.length c10]); refine ((aa HR1) s10 Es Ae c10 l10 s11 Lx Fv c11 Fq _ (au hw0 bel) (dz.below (aa Gg) bel) (dz.below (aa Vf) bel)).mono ?_; rintro e w' ⟨s12, Vr, Lc, c12, Ky, rfl, Gq, Fh⟩; have hbw := ay (w := W4) bel Fh; have hsw := hbw.size; obtain ⟨hc, hfz⟩ := az hbw) | (go_at_call_of 125 (Value.agg #[.int .i64 s4, .bool yc, .slice A4 l4.length c4]); refine ((aa HE) s4 yc A4 c4 l4 s11 Lx Fv c11 Fq _ (au hw0 bel) (dz.below (aa H4) bel) (dz.below (aa Vf) bel)).mono ?_; rintro e w' ⟨s13, bng, Rz, c13, Rk, rfl, Oo, ado⟩; have Gq := dz.below (dz.below Gq bel) ado; have hbw := ay (w := W4) bel ado; have hsw := hbw.size; obtain ⟨hc, hfz⟩ := az hbw) | (go_at_call_of 112 (Value.agg #[.int .i64 s6, .bool xg, .slice A6 l6.length c6]); refine ((aa HR2) s6 xg A6 c6 l6 s13 bng Rz c13 Rk _ (au hw0 bel) (dz.below (aa H6) bel) (dz.below Oo bel)).mono ?_; rintro e w' ⟨s14, bbs, A14, c14, l14, rfl, buj, bau⟩; have Gq := dz.below (dz.below Gq bel) bau; have Oo := dz.below (dz.below Oo bel) bau; have hbw := ay (w := W4) bel bau; have hsw := hbw.size; obtain ⟨hc, hfz⟩ := az hbw))
     have hblk : w'.heap[w.heap.size + 1 + 1]? = some (.cells #[.int .i64 0, .bool false, .slice none 0 0, .int .i64 0, .bool false, .slice none 0 0] 63 (0, 0)) := (hbw.block _ q2).trans NR.out
     have jd := Lib.hid hblk
     have gp : Below w.heap.size w w' := au hw0 hbw
     clear hblk
     go_wp2_with fail
     exact bodyPost_ret (v := (Value.agg #[.int .i64 s12, .bool Vr, .slice Lc Ky.length c12, .int .i64 s14, .bool bbs, .slice A14 l14.length c14])) (by simp [results, Tryz.results82, go_sem, hc, qw, qo, qm, qj, Ht, Hr, q2]) rfl
      ⟨s12, Vr, Lc, c12, Ky, s14, bbs, A14, c14, l14, rfl, (Gq).upto jd.out (Ai _ _ _ _ _ _ _ _ _ _) (pq _ _ _ _ _ _ _ _), (buj).upto jd.out (Ai _ _ _ _ _ _ _ _ _ _) (pq _ _ _ _ _ _ _ _), gp.grown (pq _ _ _ _ _ _ _ _) gp.size (fun k hk => by injection hk with hk; omega)⟩

end Go.Proofs.YtpjgoogeokbaaaaGreatDoor
namespace Go.Proofs.YtpjgoogeokbaaaaGreatDoor
open Go.RowKit

end Go.Proofs.YtpjgoogeokbaaaaGreatDoor
namespace Go.Proofs.YtpjgoogeokbaaaaGreatDoor
open Go.RowKit

set_option maxHeartbeats 8000000 in
theorem ayj (s1 : Int) (bz : Bool) (A1 : Option Addr) (c1 : Nat) (l1 : List Nat) (z1 : Int) (s2 : Int) (cu : Bool) (A2 : Option Addr) (c2 : Nat) (l2 : List Nat) (z2 : Int) (w : World) (h1 : dz w s1 bz A1 c1 l1 z1) (h2 : dz w s2 cu A2 c2 l2 z2) :
  Calls Tryz.prog 87 #[(Value.agg #[.int .i64 s1, .bool bz, .slice A1 l1.length c1, .int .i64 s2, .bool cu, .slice A2 l2.length c2])] w fun e w' => Gr w (-z1) z2 e w' := by
 have H1 := hide h1
 have H2 := hide h2
 clear h1 h2
 go_enter Tryz.func87, Tryz.ntmps87
 go_wp2_with fail
 obtain ⟨n0, n1, hsz, hw0⟩ := jm w (.cells #[.int .i64 s1, .bool bz, .slice A1 l1.length c1, .int .i64 s2, .bool cu, .slice A2 l2.length c2] 63) (.cells #[.int .i64 0, .bool false, .slice none 0 0, .int .i64 0, .bool false, .slice none 0 0] 63)
 generalize ((w.alloc (.cells #[.int .i64 s1, .bool bz, .slice A1 l1.length c1, .int .i64 s2, .bool cu, .slice A2 l2.length c2] 63)).alloc (.cells #[.int .i64 0, .bool false, .slice none 0 0, .int .i64 0, .bool false, .slice none 0 0] 63)) = W0 at *
 have jl : W0.cell? ⟨w.heap.size, 0, none⟩ = some (.int .i64 s1) := ag n0 0
 have jk : W0.cell? ⟨w.heap.size, 1, none⟩ = some (.bool bz) := ag n0 1
 have jy : W0.cell? ⟨w.heap.size, 2, none⟩ = some (.slice A1 l1.length c1) := ag n0 2
 have ky : W0.cell? ⟨w.heap.size, 3, none⟩ = some (.int .i64 s2) := ag n0 3
 have Ag : W0.cell? ⟨w.heap.size, 4, none⟩ = some (.bool cu) := ag n0 4
 have Af : W0.cell? ⟨w.heap.size, 5, none⟩ = some (.slice A2 l2.length c2) := ag n0 5
 have q0 : w.heap.size < W0.heap.size := by omega
 have jq : W0.cell? ⟨w.heap.size + 1, 0, none⟩ = some (.int .i64 0) := ag n1 0
 have jo : W0.cell? ⟨w.heap.size + 1, 1, none⟩ = some (.bool false) := ag n1 1
 have lh : W0.cell? ⟨w.heap.size + 1, 2, none⟩ = some (.slice none 0 0) := ag n1 2
 have lv : W0.cell? ⟨w.heap.size + 1, 3, none⟩ = some (.int .i64 0) := ag n1 3
 have Dw : W0.cell? ⟨w.heap.size + 1, 4, none⟩ = some (.bool false) := ag n1 4
 have Dv : W0.cell? ⟨w.heap.size + 1, 5, none⟩ = some (.slice none 0 0) := ag n1 5
 have q1 : w.heap.size + 1 < W0.heap.size := by omega
 have Lm := ah n1 0
 have Ll := ah n1 1
 have adr := ah n1 2
 have adq := ah n1 3
 have bba := ah n1 4
 have baz := ah n1 5
 have NR := Lib.hid n1
 clear n0 n1
 go_region_held3 (fun w' => w'.cell? ⟨w.heap.size, 0, none⟩ = some (.int .i64 s1) ∧ w'.cell? ⟨w.heap.size, 1, none⟩ = some (.bool bz) ∧ w'.cell? ⟨w.heap.size, 2, none⟩ = some (.slice A1 l1.length c1) ∧ w'.cell? ⟨w.heap.size, 3, none⟩ = some (.int .i64 s2) ∧ w'.cell? ⟨w.heap.size, 4, none⟩ = some (.bool cu) ∧ w'.cell? ⟨w.heap.size, 5, none⟩ = some (.slice A2 l2.length c2)) ((first | with_reducible exact ⟨(hc _ _ q0).trans jl, (hc _ _ q0).trans jk, (hc _ _ q0).trans jy, (hc _ _ q0).trans ky, (hc _ _ q0).trans Ag, (hc _ _ q0).trans Af⟩ | with_reducible exact ⟨jl, jk, jy, ky, Ag, Af⟩ | with_reducible exact ⟨(ib _ _ _ _ _ _ _ _ om).trans ((hc _ _ q0).trans jl), (ib _ _ _ _ _ _ _ _ om).trans ((hc _ _ q0).trans jk), (ib _ _ _ _ _ _ _ _ om).trans ((hc _ _ q0).trans jy), (ib _ _ _ _ _ _ _ _ om).trans ((hc _ _ q0).trans ky), (ib _ _ _ _ _ _ _ _ om).trans ((hc _ _ q0).trans Ag), (ib _ _ _ _ _ _ _ _ om).trans ((hc _ _ q0).trans Af)⟩ | exact ⟨(hc _ _ q0).trans jl, (hc _ _ q0).trans jk, (hc _ _ q0).trans jy, (hc _ _ q0).trans ky, (hc _ _ q0).trans Ag, (hc _ _ q0).trans Af⟩ | exact ⟨jl, jk, jy, ky, Ag, Af⟩ | exact ⟨(ib _ _ _ _ _ _ _ _ om).trans ((hc _ _ q0).trans jl), (ib _ _ _ _ _ _ _ _ om).trans ((hc _ _ q0).trans jk), (ib _ _ _ _ _ _ _ _ om).trans ((hc _ _ q0).trans jy), (ib _ _ _ _ _ _ _ _ om).trans ((hc _ _ q0).trans ky), (ib _ _ _ _ _ _ _ _ om).trans ((hc _ _ q0).trans Ag), (ib _ _ _ _ _ _ _ _ om).trans ((hc _ _ q0).trans Af)⟩)) (first | (go_at_call_of 129 (Value.agg #[.int .i64 s1, .bool bz, .slice A1 l1.length c1]); refine (Vo s1 bz A1 c1 l1 z1 _ (by exact (aa H1).below (au hw0 bem))).mono ?_; rintro e w' ⟨s5, si, A5, c5, l5, rfl, kz, hb⟩; have hbw := ay (w := W0) bem hb; obtain ⟨hc, hfz⟩ := az hbw))
 have hblk : w'.heap[w.heap.size + 1]? = some (.cells #[.int .i64 0, .bool false, .slice none 0 0, .int .i64 0, .bool false, .slice none 0 0] 63 (0, 0)) := (hbw.block _ q1).trans NR.out
 have jd := Lib.hid hblk
 have gp : Below w.heap.size w w' := au hw0 hbw
 clear hblk
 go_wp2_with fail
 exact bodyPost_ret (v := (Value.agg #[.int .i64 s5, .bool si, .slice A5 l5.length c5, .int .i64 s2, .bool cu, .slice A2 l2.length c2])) (by simp [results, Tryz.results87, go_sem, hc, jq, jo, lh, lv, Dw, Dv, q1]) rfl
  ⟨s5, si, A5, c5, l5, s2, cu, A2, c2, l2, rfl, (kz).upto jd.out (Ai _ _ _ _ _ _ _ _ _ _) (pq _ _ _ _ _ _ _ _), ((aa H2).below (au hw0 hbw)).upto jd.out (Ai _ _ _ _ _ _ _ _ _ _) (pq _ _ _ _ _ _ _ _), gp.grown (pq _ _ _ _ _ _ _ _) gp.size (fun k hk => by injection hk with hk; omega)⟩

end Go.Proofs.YtpjgoogeokbaaaaGreatDoor
