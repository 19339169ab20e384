/- Texts beneath a law of layer 1. -/
import Derived.Test.YtfgeaakhlcaibaaGreatDoorCw5
set_option maxRecDepth 100000
set_option maxHeartbeats 16000000
namespace Go.Proofs.YtfgeaakhlcaibaaGreatDoor
open Go.RowKit

theorem Xv (s1 : Int) (dw : Bool) (A1 : Option Addr) (c1 : Nat) (l1 : List Nat) (z1 : Int) (s2 : Int) (di : Bool) (A2 : Option Addr) (c2 : Nat) (l2 : List Nat) (z2 : Int) (w : World)
  (h1 : gu w s1 dw A1 c1 l1 z1) (h2 : gu w s2 di A2 c2 l2 z2) (hl1 : l1.length ≤ lim) (hl2 : l2.length ≤ lim) :
  Calls Tryz.prog 147 #[.agg #[.int .i64 s1, .bool dw, .slice A1 l1.length c1], .agg #[.int .i64 s2, .bool di, .slice A2 l2.length c2]] w fun e w' => Ce w (z1 * z2) e w' := by
 have qg := hide (fun W => si s1 dw A1 c1 l1.length W)
 have HS2 := hide (fun W => si s2 di A2 c2 l2.length W)
 have hz := aer z1 z2
 have Qg : ∀ (A5 A6 : Option Addr) (c5 c6 : Nat) (l5 l6 : List Nat) (W : World), lg W A5 c5 l5 z1.natAbs → lg W A6 c6 l6 z2.natAbs → l5.length + l6.length ≤ 35184372088832 := fun _ _ _ _ _ _ _ g1 g2 => by
  have e1 := g1.len h1.Sc
  have e2 := g2.len h2.Sc
  rw [Ah] at hl1 hl2
  omega
 have G1 : ∀ W0, Below w.heap.size w W0 → Hid (∀ W, Below W0.heap.size W0 W → Calls Tryz.prog 159 #[.agg #[.int .i64 s1, .bool dw, .slice A1 l1.length c1]] W fun e w' => e = .returned (.int .i64 (su z1)) ∧ Below W.heap.size W w') := fun W0 h0 W hW => Ad s1 dw A1 c1 l1 z1 W (gu.below h1 (bz h0 hW))
 have G2 : ∀ W0, Below w.heap.size w W0 → Hid (∀ W, Below W0.heap.size W0 W → Calls Tryz.prog 159 #[.agg #[.int .i64 s2, .bool di, .slice A2 l2.length c2]] W fun e w' => e = .returned (.int .i64 (su z2)) ∧ Below W.heap.size W w') := fun W0 h0 W hW => Ad s2 di A2 c2 l2 z2 W (gu.below h2 (bz h0 hW))
 have B1 : ∀ W0, Below w.heap.size w W0 → Hid (∀ W, Below W0.heap.size W0 W → Calls Tryz.prog 191 #[.agg #[.int .i64 s1, .bool dw, .slice A1 l1.length c1]] W fun e w' => Fz W z1.natAbs e w') := fun W0 h0 W hW => Ep s1 dw A1 c1 l1 z1 W (gu.below h1 (bz h0 hW))
 have B2 : ∀ W0, Below w.heap.size w W0 → Hid (∀ W, Below W0.heap.size W0 W → Calls Tryz.prog 191 #[.agg #[.int .i64 s2, .bool di, .slice A2 l2.length c2]] W fun e w' => Fz W z2.natAbs e w') := fun W0 h0 W hW => Ep s2 di A2 c2 l2 z2 W (gu.below h2 (bz h0 hW))
 have ho1 : -1 ≤ su z1 * su z2 ∧ su z1 * su z2 ≤ 1 := by unfold su; (repeat' split) <;> omega
 have Rw := h1.bounds
 have Rv := h2.bounds
 have hsz1 : l1.length = 0 → s1.natAbs = z1.natAbs ∧ z1.natAbs < Iy := fun h => by obtain ⟨e, _, e3⟩ := h1.Aq h; rw [e]; exact ⟨rfl, e3⟩
 have hsz2 : l2.length = 0 → s2.natAbs = z2.natAbs ∧ z2.natAbs < Iy := fun h => by obtain ⟨e, _, e3⟩ := h2.Aq h; rw [e]; exact ⟨rfl, e3⟩
 have Z1 := hide (fun W => Ji s1 Rw.1 Rw.2 W)
 have Z2 := hide (fun W => Ji s2 Rv.1 Rv.2 W)
 obtain ⟨m1, hm1⟩ : ∃ o, o = z1.natAbs := ⟨_, rfl⟩
 obtain ⟨m2, hm2⟩ : ∃ o, o = z2.natAbs := ⟨_, rfl⟩
 obtain ⟨o1, agl⟩ : ∃ o, o = su z1 := ⟨_, rfl⟩
 obtain ⟨o2, agk⟩ : ∃ o, o = su z2 := ⟨_, rfl⟩
 rw [← hm1] at B1 Qg hz hsz1
 rw [← hm2] at B2 Qg hz hsz2
 rw [← agl] at G1 hz ho1
 rw [← agk] at G2 hz ho1
 obtain ⟨op, hop⟩ : ∃ o, o = o1 * o2 := ⟨_, rfl⟩
 have e1 : IntKind.i64.wrap (o1 * o2) = op := by rw [hop]; exact IntWalk.i64_in _ om
 have e1' : wrap64 (o1 * o2) = op := by rw [hop]; exact IntWalk.wrap64_in _ om
 rw [← hop] at hz
 obtain ⟨ng, hng⟩ : ∃ b, b = decide (op < 0) := ⟨_, rfl⟩
 rw [← hng] at hz
 obtain ⟨Z, hZ⟩ : ∃ o, o = z1 * z2 := ⟨_, rfl⟩
 rw [← hZ] at hz ⊢
 have HZ := Lib.hid hz.symm
 have Gm := hide G1; have HG2 := hide G2; have HB1 := hide B1; have HB2 := hide B2; have HLEN := hide Qg
 have ngE := hng.symm
 clear hm1 hm2 agl agk ho1 hop hng hz hZ G1 G2 B1 B2 h1 h2 Rw Rv Qg hl1 hl2
 by_cases hs : l1.length = 0 ∧ l2.length = 0
 ·
  obtain ⟨a1, a2⟩ := hs
  rw [decide_eq_true a1] at qg
  rw [decide_eq_true a2] at HS2
  obtain ⟨y1, y2⟩ := hsz1 a1
  obtain ⟨y3, y4⟩ := hsz2 a2
  rw [y1] at Z1
  rw [y3] at Z2
  have hB1 : m1 < dz := by have := y2; rw [vv] at this; rw [gy]; omega
  have hB2 : m2 < dz := by have := y4; rw [vv] at this; rw [gy]; omega
  obtain ⟨hi', hhi⟩ : ∃ t, t = m1 * m2 / dz := ⟨_, rfl⟩
  obtain ⟨lo, hlo⟩ : ∃ t, t = m1 * m2 % dz := ⟨_, rfl⟩
  have hM := Ud m1 m2 hB1 hB2
  rw [← hhi, ← hlo] at hM
  have HM := hide hM
  have Ip : lo < dz := by rw [hlo]; exact Nat.mod_lt _ (Nat.lt_trans Nat.zero_lt_one qh)
  have HW := hide (fun W => Qq ng lo Ip W)
  have Ba : hi' = 0 → lo = m1 * m2 := fun h => by
   have := Nat.div_add_mod (m1 * m2) dz
   rw [← hhi, ← hlo, h] at this
   omega
  by_cases hh : hi' = 0
  ·
   have hb0 : ((hi' : Int) == 0) = true := beq_iff_eq.2 om
   have hW' : ∀ W, Calls Tryz.prog 185 #[.bool ng, .int .u64 ((lo : Nat) : Int)] W fun e w' => Ce W Z e w' := fun W => by
    have := (aa HW) W
    rw [Ba hh] at this ⊢
    rw [HZ.out]; exact this
   have HWW := hide hW'
   clear hW' HW Ba hh hlo hhi hM hB1 hB2 Ip y1 y2 y3 y4 hsz1 hsz2 a1 a2
   go_enter Tryz.func147, Tryz.ntmps147
   go_wp2_with fail
   obtain ⟨n1, n2, n3, hsz, hw0⟩ := ou w (.cells #[.int .i64 s1, .bool dw, .slice A1 l1.length c1] 77) (.cells #[.int .i64 s2, .bool di, .slice A2 l2.length c2] 77) (.cells #[.int .i64 0, .bool false, .slice none 0 0] 77)
   generalize (((w.alloc (.cells #[.int .i64 s1, .bool dw, .slice A1 l1.length c1] 77)).alloc (.cells #[.int .i64 s2, .bool di, .slice A2 l2.length c2] 77)).alloc (.cells #[.int .i64 0, .bool false, .slice none 0 0] 77)) = W0 at *
   have k1 := ah n1 0
   have k2 := ah n1 1
   have k3 := ah n1 2
   simp only [Array.getElem?_eq_getElem, kg, jy, jw] at k1 k2 k3
   have k4 := ah n2 0
   have k5 := ah n2 1
   have k6 := ah n2 2
   simp only [Array.getElem?_eq_getElem, kg, jy, jw] at k4 k5 k6
   have q0 : w.heap.size < W0.heap.size := by omega
   have q1 : w.heap.size + 1 < W0.heap.size := by omega
   have q2 : w.heap.size + 1 + 1 < W0.heap.size := by omega
   have k7 := ah n3 0
   have k8 := ah n3 1
   have k9 := ah n3 2
   simp only [Array.getElem?_eq_getElem, kg, jy, jw] at k7 k8 k9
   have f7 := ax n3 0
   have f8 := ax n3 1
   have f9 := ax n3 2
   have N3 := Lib.hid n3
   clear n3
   clear n1 n2
   have G1 := (aa Gm) W0 hw0; have G2 := (aa HG2) W0 hw0; have B1 := (aa HB1) W0 hw0; have B2 := (aa HB2) W0 hw0
   go_region_held3 (fun w' => w'.cell? ⟨w.heap.size, 0, none⟩ = some (.int .i64 s1) ∧ w'.cell? ⟨w.heap.size, 1, none⟩ = some (.bool dw) ∧ w'.cell? ⟨w.heap.size, 2, none⟩ = some (.slice A1 l1.length c1) ∧ w'.cell? ⟨w.heap.size + 1, 0, none⟩ = some (.int .i64 s2) ∧ w'.cell? ⟨w.heap.size + 1, 1, none⟩ = some (.bool di) ∧ w'.cell? ⟨w.heap.size + 1, 2, none⟩ = some (.slice A2 l2.length c2)) ((first | exact ⟨(hc _ _ q0).trans k1, (hc _ _ q0).trans k2, (hc _ _ q0).trans k3, (hc _ _ q1).trans k4, (hc _ _ q1).trans k5, (hc _ _ q1).trans k6⟩ | exact ⟨k1, k2, k3, k4, k5, k6⟩)) (first | (go_at_call_of 159 (Value.agg #[.int .i64 s1, .bool dw, .slice A1 l1.length c1]); refine ((aa G1) _ bem).mono ?_; rintro e w' ⟨rfl, hb⟩; have hbw := dh (w := W0) bem hb; obtain ⟨hc, hfz⟩ := fo hbw) | (go_at_call_of 159 (Value.agg #[.int .i64 s2, .bool di, .slice A2 l2.length c2]); refine ((aa G2) _ bem).mono ?_; rintro e w' ⟨rfl, hb⟩; have hbw := dh (w := W0) bem hb; obtain ⟨hc, hfz⟩ := fo hbw))
   go_wp2_with fail
   refine ((aa qg) _).mono ?_
   rintro e w1 ⟨rfl, hw1⟩
   have uj := mh (w := W0) bem hw1
   obtain ⟨hc, hfz⟩ := fo uj
   clear hw1
   go_wp2_with fail
   refine ((aa HS2) _).mono ?_
   rintro e w2 ⟨rfl, hw2⟩
   have hbw2 := mh (w := W0) bem hw2
   obtain ⟨hc, hfz⟩ := fo hbw2
   clear hw2
   go_wp2_with fail
   go_region_held3 (fun w' => w'.cell? ⟨w.heap.size, 0, none⟩ = some (.int .i64 s1) ∧ w'.cell? ⟨w.heap.size, 1, none⟩ = some (.bool dw) ∧ w'.cell? ⟨w.heap.size, 2, none⟩ = some (.slice A1 l1.length c1) ∧ w'.cell? ⟨w.heap.size + 1, 0, none⟩ = some (.int .i64 s2) ∧ w'.cell? ⟨w.heap.size + 1, 1, none⟩ = some (.bool di) ∧ w'.cell? ⟨w.heap.size + 1, 2, none⟩ = some (.slice A2 l2.length c2)) ((first | exact ⟨(hc _ _ q0).trans k1, (hc _ _ q0).trans k2, (hc _ _ q0).trans k3, (hc _ _ q1).trans k4, (hc _ _ q1).trans k5, (hc _ _ q1).trans k6⟩ | exact ⟨k1, k2, k3, k4, k5, k6⟩)) (first | (go_at_call_of 186 (Value.int .i64 s1); refine ((aa Z1) _).mono ?_; rintro e w' ⟨rfl, Ko⟩; subst Ko) | (go_at_call_of 186 (Value.int .i64 s2); refine ((aa Z2) _).mono ?_; rintro e w' ⟨rfl, Ko⟩; subst Ko) | (go_at_call 189; refine ((aa HM) _).mono ?_; rintro e w' ⟨rfl, Ko⟩; subst Ko))
   go_wp2_with fail
   refine ((aa HWW) _).mono ?_
   rintro e w' ⟨s, pz, A', cap', l', rfl, hf, hb⟩
   have hbw := dh (w := W0) bem hb
   obtain ⟨hc, hfz⟩ := fo hbw
   have hblk : w'.heap[w.heap.size + 1 + 1]? = some (.cells #[.int .i64 0, .bool false, .slice none 0 0] 77 (0, 0)) := (hbw.block _ q2).trans N3.out
   have kz := Lib.hid hblk
   have ku : Below w.heap.size w w' := bz hw0 hbw
   clear hblk
   go_wp2_with fail
   exact bodyPost_ret (v := .agg #[.int .i64 s, .bool pz, .slice A' l'.length cap']) (by simp [results, Tryz.results147, go_sem, hc, k7, k8, k9, q2]) rfl
    ⟨s, pz, A', cap', l', rfl, hf.upto kz.out (ug _ _ _ _ _) (jd _ _ _ _ _), ku.grown (jd _ _ _ _ _) ku.size (fun k hk => by injection hk with hk; omega)⟩
  ·
   have hb0 : ((hi' : Int) == 0) = false := beq_eq_false_iff_ne.2 om
   clear HW Ba hh hlo hhi hM hB1 hB2 Ip y1 y2 y3 y4 hsz1 hsz2 a1 a2
   go_enter Tryz.func147, Tryz.ntmps147
   go_wp2_with fail
   obtain ⟨n1, n2, n3, hsz, hw0⟩ := ou w (.cells #[.int .i64 s1, .bool dw, .slice A1 l1.length c1] 77) (.cells #[.int .i64 s2, .bool di, .slice A2 l2.length c2] 77) (.cells #[.int .i64 0, .bool false, .slice none 0 0] 77)
   generalize (((w.alloc (.cells #[.int .i64 s1, .bool dw, .slice A1 l1.length c1] 77)).alloc (.cells #[.int .i64 s2, .bool di, .slice A2 l2.length c2] 77)).alloc (.cells #[.int .i64 0, .bool false, .slice none 0 0] 77)) = W0 at *
   have k1 := ah n1 0
   have k2 := ah n1 1
   have k3 := ah n1 2
   simp only [Array.getElem?_eq_getElem, kg, jy, jw] at k1 k2 k3
   have k4 := ah n2 0
   have k5 := ah n2 1
   have k6 := ah n2 2
   simp only [Array.getElem?_eq_getElem, kg, jy, jw] at k4 k5 k6
   have q0 : w.heap.size < W0.heap.size := by omega
   have q1 : w.heap.size + 1 < W0.heap.size := by omega
   have q2 : w.heap.size + 1 + 1 < W0.heap.size := by omega
   have k7 := ah n3 0
   have k8 := ah n3 1
   have k9 := ah n3 2
   simp only [Array.getElem?_eq_getElem, kg, jy, jw] at k7 k8 k9
   have f7 := ax n3 0
   have f8 := ax n3 1
   have f9 := ax n3 2
   have N3 := Lib.hid n3
   clear n3
   clear n1 n2
   have G1 := (aa Gm) W0 hw0; have G2 := (aa HG2) W0 hw0; have B1 := (aa HB1) W0 hw0; have B2 := (aa HB2) W0 hw0
   go_region_held3 (fun w' => w'.cell? ⟨w.heap.size, 0, none⟩ = some (.int .i64 s1) ∧ w'.cell? ⟨w.heap.size, 1, none⟩ = some (.bool dw) ∧ w'.cell? ⟨w.heap.size, 2, none⟩ = some (.slice A1 l1.length c1) ∧ w'.cell? ⟨w.heap.size + 1, 0, none⟩ = some (.int .i64 s2) ∧ w'.cell? ⟨w.heap.size + 1, 1, none⟩ = some (.bool di) ∧ w'.cell? ⟨w.heap.size + 1, 2, none⟩ = some (.slice A2 l2.length c2)) ((first | exact ⟨(hc _ _ q0).trans k1, (hc _ _ q0).trans k2, (hc _ _ q0).trans k3, (hc _ _ q1).trans k4, (hc _ _ q1).trans k5, (hc _ _ q1).trans k6⟩ | exact ⟨k1, k2, k3, k4, k5, k6⟩)) (first | (go_at_call_of 159 (Value.agg #[.int .i64 s1, .bool dw, .slice A1 l1.length c1]); refine ((aa G1) _ bem).mono ?_; rintro e w' ⟨rfl, hb⟩; have hbw := dh (w := W0) bem hb; obtain ⟨hc, hfz⟩ := fo hbw) | (go_at_call_of 159 (Value.agg #[.int .i64 s2, .bool di, .slice A2 l2.length c2]); refine ((aa G2) _ bem).mono ?_; rintro e w' ⟨rfl, hb⟩; have hbw := dh (w := W0) bem hb; obtain ⟨hc, hfz⟩ := fo hbw))
   go_wp2_with fail
   refine ((aa qg) _).mono ?_
   rintro e w1 ⟨rfl, hw1⟩
   have uj := mh (w := W0) bem hw1
   obtain ⟨hc, hfz⟩ := fo uj
   clear hw1
   go_wp2_with fail
   refine ((aa HS2) _).mono ?_
   rintro e w2 ⟨rfl, hw2⟩
   have hbw2 := mh (w := W0) bem hw2
   obtain ⟨hc, hfz⟩ := fo hbw2
   clear hw2
   go_wp2_with fail
   go_region_held3 (fun w' => w'.cell? ⟨w.heap.size, 0, none⟩ = some (.int .i64 s1) ∧ w'.cell? ⟨w.heap.size, 1, none⟩ = some (.bool dw) ∧ w'.cell? ⟨w.heap.size, 2, none⟩ = some (.slice A1 l1.length c1) ∧ w'.cell? ⟨w.heap.size + 1, 0, none⟩ = some (.int .i64 s2) ∧ w'.cell? ⟨w.heap.size + 1, 1, none⟩ = some (.bool di) ∧ w'.cell? ⟨w.heap.size + 1, 2, none⟩ = some (.slice A2 l2.length c2)) ((first | exact ⟨(hc _ _ q0).trans k1, (hc _ _ q0).trans k2, (hc _ _ q0).trans k3, (hc _ _ q1).trans k4, (hc _ _ q1).trans k5, (hc _ _ q1).trans k6⟩ | exact ⟨k1, k2, k3, k4, k5, k6⟩)) (first | (go_at_call_of 186 (Value.int .i64 s1); refine ((aa Z1) _).mono ?_; rintro e w' ⟨rfl, Ko⟩; subst Ko) | (go_at_call_of 186 (Value.int .i64 s2); refine ((aa Z2) _).mono ?_; rintro e w' ⟨rfl, Ko⟩; subst Ko) | (go_at_call 189; refine ((aa HM) _).mono ?_; rintro e w' ⟨rfl, Ko⟩; subst Ko))
   go_wp2_with fail
   go_region_with (first | (go_at_call_of 191 (Value.agg #[.int .i64 s1, .bool dw, .slice A1 l1.length c1]); refine ((aa B1) _ bem).mono ?_; rintro e w' ⟨A5, cap5, l5, rfl, za, hb⟩; have hbw := dh (w := W0) bem hb; obtain ⟨hc, hfz⟩ := fo hbw) | (go_at_call_of 191 (Value.agg #[.int .i64 s2, .bool di, .slice A2 l2.length c2]); refine ((aa B2) _ bem).mono ?_; rintro e w' ⟨A6, cap6, l6, rfl, mi, hb⟩; have ky := za.below hb; have hbw := dh (w := W0) bem hb; obtain ⟨hc, hfz⟩ := fo hbw) | (go_at_call 192; refine (abe A5 A6 cap5 cap6 l5 l6 m1 m2 _ (by exact ky) (by exact mi) ((aa HLEN) _ _ _ _ _ _ _ ky mi)).mono ?_; rintro e w' ⟨A7, xh, l7, rfl, xg, hb⟩; have hbw := dh (w := W0) bem hb; obtain ⟨hc, hfz⟩ := fo hbw) | (go_at_call 190; refine (yh ng A7 xh l7 (m1 * m2) _ (by exact xg)).mono ?_; rw [← HZ.out]; rintro e w' ⟨s, pz, A', cap', l', rfl, hf, hb⟩; have hbw := dh (w := W0) bem hb; obtain ⟨hc, hfz⟩ := fo hbw))
   all_goals
    have hblk : w'.heap[w.heap.size + 1 + 1]? = some (.cells #[.int .i64 0, .bool false, .slice none 0 0] 77 (0, 0)) := (hbw.block _ q2).trans N3.out
    have kz := Lib.hid hblk
    have ku : Below w.heap.size w w' := bz hw0 hbw
    clear hblk
    go_wp2_with fail
    exact bodyPost_ret (v := .agg #[.int .i64 s, .bool pz, .slice A' l'.length cap']) (by simp [results, Tryz.results147, go_sem, hc, k7, k8, k9, q2]) rfl
     ⟨s, pz, A', cap', l', rfl, hf.upto kz.out (ug _ _ _ _ _) (jd _ _ _ _ _), ku.grown (jd _ _ _ _ _) ku.size (fun k hk => by injection hk with hk; omega)⟩
 ·
  by_cases a1 : l1.length = 0
  ·
   have a2 : ¬ l2.length = 0 := fun h => hs ⟨a1, h⟩
   rw [decide_eq_true a1] at qg
   rw [decide_eq_false a2] at HS2
   clear hsz1 hsz2 hs a1 a2
   go_enter Tryz.func147, Tryz.ntmps147
   go_wp2_with fail
   obtain ⟨n1, n2, n3, hsz, hw0⟩ := ou w (.cells #[.int .i64 s1, .bool dw, .slice A1 l1.length c1] 77) (.cells #[.int .i64 s2, .bool di, .slice A2 l2.length c2] 77) (.cells #[.int .i64 0, .bool false, .slice none 0 0] 77)
   generalize (((w.alloc (.cells #[.int .i64 s1, .bool dw, .slice A1 l1.length c1] 77)).alloc (.cells #[.int .i64 s2, .bool di, .slice A2 l2.length c2] 77)).alloc (.cells #[.int .i64 0, .bool false, .slice none 0 0] 77)) = W0 at *
   have k1 := ah n1 0
   have k2 := ah n1 1
   have k3 := ah n1 2
   simp only [Array.getElem?_eq_getElem, kg, jy, jw] at k1 k2 k3
   have k4 := ah n2 0
   have k5 := ah n2 1
   have k6 := ah n2 2
   simp only [Array.getElem?_eq_getElem, kg, jy, jw] at k4 k5 k6
   have q0 : w.heap.size < W0.heap.size := by omega
   have q1 : w.heap.size + 1 < W0.heap.size := by omega
   have q2 : w.heap.size + 1 + 1 < W0.heap.size := by omega
   have k7 := ah n3 0
   have k8 := ah n3 1
   have k9 := ah n3 2
   simp only [Array.getElem?_eq_getElem, kg, jy, jw] at k7 k8 k9
   have f7 := ax n3 0
   have f8 := ax n3 1
   have f9 := ax n3 2
   have N3 := Lib.hid n3
   clear n3
   clear n1 n2
   have G1 := (aa Gm) W0 hw0; have G2 := (aa HG2) W0 hw0; have B1 := (aa HB1) W0 hw0; have B2 := (aa HB2) W0 hw0
   go_region_held3 (fun w' => w'.cell? ⟨w.heap.size, 0, none⟩ = some (.int .i64 s1) ∧ w'.cell? ⟨w.heap.size, 1, none⟩ = some (.bool dw) ∧ w'.cell? ⟨w.heap.size, 2, none⟩ = some (.slice A1 l1.length c1) ∧ w'.cell? ⟨w.heap.size + 1, 0, none⟩ = some (.int .i64 s2) ∧ w'.cell? ⟨w.heap.size + 1, 1, none⟩ = some (.bool di) ∧ w'.cell? ⟨w.heap.size + 1, 2, none⟩ = some (.slice A2 l2.length c2)) ((first | exact ⟨(hc _ _ q0).trans k1, (hc _ _ q0).trans k2, (hc _ _ q0).trans k3, (hc _ _ q1).trans k4, (hc _ _ q1).trans k5, (hc _ _ q1).trans k6⟩ | exact ⟨k1, k2, k3, k4, k5, k6⟩)) (first | (go_at_call_of 159 (Value.agg #[.int .i64 s1, .bool dw, .slice A1 l1.length c1]); refine ((aa G1) _ bem).mono ?_; rintro e w' ⟨rfl, hb⟩; have hbw := dh (w := W0) bem hb; obtain ⟨hc, hfz⟩ := fo hbw) | (go_at_call_of 159 (Value.agg #[.int .i64 s2, .bool di, .slice A2 l2.length c2]); refine ((aa G2) _ bem).mono ?_; rintro e w' ⟨rfl, hb⟩; have hbw := dh (w := W0) bem hb; obtain ⟨hc, hfz⟩ := fo hbw))
   go_wp2_with fail
   refine ((aa qg) _).mono ?_
   rintro e w1 ⟨rfl, hw1⟩
   have uj := mh (w := W0) bem hw1
   obtain ⟨hc, hfz⟩ := fo uj
   clear hw1
   go_wp2_with fail
   refine ((aa HS2) _).mono ?_
   rintro e w2 ⟨rfl, hw2⟩
   have hbw2 := mh (w := W0) bem hw2
   obtain ⟨hc, hfz⟩ := fo hbw2
   clear hw2
   go_wp2_with fail
   go_region_with (first | (go_at_call_of 191 (Value.agg #[.int .i64 s1, .bool dw, .slice A1 l1.length c1]); refine ((aa B1) _ bem).mono ?_; rintro e w' ⟨A5, cap5, l5, rfl, za, hb⟩; have hbw := dh (w := W0) bem hb; obtain ⟨hc, hfz⟩ := fo hbw) | (go_at_call_of 191 (Value.agg #[.int .i64 s2, .bool di, .slice A2 l2.length c2]); refine ((aa B2) _ bem).mono ?_; rintro e w' ⟨A6, cap6, l6, rfl, mi, hb⟩; have ky := za.below hb; have hbw := dh (w := W0) bem hb; obtain ⟨hc, hfz⟩ := fo hbw) | (go_at_call 192; refine (abe A5 A6 cap5 cap6 l5 l6 m1 m2 _ (by exact ky) (by exact mi) ((aa HLEN) _ _ _ _ _ _ _ ky mi)).mono ?_; rintro e w' ⟨A7, xh, l7, rfl, xg, hb⟩; have hbw := dh (w := W0) bem hb; obtain ⟨hc, hfz⟩ := fo hbw) | (go_at_call 190; refine (yh ng A7 xh l7 (m1 * m2) _ (by exact xg)).mono ?_; rw [← HZ.out]; rintro e w' ⟨s, pz, A', cap', l', rfl, hf, hb⟩; have hbw := dh (w := W0) bem hb; obtain ⟨hc, hfz⟩ := fo hbw))
   all_goals
    have hblk : w'.heap[w.heap.size + 1 + 1]? = some (.cells #[.int .i64 0, .bool false, .slice none 0 0] 77 (0, 0)) := (hbw.block _ q2).trans N3.out
    have kz := Lib.hid hblk
    have ku : Below w.heap.size w w' := bz hw0 hbw
    clear hblk
    go_wp2_with fail
    exact bodyPost_ret (v := .agg #[.int .i64 s, .bool pz, .slice A' l'.length cap']) (by simp [results, Tryz.results147, go_sem, hc, k7, k8, k9, q2]) rfl
     ⟨s, pz, A', cap', l', rfl, hf.upto kz.out (ug _ _ _ _ _) (jd _ _ _ _ _), ku.grown (jd _ _ _ _ _) ku.size (fun k hk => by injection hk with hk; omega)⟩
  ·
   skip
   rw [decide_eq_false a1] at qg
   clear hsz1 hsz2 hs a1
   go_enter Tryz.func147, Tryz.ntmps147
   go_wp2_with fail
   obtain ⟨n1, n2, n3, hsz, hw0⟩ := ou w (.cells #[.int .i64 s1, .bool dw, .slice A1 l1.length c1] 77) (.cells #[.int .i64 s2, .bool di, .slice A2 l2.length c2] 77) (.cells #[.int .i64 0, .bool false, .slice none 0 0] 77)
   generalize (((w.alloc (.cells #[.int .i64 s1, .bool dw, .slice A1 l1.length c1] 77)).alloc (.cells #[.int .i64 s2, .bool di, .slice A2 l2.length c2] 77)).alloc (.cells #[.int .i64 0, .bool false, .slice none 0 0] 77)) = W0 at *
   have k1 := ah n1 0
   have k2 := ah n1 1
   have k3 := ah n1 2
   simp only [Array.getElem?_eq_getElem, kg, jy, jw] at k1 k2 k3
   have k4 := ah n2 0
   have k5 := ah n2 1
   have k6 := ah n2 2
   simp only [Array.getElem?_eq_getElem, kg, jy, jw] at k4 k5 k6
   have q0 : w.heap.size < W0.heap.size := by omega
   have q1 : w.heap.size + 1 < W0.heap.size := by omega
   have q2 : w.heap.size + 1 + 1 < W0.heap.size := by omega
   have k7 := ah n3 0
   have k8 := ah n3 1
   have k9 := ah n3 2
   simp only [Array.getElem?_eq_getElem, kg, jy, jw] at k7 k8 k9
   have f7 := ax n3 0
   have f8 := ax n3 1
   have f9 := ax n3 2
   have N3 := Lib.hid n3
   clear n3
   clear n1 n2
   have G1 := (aa Gm) W0 hw0; have G2 := (aa HG2) W0 hw0; have B1 := (aa HB1) W0 hw0; have B2 := (aa HB2) W0 hw0
   go_region_held3 (fun w' => w'.cell? ⟨w.heap.size, 0, none⟩ = some (.int .i64 s1) ∧ w'.cell? ⟨w.heap.size, 1, none⟩ = some (.bool dw) ∧ w'.cell? ⟨w.heap.size, 2, none⟩ = some (.slice A1 l1.length c1) ∧ w'.cell? ⟨w.heap.size + 1, 0, none⟩ = some (.int .i64 s2) ∧ w'.cell? ⟨w.heap.size + 1, 1, none⟩ = some (.bool di) ∧ w'.cell? ⟨w.heap.size + 1, 2, none⟩ = some (.slice A2 l2.length c2)) ((first | exact ⟨(hc _ _ q0).trans k1, (hc _ _ q0).trans k2, (hc _ _ q0).trans k3, (hc _ _ q1).trans k4, (hc _ _ q1).trans k5, (hc _ _ q1).trans k6⟩ | exact ⟨k1, k2, k3, k4, k5, k6⟩)) (first | (go_at_call_of 159 (Value.agg #[.int .i64 s1, .bool dw, .slice A1 l1.length c1]); refine ((aa G1) _ bem).mono ?_; rintro e w' ⟨rfl, hb⟩; have hbw := dh (w := W0) bem hb; obtain ⟨hc, hfz⟩ := fo hbw) | (go_at_call_of 159 (Value.agg #[.int .i64 s2, .bool di, .slice A2 l2.length c2]); refine ((aa G2) _ bem).mono ?_; rintro e w' ⟨rfl, hb⟩; have hbw := dh (w := W0) bem hb; obtain ⟨hc, hfz⟩ := fo hbw))
   go_wp2_with fail
   refine ((aa qg) _).mono ?_
   rintro e w1 ⟨rfl, hw1⟩
   have uj := mh (w := W0) bem hw1
   obtain ⟨hc, hfz⟩ := fo uj
   clear hw1
   go_wp2_with fail
   go_region_with (first | (go_at_call_of 191 (Value.agg #[.int .i64 s1, .bool dw, .slice A1 l1.length c1]); refine ((aa B1) _ bem).mono ?_; rintro e w' ⟨A5, cap5, l5, rfl, za, hb⟩; have hbw := dh (w := W0) bem hb; obtain ⟨hc, hfz⟩ := fo hbw) | (go_at_call_of 191 (Value.agg #[.int .i64 s2, .bool di, .slice A2 l2.length c2]); refine ((aa B2) _ bem).mono ?_; rintro e w' ⟨A6, cap6, l6, rfl, mi, hb⟩; have ky := za.below hb; have hbw := dh (w := W0) bem hb; obtain ⟨hc, hfz⟩ := fo hbw) | (go_at_call 192; refine (abe A5 A6 cap5 cap6 l5 l6 m1 m2 _ (by exact ky) (by exact mi) ((aa HLEN) _ _ _ _ _ _ _ ky mi)).mono ?_; rintro e w' ⟨A7, xh, l7, rfl, xg, hb⟩; have hbw := dh (w := W0) bem hb; obtain ⟨hc, hfz⟩ := fo hbw) | (go_at_call 190; refine (yh ng A7 xh l7 (m1 * m2) _ (by exact xg)).mono ?_; rw [← HZ.out]; rintro e w' ⟨s, pz, A', cap', l', rfl, hf, hb⟩; have hbw := dh (w := W0) bem hb; obtain ⟨hc, hfz⟩ := fo hbw))
   all_goals
    have hblk : w'.heap[w.heap.size + 1 + 1]? = some (.cells #[.int .i64 0, .bool false, .slice none 0 0] 77 (0, 0)) := (hbw.block _ q2).trans N3.out
    have kz := Lib.hid hblk
    have ku : Below w.heap.size w w' := bz hw0 hbw
    clear hblk
    go_wp2_with fail
    exact bodyPost_ret (v := .agg #[.int .i64 s, .bool pz, .slice A' l'.length cap']) (by simp [results, Tryz.results147, go_sem, hc, k7, k8, k9, q2]) rfl
     ⟨s, pz, A', cap', l', rfl, hf.upto kz.out (ug _ _ _ _ _) (jd _ _ _ _ _), ku.grown (jd _ _ _ _ _) ku.size (fun k hk => by injection hk with hk; omega)⟩


structure Fr (Wp W : World) (b : Nat) : Prop where
 old : Wp.heap.size ≤ b
 zero : W.heap[b]? = some (.cells #[.int .i64 0, .bool false, .slice none 0 0] 77 (0, 0))
theorem lt_of_block {W : World} {b : Nat} {o : Obj} (h : W.heap[b]? = some o) : b < W.heap.size := by
 rcases Nat.lt_or_ge b W.heap.size with hlt | hge
 ·
  exact hlt
 ·
  rw [Array.getElem?_eq_none hge] at h; cases h
theorem Fr.lt {Wp W : World} {b : Nat} (h : Fr Wp W b) : b < W.heap.size := lt_of_block h.zero
theorem Fr.drew {Wp W : World} {b : Nat} (h : Fr Wp W b) : Fr Wp W.drew b := ⟨h.old, h.zero⟩
theorem Fr.drewN {Wp W : World} {b : Nat} {n : Nat} (h : Fr Wp W b) : Fr Wp (W.drewN n) b := ⟨h.old, h.zero⟩
theorem Fr.below {Wp W w' : World} {b : Nat} (h : Fr Wp W b) (hb : Below W.heap.size W w') : Fr Wp w' b := ⟨h.old, (hb.block _ h.lt).trans h.zero⟩
theorem Fr.new {Wp W : World} {b : Nat} (hb : Below Wp.heap.size Wp W) (e : b = W.heap.size) : Fr Wp (W.alloc (.cells #[.int .i64 0, .bool false, .slice none 0 0] 77 (0, 0))) b := by
 subst e; exact ⟨hb.size, heap_alloc_new W _⟩
structure Fr2 (Wp W : World) (b c : Nat) : Prop where
 one : Fr Wp W b
 two : Fr Wp W c
 ne : b ≠ c
theorem Fr2.drew {Wp W : World} {b c : Nat} (h : Fr2 Wp W b c) : Fr2 Wp W.drew b c := ⟨h.one.drew, h.two.drew, h.ne⟩
theorem Fr2.drewN {Wp W : World} {b c n : Nat} (h : Fr2 Wp W b c) : Fr2 Wp (W.drewN n) b c := ⟨h.one.drewN, h.two.drewN, h.ne⟩
theorem Fr2.below {Wp W w' : World} {b c : Nat} (h : Fr2 Wp W b c) (hb : Below W.heap.size W w') : Fr2 Wp w' b c := ⟨h.one.below hb, h.two.below hb, h.ne⟩
def Dm (w : World) (b : Nat) (z : Int) : Prop := ∃ s neg A cap l, w.heap[b]? = some (.cells #[.int .i64 s, .bool neg, .slice A (List.length l) cap] 77 (0, 0)) ∧ gu w s neg A cap l z
theorem Dm.below {w w' : World} {b : Nat} {z : Int} (h : Dm w b z) (hb : Below w.heap.size w w') : Dm w' b z := by
 obtain ⟨s, neg, A, cap, l, h1, h2⟩ := h
 exact ⟨s, neg, A, cap, l, (hb.block _ (lt_of_block h1)).trans h1, h2.below hb⟩
theorem Qy {W : World} {b : Nat} {a0 a1 u0 u1 : Value} {T : TypeId} (h : W.heap[b]? = some (.cells #[a0, a1] T (0, 0))) : ((W.setCell ⟨b, 0, none⟩ u0).setCell ⟨b, 1, none⟩ u1).heap[b]? = some (.cells #[u0, u1] T (0, 0)) := by
 simp [World.setCell, Array.getElem?_modify, h]
theorem Yv {W : World} {b : Nat} {a0 a1 a2 u0 u1 u2 : Value} {T : TypeId} (h : W.heap[b]? = some (.cells #[a0, a1, a2] T (0, 0))) : (((W.setCell ⟨b, 0, none⟩ u0).setCell ⟨b, 1, none⟩ u1).setCell ⟨b, 2, none⟩ u2).heap[b]? = some (.cells #[u0, u1, u2] T (0, 0)) := by
 simp [World.setCell, Array.getElem?_modify, h]
theorem Dm.new {W : World} {b : Nat} {s1 : Int} {dw : Bool} {A1 : Option Addr} {c1 : Nat} {l1 : List Nat} {z1 : Int} (h1 : gu W s1 dw A1 c1 l1 z1) (e : b = W.heap.size) : Dm (W.alloc (.cells #[.int .i64 s1, .bool dw, .slice A1 l1.length c1] 77)) b z1 := by
 subst e; exact ⟨s1, dw, A1, c1, l1, heap_alloc_new W _, h1.below ((Below.refl _ _).alloc (Nat.le_refl _) _)⟩
theorem Dm.alloc {W : World} {b : Nat} {z : Int} {o : Obj} (h : Dm W b z) : Dm (W.alloc o) b z := h.below ((Below.refl _ _).alloc (Nat.le_refl _) _)
theorem gu.alloc {W : World} {o : Obj} {s1 : Int} {dw : Bool} {A1 : Option Addr} {c1 : Nat} {l1 : List Nat} {z1 : Int} (h1 : gu W s1 dw A1 c1 l1 z1) : gu (W.alloc o) s1 dw A1 c1 l1 z1 := h1.below ((Below.refl _ _).alloc (Nat.le_refl _) _)
theorem Fr.alloc {Wp W : World} {b : Nat} {o : Obj} (h : Fr Wp W b) : Fr Wp (W.alloc o) b := ⟨h.old, (Below.heap_alloc W _ b h.lt).trans h.zero⟩
theorem awz {Wp W : World} {b : Nat} {s1 : Int} {dw : Bool} {A1 : Option Addr} {c1 : Nat} {l1 : List Nat} {z1 : Int} (h1 : gu W s1 dw A1 c1 l1 z1) (hb : Below Wp.heap.size Wp W) (e : b = W.heap.size) :
  Dm (W.alloc (.cells #[.int .i64 s1, .bool dw, .slice A1 l1.length c1] 77)) b z1 ∧ Below Wp.heap.size Wp (W.alloc (.cells #[.int .i64 s1, .bool dw, .slice A1 l1.length c1] 77)) ∧ Wp.heap.size ≤ b :=
 ⟨Dm.new h1 e, hb.alloc hb.size _, by have := hb.size; omega⟩
theorem gm {W W' : World} (h : Below W.heap.size W W') (o : Obj) : Below W.heap.size W (W'.alloc o) := h.alloc h.size o
theorem bel {P : Prop} (h : P := by (repeat (first | with_reducible exact Below.refl _ _ | with_reducible assumption | with_reducible refine Below.drew ?_ | with_reducible refine gm ?_ _))) : P := h
theorem ic {W W' : World} {b o : Nat} {v : Value} (hB : Below W.heap.size W W') (q : b < W.heap.size) (k : W.cell? ⟨b, o, none⟩ = some v) : W'.cell? ⟨b, o, none⟩ = some v := (hB.cell (p := ⟨b, o, none⟩) q).trans k
theorem ade {W W' : World} {g : Nat} (hB : Below W.heap.size W W') (hg : W.heap.size ≤ g) (o : Nat) (u : Value) : Below W.heap.size W (W'.setCell ⟨g, o, none⟩ u) :=
 hB.grown (lu (qz _ (some g)) o u) hB.size (fun k hk => by injection hk with hk; omega)
def Ch (w : World) (F : Nat) (a b c : Int) : Prop := ∀ (s1 : Int) (dw : Bool) (A1 : Option Addr) (c1 : Nat) (l1 : List Nat) (s2 : Int) (di : Bool) (A2 : Option Addr) (c2 : Nat) (l2 : List Nat) (W : World), Below w.heap.size w W → gu W s1 dw A1 c1 l1 a → gu W s2 di A2 c2 l2 b → Calls Tryz.prog F #[(Value.agg #[.int .i64 s1, .bool dw, .slice A1 l1.length c1]), (Value.agg #[.int .i64 s2, .bool di, .slice A2 l2.length c2])] W fun e w' => Ce W c e w'
theorem Pq {w : World} {a b c : Int} {K : Nat} (hT : qa w) (ha : Wd.Sz dz K a) (hb : Wd.Sz dz K b) (hK : K ≤ lim) (e : c = ((a.natAbs.gcd b.natAbs : Nat) : Int)) : Ch w 164 a b c := by
 subst e
 exact fun s1 dw A1 c1 l1 s2 di A2 c2 l2 W hW f1 f2 => aui s1 dw A1 c1 l1 a s2 di A2 c2 l2 b W f1 f2 (f1.fit ha hK) (f2.fit hb hK) (hT.below hW)
theorem Ef {w : World} {a b c : Int} {K : Nat} (ha : Wd.Sz dz K a) (hb : Wd.Sz dz K b) (hK : K ≤ lim) (h0 : b ≠ 0) (e : c = a.tdiv b) : Ch w 165 a b c := by
 subst e
 exact fun s1 dw A1 c1 l1 s2 di A2 c2 l2 W hW f1 f2 => aug s1 dw A1 c1 l1 a s2 di A2 c2 l2 b W f1 f2 (f1.fit ha hK) (f2.fit hb hK) h0
theorem Pp {w : World} {a b c : Int} {K : Nat} (ha : Wd.Sz dz K a) (hb : Wd.Sz dz K b) (hK : K ≤ lim) (e : c = a * b) : Ch w 147 a b c := by
 subst e
 exact fun s1 dw A1 c1 l1 s2 di A2 c2 l2 W hW f1 f2 => Xv s1 dw A1 c1 l1 a s2 di A2 c2 l2 b W f1 f2 (f1.fit ha hK) (f2.fit hb hK)
theorem bcs {w : World} {a b c : Int} {K : Nat} (ha : Wd.Sz dz K a) (hb : Wd.Sz dz K b) (hK : K ≤ lim) (e : c = a + b) : Ch w 166 a b c := by
 subst e
 exact fun s1 dw A1 c1 l1 s2 di A2 c2 l2 W hW f1 f2 => agd s1 dw A1 c1 l1 a s2 di A2 c2 l2 b W f1 f2 (f1.fit ha hK) (f2.fit hb hK)


theorem aew (s1 : Int) (dw : Bool) (A1 : Option Addr) (c1 : Nat) (l1 : List Nat) (z1 : Int) (s2 : Int) (di : Bool) (A2 : Option Addr) (c2 : Nat) (l2 : List Nat) (z2 : Int) (w : World) (h1 : gu w s1 dw A1 c1 l1 z1) (h2 : gu w s2 di A2 c2 l2 z2) :
  Calls Tryz.prog 88 #[(Value.agg #[.int .i64 s1, .bool dw, .slice A1 l1.length c1, .int .i64 s2, .bool di, .slice A2 l2.length c2])] w fun e w' => Hd w (-z1) z2 e w' := by
 have H1 := hide h1
 have H2 := hide h2
 clear h1 h2
 go_enter Tryz.func88, Tryz.ntmps88
 go_wp2_with fail
 obtain ⟨n0, n1, hsz, hw0⟩ := ve w (.cells #[.int .i64 s1, .bool dw, .slice A1 l1.length c1, .int .i64 s2, .bool di, .slice A2 l2.length c2] 79) (.cells #[.int .i64 0, .bool false, .slice none 0 0, .int .i64 0, .bool false, .slice none 0 0] 79)
 generalize ((w.alloc (.cells #[.int .i64 s1, .bool dw, .slice A1 l1.length c1, .int .i64 s2, .bool di, .slice A2 l2.length c2] 79)).alloc (.cells #[.int .i64 0, .bool false, .slice none 0 0, .int .i64 0, .bool false, .slice none 0 0] 79)) = W0 at *
 have wm : W0.cell? ⟨w.heap.size, 0, none⟩ = some (.int .i64 s1) := ah n0 0
 have wh : W0.cell? ⟨w.heap.size, 1, none⟩ = some (.bool dw) := ah n0 1
 have zm : W0.cell? ⟨w.heap.size, 2, none⟩ = some (.slice A1 l1.length c1) := ah n0 2
 have Bz : W0.cell? ⟨w.heap.size, 3, none⟩ = some (.int .i64 s2) := ah n0 3
 have De : W0.cell? ⟨w.heap.size, 4, none⟩ = some (.bool di) := ah n0 4
 have Dc : W0.cell? ⟨w.heap.size, 5, none⟩ = some (.slice A2 l2.length c2) := ah n0 5
 have q0 : w.heap.size < W0.heap.size := by omega
 have yx : W0.cell? ⟨w.heap.size + 1, 0, none⟩ = some (.int .i64 0) := ah n1 0
 have yw : W0.cell? ⟨w.heap.size + 1, 1, none⟩ = some (.bool false) := ah n1 1
 have Fj : W0.cell? ⟨w.heap.size + 1, 2, none⟩ = some (.slice none 0 0) := ah n1 2
 have Ro : W0.cell? ⟨w.heap.size + 1, 3, none⟩ = some (.int .i64 0) := ah n1 3
 have Xu : W0.cell? ⟨w.heap.size + 1, 4, none⟩ = some (.bool false) := ah n1 4
 have Xt : W0.cell? ⟨w.heap.size + 1, 5, none⟩ = some (.slice none 0 0) := ah n1 5
 have q1 : w.heap.size + 1 < W0.heap.size := by omega
 have Nf := ax n1 0
 have Nc := ax n1 1
 have amw := ax n1 2
 have amv := ax n1 3
 have avj := ax n1 4
 have avi := ax n1 5
 have NR := Lib.hid n1
 clear n0 n1
 go_region_held3 (fun w' => w'.cell? ⟨w.heap.size, 0, none⟩ = some (.int .i64 s1) ∧ w'.cell? ⟨w.heap.size, 1, none⟩ = some (.bool dw) ∧ w'.cell? ⟨w.heap.size, 2, none⟩ = some (.slice A1 l1.length c1) ∧ w'.cell? ⟨w.heap.size, 3, none⟩ = some (.int .i64 s2) ∧ w'.cell? ⟨w.heap.size, 4, none⟩ = some (.bool di) ∧ w'.cell? ⟨w.heap.size, 5, none⟩ = some (.slice A2 l2.length c2)) ((first | with_reducible exact ⟨(hc _ _ q0).trans wm, (hc _ _ q0).trans wh, (hc _ _ q0).trans zm, (hc _ _ q0).trans Bz, (hc _ _ q0).trans De, (hc _ _ q0).trans Dc⟩ | with_reducible exact ⟨wm, wh, zm, Bz, De, Dc⟩ | with_reducible exact ⟨(jo _ _ _ _ _ _ _ _ om).trans ((hc _ _ q0).trans wm), (jo _ _ _ _ _ _ _ _ om).trans ((hc _ _ q0).trans wh), (jo _ _ _ _ _ _ _ _ om).trans ((hc _ _ q0).trans zm), (jo _ _ _ _ _ _ _ _ om).trans ((hc _ _ q0).trans Bz), (jo _ _ _ _ _ _ _ _ om).trans ((hc _ _ q0).trans De), (jo _ _ _ _ _ _ _ _ om).trans ((hc _ _ q0).trans Dc)⟩ | exact ⟨(hc _ _ q0).trans wm, (hc _ _ q0).trans wh, (hc _ _ q0).trans zm, (hc _ _ q0).trans Bz, (hc _ _ q0).trans De, (hc _ _ q0).trans Dc⟩ | exact ⟨wm, wh, zm, Bz, De, Dc⟩ | exact ⟨(jo _ _ _ _ _ _ _ _ om).trans ((hc _ _ q0).trans wm), (jo _ _ _ _ _ _ _ _ om).trans ((hc _ _ q0).trans wh), (jo _ _ _ _ _ _ _ _ om).trans ((hc _ _ q0).trans zm), (jo _ _ _ _ _ _ _ _ om).trans ((hc _ _ q0).trans Bz), (jo _ _ _ _ _ _ _ _ om).trans ((hc _ _ q0).trans De), (jo _ _ _ _ _ _ _ _ om).trans ((hc _ _ q0).trans Dc)⟩)) (first | (go_at_call_of 160 (Value.agg #[.int .i64 s1, .bool dw, .slice A1 l1.length c1]); refine (Vh s1 dw A1 c1 l1 z1 _ (by exact (aa H1).below (bz hw0 bem))).mono ?_; rintro e w' ⟨s5, rz, A5, c5, l5, rfl, zb, hb⟩; have hbw := dh (w := W0) bem hb; obtain ⟨hc, hfz⟩ := fo hbw))
 have hblk : w'.heap[w.heap.size + 1]? = some (.cells #[.int .i64 0, .bool false, .slice none 0 0, .int .i64 0, .bool false, .slice none 0 0] 79 (0, 0)) := (hbw.block _ q1).trans NR.out
 have kz := Lib.hid hblk
 have ku : Below w.heap.size w w' := bz hw0 hbw
 clear hblk
 go_wp2_with fail
 exact bodyPost_ret (v := (Value.agg #[.int .i64 s5, .bool rz, .slice A5 l5.length c5, .int .i64 s2, .bool di, .slice A2 l2.length c2])) (by simp [results, Tryz.results88, go_sem, hc, yx, yw, Fj, Ro, Xu, Xt, q1]) rfl
  ⟨s5, rz, A5, c5, l5, s2, di, A2, c2, l2, rfl, (zb).upto kz.out (wu _ _ _ _ _ _ _ _ _ _) (lh _ _ _ _ _ _ _ _), ((aa H2).below (bz hw0 hbw)).upto kz.out (wu _ _ _ _ _ _ _ _ _ _) (lh _ _ _ _ _ _ _ _), ku.grown (lh _ _ _ _ _ _ _ _) ku.size (fun k hk => by injection hk with hk; omega)⟩


theorem atp (s1 : Int) (dw : Bool) (A1 : Option Addr) (c1 : Nat) (l1 : List Nat) (z1 : Int) (s2 : Int) (di : Bool) (A2 : Option Addr) (c2 : Nat) (l2 : List Nat) (z2 : Int) (w : World) (h1 : gu w s1 dw A1 c1 l1 z1) (h2 : gu w s2 di A2 c2 l2 z2) (hz : z1 < 0) :
  Calls Tryz.prog 94 #[(Value.agg #[.int .i64 s1, .bool dw, .slice A1 l1.length c1, .int .i64 s2, .bool di, .slice A2 l2.length c2])] w fun e w' => Hd w (-z2) (-z1) e w' := by
 have hs : decide (su z1 < 0) = true := decide_eq_true (by rw [Hu]; exact hz)
 obtain ⟨o1, ho1⟩ : ∃ o, o = su z1 := ⟨_, rfl⟩
 have HS : Hid (∀ W, Below w.heap.size w W → Calls Tryz.prog 159 #[(Value.agg #[.int .i64 s1, .bool dw, .slice A1 l1.length c1])] W fun e w' => e = .returned (.int .i64 o1) ∧ Below W.heap.size W w') := by rw [ho1]; exact fun W hW => Ad s1 dw A1 c1 l1 z1 W (h1.below hW)
 rw [← ho1] at hs
 clear ho1 hz
 have H1 := hide h1
 have H2 := hide h2
 clear h1 h2
 go_enter Tryz.func94, Tryz.ntmps94
 go_wp2_with fail
 obtain ⟨n0, n1, hsz, hw0⟩ := ve w (.cells #[.int .i64 s1, .bool dw, .slice A1 l1.length c1, .int .i64 s2, .bool di, .slice A2 l2.length c2] 79) (.cells #[.int .i64 0, .bool false, .slice none 0 0, .int .i64 0, .bool false, .slice none 0 0] 79)
 generalize ((w.alloc (.cells #[.int .i64 s1, .bool dw, .slice A1 l1.length c1, .int .i64 s2, .bool di, .slice A2 l2.length c2] 79)).alloc (.cells #[.int .i64 0, .bool false, .slice none 0 0, .int .i64 0, .bool false, .slice none 0 0] 79)) = W0 at *
 have wm : W0.cell? ⟨w.heap.size, 0, none⟩ = some (.int .i64 s1) := ah n0 0
 have wh : W0.cell? ⟨w.heap.size, 1, none⟩ = some (.bool dw) := ah n0 1
 have zm : W0.cell? ⟨w.heap.size, 2, none⟩ = some (.slice A1 l1.length c1) := ah n0 2
 have Bz : W0.cell? ⟨w.heap.size, 3, none⟩ = some (.int .i64 s2) := ah n0 3
 have De : W0.cell? ⟨w.heap.size, 4, none⟩ = some (.bool di) := ah n0 4
 have Dc : W0.cell? ⟨w.heap.size, 5, none⟩ = some (.slice A2 l2.length c2) := ah n0 5
 have q0 : w.heap.size < W0.heap.size := by omega
 have yx : W0.cell? ⟨w.heap.size + 1, 0, none⟩ = some (.int .i64 0) := ah n1 0
 have yw : W0.cell? ⟨w.heap.size + 1, 1, none⟩ = some (.bool false) := ah n1 1
 have Fj : W0.cell? ⟨w.heap.size + 1, 2, none⟩ = some (.slice none 0 0) := ah n1 2
 have Ro : W0.cell? ⟨w.heap.size + 1, 3, none⟩ = some (.int .i64 0) := ah n1 3
 have Xu : W0.cell? ⟨w.heap.size + 1, 4, none⟩ = some (.bool false) := ah n1 4
 have Xt : W0.cell? ⟨w.heap.size + 1, 5, none⟩ = some (.slice none 0 0) := ah n1 5
 have q1 : w.heap.size + 1 < W0.heap.size := by omega
 have Nf := ax n1 0
 have Nc := ax n1 1
 have amw := ax n1 2
 have amv := ax n1 3
 have avj := ax n1 4
 have avi := ax n1 5
 have NR := Lib.hid n1
 clear n0 n1
 refine ((aa HS) _ (bz hw0 bem)).mono ?_
 rintro e w' ⟨rfl, hb⟩
 have hbw := dh (w := W0) bem hb; obtain ⟨hc, hfz⟩ := fo hbw
 go_wp2_with fail
 go_region_held3 (fun w' => w'.cell? ⟨w.heap.size, 0, none⟩ = some (.int .i64 s1) ∧ w'.cell? ⟨w.heap.size, 1, none⟩ = some (.bool dw) ∧ w'.cell? ⟨w.heap.size, 2, none⟩ = some (.slice A1 l1.length c1) ∧ w'.cell? ⟨w.heap.size, 3, none⟩ = some (.int .i64 s2) ∧ w'.cell? ⟨w.heap.size, 4, none⟩ = some (.bool di) ∧ w'.cell? ⟨w.heap.size, 5, none⟩ = some (.slice A2 l2.length c2)) ((first | with_reducible exact ⟨(hc _ _ q0).trans wm, (hc _ _ q0).trans wh, (hc _ _ q0).trans zm, (hc _ _ q0).trans Bz, (hc _ _ q0).trans De, (hc _ _ q0).trans Dc⟩ | with_reducible exact ⟨wm, wh, zm, Bz, De, Dc⟩ | with_reducible exact ⟨(jo _ _ _ _ _ _ _ _ om).trans ((hc _ _ q0).trans wm), (jo _ _ _ _ _ _ _ _ om).trans ((hc _ _ q0).trans wh), (jo _ _ _ _ _ _ _ _ om).trans ((hc _ _ q0).trans zm), (jo _ _ _ _ _ _ _ _ om).trans ((hc _ _ q0).trans Bz), (jo _ _ _ _ _ _ _ _ om).trans ((hc _ _ q0).trans De), (jo _ _ _ _ _ _ _ _ om).trans ((hc _ _ q0).trans Dc)⟩ | exact ⟨(hc _ _ q0).trans wm, (hc _ _ q0).trans wh, (hc _ _ q0).trans zm, (hc _ _ q0).trans Bz, (hc _ _ q0).trans De, (hc _ _ q0).trans Dc⟩ | exact ⟨wm, wh, zm, Bz, De, Dc⟩ | exact ⟨(jo _ _ _ _ _ _ _ _ om).trans ((hc _ _ q0).trans wm), (jo _ _ _ _ _ _ _ _ om).trans ((hc _ _ q0).trans wh), (jo _ _ _ _ _ _ _ _ om).trans ((hc _ _ q0).trans zm), (jo _ _ _ _ _ _ _ _ om).trans ((hc _ _ q0).trans Bz), (jo _ _ _ _ _ _ _ _ om).trans ((hc _ _ q0).trans De), (jo _ _ _ _ _ _ _ _ om).trans ((hc _ _ q0).trans Dc)⟩)) (first | (go_at_call_of 160 (Value.agg #[.int .i64 s2, .bool di, .slice A2 l2.length c2]); refine (Vh s2 di A2 c2 l2 z2 _ (by exact (aa H2).below (bz hw0 bem))).mono ?_; rintro e w' ⟨s5, rz, A5, c5, l5, rfl, zb, hb⟩; have hbw := dh (w := W0) bem hb; obtain ⟨hc, hfz⟩ := fo hbw) | (go_at_call_of 160 (Value.agg #[.int .i64 s1, .bool dw, .slice A1 l1.length c1]); refine (Vh s1 dw A1 c1 l1 z1 _ (by exact (aa H1).below (bz hw0 bem))).mono ?_; rintro e w' ⟨s6, vw, A6, c6, l6, rfl, Fu, hb⟩; have zb := zb.below hb; have hbw := dh (w := W0) bem hb; obtain ⟨hc, hfz⟩ := fo hbw))
 have hblk : w'.heap[w.heap.size + 1]? = some (.cells #[.int .i64 0, .bool false, .slice none 0 0, .int .i64 0, .bool false, .slice none 0 0] 79 (0, 0)) := (hbw.block _ q1).trans NR.out
 have kz := Lib.hid hblk
 have ku : Below w.heap.size w w' := bz hw0 hbw
 clear hblk
 go_wp2_with fail
 exact bodyPost_ret (v := (Value.agg #[.int .i64 s5, .bool rz, .slice A5 l5.length c5, .int .i64 s6, .bool vw, .slice A6 l6.length c6])) (by simp [results, Tryz.results94, go_sem, hc, yx, yw, Fj, Ro, Xu, Xt, q1]) rfl
  ⟨s5, rz, A5, c5, l5, s6, vw, A6, c6, l6, rfl, (zb).upto kz.out (wu _ _ _ _ _ _ _ _ _ _) (lh _ _ _ _ _ _ _ _), (Fu).upto kz.out (wu _ _ _ _ _ _ _ _ _ _) (lh _ _ _ _ _ _ _ _), ku.grown (lh _ _ _ _ _ _ _ _) ku.size (fun k hk => by injection hk with hk; omega)⟩
theorem ato (s1 : Int) (dw : Bool) (A1 : Option Addr) (c1 : Nat) (l1 : List Nat) (z1 : Int) (s2 : Int) (di : Bool) (A2 : Option Addr) (c2 : Nat) (l2 : List Nat) (z2 : Int) (w : World) (h1 : gu w s1 dw A1 c1 l1 z1) (h2 : gu w s2 di A2 c2 l2 z2) (hz : ¬ z1 < 0) :
  Calls Tryz.prog 94 #[(Value.agg #[.int .i64 s1, .bool dw, .slice A1 l1.length c1, .int .i64 s2, .bool di, .slice A2 l2.length c2])] w fun e w' => Hd w z2 z1 e w' := by
 have hs : decide (su z1 < 0) = false := decide_eq_false (by rw [Hu]; exact hz)
 obtain ⟨o1, ho1⟩ : ∃ o, o = su z1 := ⟨_, rfl⟩
 have HS : Hid (∀ W, Below w.heap.size w W → Calls Tryz.prog 159 #[(Value.agg #[.int .i64 s1, .bool dw, .slice A1 l1.length c1])] W fun e w' => e = .returned (.int .i64 o1) ∧ Below W.heap.size W w') := by rw [ho1]; exact fun W hW => Ad s1 dw A1 c1 l1 z1 W (h1.below hW)
 rw [← ho1] at hs
 clear ho1 hz
 have H1 := hide h1
 have H2 := hide h2
 clear h1 h2
 go_enter Tryz.func94, Tryz.ntmps94
 go_wp2_with fail
 obtain ⟨n0, n1, hsz, hw0⟩ := ve w (.cells #[.int .i64 s1, .bool dw, .slice A1 l1.length c1, .int .i64 s2, .bool di, .slice A2 l2.length c2] 79) (.cells #[.int .i64 0, .bool false, .slice none 0 0, .int .i64 0, .bool false, .slice none 0 0] 79)
 generalize ((w.alloc (.cells #[.int .i64 s1, .bool dw, .slice A1 l1.length c1, .int .i64 s2, .bool di, .slice A2 l2.length c2] 79)).alloc (.cells #[.int .i64 0, .bool false, .slice none 0 0, .int .i64 0, .bool false, .slice none 0 0] 79)) = W0 at *
 have wm : W0.cell? ⟨w.heap.size, 0, none⟩ = some (.int .i64 s1) := ah n0 0
 have wh : W0.cell? ⟨w.heap.size, 1, none⟩ = some (.bool dw) := ah n0 1
 have zm : W0.cell? ⟨w.heap.size, 2, none⟩ = some (.slice A1 l1.length c1) := ah n0 2
 have Bz : W0.cell? ⟨w.heap.size, 3, none⟩ = some (.int .i64 s2) := ah n0 3
 have De : W0.cell? ⟨w.heap.size, 4, none⟩ = some (.bool di) := ah n0 4
 have Dc : W0.cell? ⟨w.heap.size, 5, none⟩ = some (.slice A2 l2.length c2) := ah n0 5
 have q0 : w.heap.size < W0.heap.size := by omega
 have yx : W0.cell? ⟨w.heap.size + 1, 0, none⟩ = some (.int .i64 0) := ah n1 0
 have yw : W0.cell? ⟨w.heap.size + 1, 1, none⟩ = some (.bool false) := ah n1 1
 have Fj : W0.cell? ⟨w.heap.size + 1, 2, none⟩ = some (.slice none 0 0) := ah n1 2
 have Ro : W0.cell? ⟨w.heap.size + 1, 3, none⟩ = some (.int .i64 0) := ah n1 3
 have Xu : W0.cell? ⟨w.heap.size + 1, 4, none⟩ = some (.bool false) := ah n1 4
 have Xt : W0.cell? ⟨w.heap.size + 1, 5, none⟩ = some (.slice none 0 0) := ah n1 5
 have q1 : w.heap.size + 1 < W0.heap.size := by omega
 have Nf := ax n1 0
 have Nc := ax n1 1
 have amw := ax n1 2
 have amv := ax n1 3
 have avj := ax n1 4
 have avi := ax n1 5
 have NR := Lib.hid n1
 clear n0 n1
 refine ((aa HS) _ (bz hw0 bem)).mono ?_
 rintro e w' ⟨rfl, hb⟩
 have hbw := dh (w := W0) bem hb; obtain ⟨hc, hfz⟩ := fo hbw
 have hblk : w'.heap[w.heap.size + 1]? = some (.cells #[.int .i64 0, .bool false, .slice none 0 0, .int .i64 0, .bool false, .slice none 0 0] 79 (0, 0)) := (hbw.block _ q1).trans NR.out
 have kz := Lib.hid hblk
 have ku : Below w.heap.size w w' := bz hw0 hbw
 clear hblk
 go_wp2_with fail
 exact bodyPost_ret (v := (Value.agg #[.int .i64 s2, .bool di, .slice A2 l2.length c2, .int .i64 s1, .bool dw, .slice A1 l1.length c1])) (by simp [results, Tryz.results94, go_sem, hc, yx, yw, Fj, Ro, Xu, Xt, q1]) rfl
  ⟨s2, di, A2, c2, l2, s1, dw, A1, c1, l1, rfl, ((aa H2).below (bz hw0 hbw)).upto kz.out (wu _ _ _ _ _ _ _ _ _ _) (lh _ _ _ _ _ _ _ _), ((aa H1).below (bz hw0 hbw)).upto kz.out (wu _ _ _ _ _ _ _ _ _ _) (lh _ _ _ _ _ _ _ _), ku.grown (lh _ _ _ _ _ _ _ _) ku.size (fun k hk => by injection hk with hk; omega)⟩


def Nk (w : World) (F : Nat) (x q : Rat) : Prop := ∀ (s1 : Int) (dw : Bool) (A1 : Option Addr) (c1 : Nat) (l1 : List Nat) (s2 : Int) (di : Bool) (A2 : Option Addr) (c2 : Nat) (l2 : List Nat) (W : World), Below w.heap.size w W → gu W s1 dw A1 c1 l1 x.num → gu W s2 di A2 c2 l2 (x.den : Int) → Calls Tryz.prog F #[(Value.agg #[.int .i64 s1, .bool dw, .slice A1 l1.length c1, .int .i64 s2, .bool di, .slice A2 l2.length c2])] W fun e w' => Hd W q.num (q.den : Int) e w'
def Fy (w : World) (F : Nat) (x y q : Rat) : Prop := ∀ (s1 : Int) (dw : Bool) (A1 : Option Addr) (c1 : Nat) (l1 : List Nat) (s2 : Int) (di : Bool) (A2 : Option Addr) (c2 : Nat) (l2 : List Nat) (s3 : Int) (uu : Bool) (A3 : Option Addr) (c3 : Nat) (l3 : List Nat) (s4 : Int) (Dy : Bool) (A4 : Option Addr) (c4 : Nat) (l4 : List Nat) (W : World), Below w.heap.size w W → gu W s1 dw A1 c1 l1 x.num → gu W s2 di A2 c2 l2 (x.den : Int) → gu W s3 uu A3 c3 l3 y.num → gu W s4 Dy A4 c4 l4 (y.den : Int) → Calls Tryz.prog F #[(Value.agg #[.int .i64 s1, .bool dw, .slice A1 l1.length c1, .int .i64 s2, .bool di, .slice A2 l2.length c2]), (Value.agg #[.int .i64 s3, .bool uu, .slice A3 l3.length c3, .int .i64 s4, .bool Dy, .slice A4 l4.length c4])] W fun e w' => Hd W q.num (q.den : Int) e w'
theorem Nk.mono {w w' : World} {F : Nat} {x q : Rat} (h : Nk w F x q) (hb : Below w.heap.size w w') : Nk w' F x q := fun _ _ _ _ _ _ _ _ _ _ W hW => h _ _ _ _ _ _ _ _ _ _ W (bz hb hW)
theorem Fy.mono {w w' : World} {F : Nat} {x y q : Rat} (h : Fy w F x y q) (hb : Below w.heap.size w w') : Fy w' F x y q := fun _ _ _ _ _ _ _ _ _ _ _ _ _ _ _ _ _ _ _ _ W hW => h _ _ _ _ _ _ _ _ _ _ _ _ _ _ _ _ _ _ _ _ W (bz hb hW)

def zn (K : Nat) (q : Rat) : Prop := Wd.Sz dz K q.num ∧ Wd.Sz dz K (q.den : Int)
theorem zn.mono {K L : Nat} {q : Rat} (h : zn K q) (hk : K ≤ L) : zn L q := ⟨h.1.mono qh hk, h.2.mono qh hk⟩
theorem zn.neg {K : Nat} {q : Rat} (h : zn K q) : zn K (-q) := ⟨by rw [Rat.neg_num]; exact h.1.neg, by rw [Rat.neg_den]; exact h.2⟩

theorem azy (w : World) (x : Rat) : Nk w 88 x (-x) := fun s1 dw A1 c1 l1 s2 di A2 c2 l2 W _ f1 f2 => by
 rw [Rat.neg_num, Rat.neg_den]
 exact aew s1 dw A1 c1 l1 _ s2 di A2 c2 l2 _ W f1 f2
theorem ajs (w : World) (x : Rat) (h : x.num ≠ 0) : Nk w 94 x (x⁻¹) := fun s1 dw A1 c1 l1 s2 di A2 c2 l2 W _ f1 f2 => by
 have hp := Wd.Uf x h
 by_cases hn : x.num < 0
 ·
  rw [(hp.1 hn).1, (hp.1 hn).2]
  exact atp s1 dw A1 c1 l1 _ s2 di A2 c2 l2 _ W f1 f2 hn
 ·
  rw [(hp.2 hn).1, (hp.2 hn).2]
  exact ato s1 dw A1 c1 l1 _ s2 di A2 c2 l2 _ W f1 f2 hn
theorem zn.inv {K : Nat} {q : Rat} (h : zn K q) (h0 : q.num ≠ 0) : zn K (q⁻¹) := by
 have hp := Wd.Uf q h0
 by_cases hn : q.num < 0
 ·
  exact ⟨by rw [(hp.1 hn).1]; exact h.2.neg, by rw [(hp.1 hn).2]; exact h.1.neg⟩
 ·
  exact ⟨by rw [(hp.2 hn).1]; exact h.2, by rw [(hp.2 hn).2]; exact h.1⟩

def dm : World → World → Prop := fun w w' => Below w.heap.size w w'
theorem dm.drew (w : World) : dm w w.drew := (Below.refl _ _).drew
theorem Eo {P : Program} {F : Nat} {fn : Func} (h : P.funcs[F]? = some fn) (hn : (!(fn.name == "runtime.NumGoroutine") && fn.body.isSome) = true) (vs : Array Value) (w : World) : (callFunc F vs).run P w = .ok (.enter F vs) w := by
 simp only [Bool.and_eq_true, Bool.not_eq_true', beq_eq_false_iff_ne] at hn
 have h2 : ¬ fn.body = none := by intro e; rw [e] at hn; exact absurd hn.2 (by simp)
 unfold callFunc
 simp [go_sem, h]
 rw [if_neg hn.1, if_neg h2]
theorem Rb {P : Program} {F : Nat} (hF : ∀ (vs : Array Value) (w : World), (callFunc F vs).run P w = .ok (.enter F vs) w) {a : Act} {w : World} {d : Option Tmp} {xs : Array Operand} {ats : Array TypeId} {ty : TypeId} {pos : String} {af : Array Edge} {gd : Option (Nat × Bool)} :
  (execOp a.eval { dst := d, op := .call { callee := .value (.func F), args := xs, argTypes := ats }, type := ty, pos := pos, after := af, guard := gd }).run P w = .ok (.enter F (xs.map a.eval)) w := by
 have h := hF (#[] ++ xs.map a.eval ++ #[]) w
 rw [Array.empty_append, Array.append_empty] at h
 rw [← h]
 simp only [execOp, resolve, Act.eval, Deferred.ofValue, invoke]
 simp only [pure_bind, Array.empty_append, Array.append_empty]
theorem azk {P : Program} {a : Act} {w : World} {d : Option Tmp} {x : Operand} {i : Nat} {ty : TypeId} {pos : String} {af : Array Edge} {gd : Option (Nat × Bool)} {vs : Array Value} {u : Value} (h : a.eval x = .tuple vs) (hu : vs[i]? = some u) :
  (execOp a.eval { dst := d, op := .extract x i, type := ty, pos := pos, after := af, guard := gd }).run P w = .ok (.value u) w := by
 simp only [execOp, h]
 simp [go_sem, hu]
theorem jm {P : Program} {o : Oper} {a : Act} {w w' : World} {v : Value} {K : Act → World → Prop} {Q : Exit → Act → World → Prop} (h : (execOp a.eval o).run P w = .ok (.value v) w') (hK : K (a.put o.dst v) w') : o.wp P a w K Q := by
 unfold Oper.wp; rw [h]; exact hK
theorem Je {P : Program} {o : Oper} {a : Act} {w w' : World} {F : Nat} {vs : Array Value} {K : Act → World → Prop} {Q : Exit → Act → World → Prop} (h : (execOp a.eval o).run P w = .ok (.enter F vs) w') (hK : Calls P F vs w' (fun e w'' => ∃ v, e = .returned v ∧ K (a.put o.dst v) w'')) : o.wp P a w K Q := by
 unfold Oper.wp; rw [h]
 refine hK.mono ?_
 rintro e w'' ⟨v, rfl, h⟩; exact h
theorem Pk {P : Program} {Q : Exit → Act → World → Prop} {l : List Oper} {n : Nat} {T : Nat → World → Value → Prop} {G : World → Prop} {al : List Nat} {a0 : Act} {k F d : Nat} {fn : Func}  {ats : Array TypeId} {ty : TypeId} {pos : String} {af : Array Edge} {gd : Option (Nat × Bool)}
  (hF : P.funcs[F]? = some fn) (hn : (!(fn.name == "runtime.NumGoroutine") && fn.body.isSome) = true) (hal : al.contains k = false) (Ir : ∀ W W', G W → dm W W' → G W') 
  (hc : ∀ (W : World) , G W → Calls P F #[] W fun e w' => ∃ u, e = .returned u ∧ dm W w' ∧ T k w' u) :
  Rg.Step P Q l n T G dm al a0 k { dst := some d, op := .call { callee := .value (.func F), args := #[], argTypes := ats }, type := ty, pos := pos, after := af, guard := gd } := by
 intro a w hG hO hN
 refine Je (Rb (Eo hF hn)) ?_
 simp only [List.map_toArray, List.map_cons, List.map_nil]
 refine (hc w  hG ).mono ?_
 rintro e w' ⟨u, rfl, hb, ht⟩
 exact ⟨u, rfl, u, rfl, Ir _ _ hG hb, hb, ht, fun h => by rw [hal] at h; cases h⟩
theorem Bt {P : Program} {Q : Exit → Act → World → Prop} {l : List Oper} {n : Nat} {T : Nat → World → Value → Prop} {G : World → Prop} {al : List Nat} {a0 : Act} {k F d : Nat} {fn : Func} {x1 : Operand} {A1 : World → Value → Prop} {ats : Array TypeId} {ty : TypeId} {pos : String} {af : Array Edge} {gd : Option (Nat × Bool)}
  (hF : P.funcs[F]? = some fn) (hn : (!(fn.name == "runtime.NumGoroutine") && fn.body.isSome) = true) (hal : al.contains k = false) (Ir : ∀ W W', G W → dm W W' → G W') (h1 : Rg.iq l n T a0 k x1 A1)
  (hc : ∀ (W : World) (v1 : Value), G W → A1 W v1 → Calls P F #[v1] W fun e w' => ∃ u, e = .returned u ∧ dm W w' ∧ T k w' u) :
  Rg.Step P Q l n T G dm al a0 k { dst := some d, op := .call { callee := .value (.func F), args := #[x1], argTypes := ats }, type := ty, pos := pos, after := af, guard := gd } := by
 intro a w hG hO hN
 refine Je (Rb (Eo hF hn)) ?_
 simp only [List.map_toArray, List.map_cons, List.map_nil]
 refine (hc w (a.eval x1) hG (h1 a w hO hN)).mono ?_
 rintro e w' ⟨u, rfl, hb, ht⟩
 exact ⟨u, rfl, u, rfl, Ir _ _ hG hb, hb, ht, fun h => by rw [hal] at h; cases h⟩
theorem yz {P : Program} {Q : Exit → Act → World → Prop} {l : List Oper} {n : Nat} {T : Nat → World → Value → Prop} {G : World → Prop} {al : List Nat} {a0 : Act} {k F d : Nat} {fn : Func} {x1 x2 : Operand} {A1 A2 : World → Value → Prop} {ats : Array TypeId} {ty : TypeId} {pos : String} {af : Array Edge} {gd : Option (Nat × Bool)}
  (hF : P.funcs[F]? = some fn) (hn : (!(fn.name == "runtime.NumGoroutine") && fn.body.isSome) = true) (hal : al.contains k = false) (Ir : ∀ W W', G W → dm W W' → G W') (h1 : Rg.iq l n T a0 k x1 A1) (h2 : Rg.iq l n T a0 k x2 A2)
  (hc : ∀ (W : World) (v1 v2 : Value), G W → A1 W v1 → A2 W v2 → Calls P F #[v1, v2] W fun e w' => ∃ u, e = .returned u ∧ dm W w' ∧ T k w' u) :
  Rg.Step P Q l n T G dm al a0 k { dst := some d, op := .call { callee := .value (.func F), args := #[x1, x2], argTypes := ats }, type := ty, pos := pos, after := af, guard := gd } := by
 intro a w hG hO hN
 refine Je (Rb (Eo hF hn)) ?_
 simp only [List.map_toArray, List.map_cons, List.map_nil]
 refine (hc w (a.eval x1) (a.eval x2) hG (h1 a w hO hN) (h2 a w hO hN)).mono ?_
 rintro e w' ⟨u, rfl, hb, ht⟩
 exact ⟨u, rfl, u, rfl, Ir _ _ hG hb, hb, ht, fun h => by rw [hal] at h; cases h⟩
theorem ajo {P : Program} {Q : Exit → Act → World → Prop} {l : List Oper} {n : Nat} {T : Nat → World → Value → Prop} {G : World → Prop} {al : List Nat} {a0 : Act} {k F d : Nat} {fn : Func} {x1 x2 x3 : Operand} {A1 A2 A3 : World → Value → Prop} {ats : Array TypeId} {ty : TypeId} {pos : String} {af : Array Edge} {gd : Option (Nat × Bool)}
  (hF : P.funcs[F]? = some fn) (hn : (!(fn.name == "runtime.NumGoroutine") && fn.body.isSome) = true) (hal : al.contains k = false) (Ir : ∀ W W', G W → dm W W' → G W') (h1 : Rg.iq l n T a0 k x1 A1) (h2 : Rg.iq l n T a0 k x2 A2) (h3 : Rg.iq l n T a0 k x3 A3)
  (hc : ∀ (W : World) (v1 v2 v3 : Value), G W → A1 W v1 → A2 W v2 → A3 W v3 → Calls P F #[v1, v2, v3] W fun e w' => ∃ u, e = .returned u ∧ dm W w' ∧ T k w' u) :
  Rg.Step P Q l n T G dm al a0 k { dst := some d, op := .call { callee := .value (.func F), args := #[x1, x2, x3], argTypes := ats }, type := ty, pos := pos, after := af, guard := gd } := by
 intro a w hG hO hN
 refine Je (Rb (Eo hF hn)) ?_
 simp only [List.map_toArray, List.map_cons, List.map_nil]
 refine (hc w (a.eval x1) (a.eval x2) (a.eval x3) hG (h1 a w hO hN) (h2 a w hO hN) (h3 a w hO hN)).mono ?_
 rintro e w' ⟨u, rfl, hb, ht⟩
 exact ⟨u, rfl, u, rfl, Ir _ _ hG hb, hb, ht, fun h => by rw [hal] at h; cases h⟩
theorem cz {P : Program} {Q : Exit → Act → World → Prop} {l : List Oper} {n : Nat} {T : Nat → World → Value → Prop} {G : World → Prop} {al : List Nat} {a0 : Act} {k d : Nat} {x : Operand} {ty : TypeId} {pos : String} {af : Array Edge} {gd : Option (Nat × Bool)}
  (hal : al.contains k = false) (hx : Rg.iq l n T a0 k x (T k)) : Rg.Step P Q l n T G dm al a0 k { dst := some d, op := .move x, type := ty, pos := pos, after := af, guard := gd } := by
 intro a w hG hO hN
 exact jm (v := a.eval x) (w' := w) rfl ⟨_, rfl, hG, Below.refl _ _, hx a w hO hN, fun h => by rw [hal] at h; cases h⟩
theorem ib {P : Program} {Q : Exit → Act → World → Prop} {l : List Oper} {n : Nat} {T : Nat → World → Value → Prop} {G : World → Prop} {al : List Nat} {a0 : Act} {k d : Nat} {x : Operand} {ty : TypeId} {pos : String} {af : Array Edge} {gd : Option (Nat × Bool)}
  (hal : al.contains k = false) (hx : Rg.iq l n T a0 k x (T k)) : Rg.Step P Q l n T G dm al a0 k { dst := some d, op := .assign x, type := ty, pos := pos, after := af, guard := gd } := by
 intro a w hG hO hN
 exact jm (v := a.eval x) (w' := w) rfl ⟨_, rfl, hG, Below.refl _ _, hx a w hO hN, fun h => by rw [hal] at h; cases h⟩
theorem bha {P : Program} {Q : Exit → Act → World → Prop} {l : List Oper} {n : Nat} {T : Nat → World → Value → Prop} {G : World → Prop} {al : List Nat} {a0 : Act} {k d i : Nat} {x : Operand} {A : World → Value → Prop} {ty : TypeId} {pos : String} {af : Array Edge} {gd : Option (Nat × Bool)}
  (hal : al.contains k = false) (hx : Rg.iq l n T a0 k x A) (hi : ∀ W v, A W v → ∃ vs, v = .tuple vs ∧ ∃ u, vs[i]? = some u ∧ T k W u) : Rg.Step P Q l n T G dm al a0 k { dst := some d, op := .extract x i, type := ty, pos := pos, after := af, guard := gd } := by
 intro a w hG hO hN
 obtain ⟨vs, h1, u, h2, h3⟩ := hi _ _ (hx a w hO hN)
 exact jm (azk h1 h2) ⟨_, rfl, hG, Below.refl _ _, h3, fun h => by rw [hal] at h; cases h⟩
theorem aev {P : Program} {a : Act} {w : World} {d : Option Tmp} {c x y : Operand} {b : Bool} {ty : TypeId} {pos : String} {af : Array Edge} {gd : Option (Nat × Bool)} (h : a.eval c = .bool b) :
  (execOp a.eval { dst := d, op := .pick c x y, type := ty, pos := pos, after := af, guard := gd }).run P w = .ok (.value (if b then a.eval x else a.eval y)) w := by
 simp only [execOp, h]
 cases b <;> simp [go_sem]
theorem xz {P : Program} {Q : Exit → Act → World → Prop} {l : List Oper} {n : Nat} {T : Nat → World → Value → Prop} {G : World → Prop} {al : List Nat} {a0 : Act} {k d : Nat} {c x y : Operand} {ty : TypeId} {pos : String} {af : Array Edge} {gd : Option (Nat × Bool)}
  (hal : al.contains k = false) (hc : Rg.iq l n T a0 k c (Rg.ai (.bool true))) (hx : Rg.iq l n T a0 k x (T k)) : Rg.Step P Q l n T G dm al a0 k { dst := some d, op := .pick c x y, type := ty, pos := pos, after := af, guard := gd } := by
 intro a w hG hO hN
 exact jm (aev (hc a w hO hN)) ⟨_, rfl, hG, Below.refl _ _, hx a w hO hN, fun h => by rw [hal] at h; cases h⟩
theorem qb {P : Program} {Q : Exit → Act → World → Prop} {l : List Oper} {n : Nat} {T : Nat → World → Value → Prop} {G : World → Prop} {al : List Nat} {a0 : Act} {k d : Nat} {c x y : Operand} {ty : TypeId} {pos : String} {af : Array Edge} {gd : Option (Nat × Bool)}
  (hal : al.contains k = false) (hc : Rg.iq l n T a0 k c (Rg.ai (.bool false))) (hy : Rg.iq l n T a0 k y (T k)) : Rg.Step P Q l n T G dm al a0 k { dst := some d, op := .pick c x y, type := ty, pos := pos, after := af, guard := gd } := by
 intro a w hG hO hN
 exact jm (aev (hc a w hO hN)) ⟨_, rfl, hG, Below.refl _ _, hy a w hO hN, fun h => by rw [hal] at h; cases h⟩
theorem aze {P : Program} {a : Act} {w : World} {d : Option Tmp} {x : Operand} {b : Bool} {tb ty : TypeId} {pos : String} {af : Array Edge} {gd : Option (Nat × Bool)} (h : a.eval x = .bool b) :
  (execOp a.eval { dst := d, op := .unOp .not tb x, type := ty, pos := pos, after := af, guard := gd }).run P w = .ok (.value (.bool (!b))) w := by
 simp only [execOp, h]
 simp [go_sem]
theorem uf {P : Program} {Q : Exit → Act → World → Prop} {l : List Oper} {n : Nat} {T : Nat → World → Value → Prop} {G : World → Prop} {al : List Nat} {a0 : Act} {k d : Nat} {x : Operand} {b c : Bool} {tb ty : TypeId} {pos : String} {af : Array Edge} {gd : Option (Nat × Bool)}
  (hal : al.contains k = false) (hx : Rg.iq l n T a0 k x (Rg.ai (.bool b))) (hT : T k = Rg.ai (.bool c)) (hb : (!b) = c) : Rg.Step P Q l n T G dm al a0 k { dst := some d, op := .unOp .not tb x, type := ty, pos := pos, after := af, guard := gd } := by
 intro a w hG hO hN
 exact jm (aze (hx a w hO hN)) ⟨_, rfl, hG, Below.refl _ _, by rw [hT, ← hb]; rfl, fun h => by rw [hal] at h; cases h⟩
theorem azg {ρ : Operand → Value} {w : World} {d : Option Tmp} {x y : Operand} {o z : Int} {ty : TypeId} {pos : String} {af : Array Edge} {gd : Option (Nat × Bool)} (h : ρ x = .int .i64 o) (h' : ρ y = .int .i64 z) :
  (execOp ρ { dst := d, op := .binOp .leq 3 x y 3, type := ty, pos := pos, after := af, guard := gd }).run Tryz.prog w = .ok (.value (.bool (decide (o ≤ z)))) w := by
 simp only [execOp, h, h']
 simp [go_sem, Tryz.underlying3]
theorem aws {Q : Exit → Act → World → Prop} {l : List Oper} {n : Nat} {T : Nat → World → Value → Prop} {G : World → Prop} {al : List Nat} {a0 : Act} {k d : Nat} {x y : Operand} {o z : Int} {ty : TypeId} {pos : String} {af : Array Edge} {gd : Option (Nat × Bool)} {b : Bool}
  (hal : al.contains k = false) (hx : Rg.iq l n T a0 k x (Rg.ai (.int .i64 o))) (hy : Rg.iq l n T a0 k y (Rg.ai (.int .i64 z))) (hT : T k = Rg.ai (.bool b)) (hb : (decide (o ≤ z)) = b) : Rg.Step Tryz.prog Q l n T G dm al a0 k { dst := some d, op := .binOp .leq 3 x y 3, type := ty, pos := pos, after := af, guard := gd } := by
 intro a w hG hO hN
 exact jm (P := Tryz.prog) (azg (hx a w hO hN) (hy a w hO hN)) ⟨_, rfl, hG, Below.refl _ _, by rw [hT, hb]; rfl, fun h => by rw [hal] at h; cases h⟩
theorem azf {ρ : Operand → Value} {w : World} {d : Option Tmp} {x y : Operand} {o z : Int} {ty : TypeId} {pos : String} {af : Array Edge} {gd : Option (Nat × Bool)} (h : ρ x = .int .i64 o) (h' : ρ y = .int .i64 z) :
  (execOp ρ { dst := d, op := .binOp .lss 3 x y 3, type := ty, pos := pos, after := af, guard := gd }).run Tryz.prog w = .ok (.value (.bool (decide (o < z)))) w := by
 simp only [execOp, h, h']
 simp [go_sem, Tryz.underlying3]
theorem ry {Q : Exit → Act → World → Prop} {l : List Oper} {n : Nat} {T : Nat → World → Value → Prop} {G : World → Prop} {al : List Nat} {a0 : Act} {k d : Nat} {x y : Operand} {o z : Int} {ty : TypeId} {pos : String} {af : Array Edge} {gd : Option (Nat × Bool)} {b : Bool}
  (hal : al.contains k = false) (hx : Rg.iq l n T a0 k x (Rg.ai (.int .i64 o))) (hy : Rg.iq l n T a0 k y (Rg.ai (.int .i64 z))) (hT : T k = Rg.ai (.bool b)) (hb : (decide (o < z)) = b) : Rg.Step Tryz.prog Q l n T G dm al a0 k { dst := some d, op := .binOp .lss 3 x y 3, type := ty, pos := pos, after := af, guard := gd } := by
 intro a w hG hO hN
 exact jm (P := Tryz.prog) (azf (hx a w hO hN) (hy a w hO hN)) ⟨_, rfl, hG, Below.refl _ _, by rw [hT, hb]; rfl, fun h => by rw [hal] at h; cases h⟩
theorem azi {ρ : Operand → Value} {w : World} {d : Option Tmp} {x y : Operand} {o z : Int} {ty : TypeId} {pos : String} {af : Array Edge} {gd : Option (Nat × Bool)} (h : ρ x = .int .i64 o) (h' : ρ y = .int .i64 z) :
  (execOp ρ { dst := d, op := .binOp .gtr 3 x y 3, type := ty, pos := pos, after := af, guard := gd }).run Tryz.prog w = .ok (.value (.bool (decide (z < o)))) w := by
 simp only [execOp, h, h']
 simp [go_sem, Tryz.underlying3]
theorem Jv {Q : Exit → Act → World → Prop} {l : List Oper} {n : Nat} {T : Nat → World → Value → Prop} {G : World → Prop} {al : List Nat} {a0 : Act} {k d : Nat} {x y : Operand} {o z : Int} {ty : TypeId} {pos : String} {af : Array Edge} {gd : Option (Nat × Bool)} {b : Bool}
  (hal : al.contains k = false) (hx : Rg.iq l n T a0 k x (Rg.ai (.int .i64 o))) (hy : Rg.iq l n T a0 k y (Rg.ai (.int .i64 z))) (hT : T k = Rg.ai (.bool b)) (hb : (decide (z < o)) = b) : Rg.Step Tryz.prog Q l n T G dm al a0 k { dst := some d, op := .binOp .gtr 3 x y 3, type := ty, pos := pos, after := af, guard := gd } := by
 intro a w hG hO hN
 exact jm (P := Tryz.prog) (azi (hx a w hO hN) (hy a w hO hN)) ⟨_, rfl, hG, Below.refl _ _, by rw [hT, hb]; rfl, fun h => by rw [hal] at h; cases h⟩
theorem azj {ρ : Operand → Value} {w : World} {d : Option Tmp} {x y : Operand} {o z : Int} {ty : TypeId} {pos : String} {af : Array Edge} {gd : Option (Nat × Bool)} (h : ρ x = .int .i64 o) (h' : ρ y = .int .i64 z) :
  (execOp ρ { dst := d, op := .binOp .geq 3 x y 3, type := ty, pos := pos, after := af, guard := gd }).run Tryz.prog w = .ok (.value (.bool (decide (z ≤ o)))) w := by
 simp only [execOp, h, h']
 simp [go_sem, Tryz.underlying3]
theorem bgz {Q : Exit → Act → World → Prop} {l : List Oper} {n : Nat} {T : Nat → World → Value → Prop} {G : World → Prop} {al : List Nat} {a0 : Act} {k d : Nat} {x y : Operand} {o z : Int} {ty : TypeId} {pos : String} {af : Array Edge} {gd : Option (Nat × Bool)} {b : Bool}
  (hal : al.contains k = false) (hx : Rg.iq l n T a0 k x (Rg.ai (.int .i64 o))) (hy : Rg.iq l n T a0 k y (Rg.ai (.int .i64 z))) (hT : T k = Rg.ai (.bool b)) (hb : (decide (z ≤ o)) = b) : Rg.Step Tryz.prog Q l n T G dm al a0 k { dst := some d, op := .binOp .geq 3 x y 3, type := ty, pos := pos, after := af, guard := gd } := by
 intro a w hG hO hN
 exact jm (P := Tryz.prog) (azj (hx a w hO hN) (hy a w hO hN)) ⟨_, rfl, hG, Below.refl _ _, by rw [hT, hb]; rfl, fun h => by rw [hal] at h; cases h⟩
theorem awr {P : Program} {Q : Exit → Act → World → Prop} {l : List Oper} {n : Nat} {T : Nat → World → Value → Prop} {G : World → Prop} {al : List Nat} {a0 : Act} {k B : Nat} {o : Oper} {N : Nat → World → Value → Prop} (hnew : ∀ (a : Act) (w : World), ∃ X : World, dm w X ∧ (B ≤ w.heap.size → N B X (.pointer (some ⟨w.heap.size, 0, none⟩))) ∧ (execOp a.eval o).run P w = .ok (.value (.pointer (some ⟨w.heap.size, 0, none⟩))) X)
  (Ir : ∀ W W', G W → dm W W' → G W') (hB : ∀ W, G W → B ≤ W.heap.size) (hT : T k = N B) (hlt : ∀ j W u, al.contains j = true → T j W u → ∃ b, u = .pointer (some ⟨b, 0, none⟩) ∧ b < W.heap.size) :
  Rg.Step P Q l n T G dm al a0 k o := by
 intro a w hG hO hN
 obtain ⟨X, hb, hbx, hr⟩ := hnew a w
 have hT2 : T k X (.pointer (some ⟨w.heap.size, 0, none⟩)) := by rw [hT]; exact hbx (hB w hG)
 have hG2 := Ir _ _ hG hb
 have hne : al.contains k = true → ∀ j u, al.contains j = true → T j w u → u ≠ .pointer (some ⟨w.heap.size, 0, none⟩) := fun _ j u hj ht he => by
  obtain ⟨b, h1, h2⟩ := hlt j w u hj ht
  rw [h1] at he
  have h3 : b = w.heap.size := by first | (simp at he; done) | (simp at he; exact he)
  omega
 exact jm hr ⟨_, rfl, hG2, hb, hT2, hne⟩
def ik (T : World → Value → Prop) (w : World) (e : Ending) (w' : World) : Prop := ∃ u, e = .returned u ∧ dm w w' ∧ T w' u

theorem apc (s1 : Int) (dw : Bool) (A1 : Option Addr) (c1 : Nat) (l1 : List Nat) (z1 : Int) (s2 : Int) (di : Bool) (A2 : Option Addr) (c2 : Nat) (l2 : List Nat) (z2 : Int) (w : World) (h1 : gu w s1 dw A1 c1 l1 z1) (h2 : gu w s2 di A2 c2 l2 z2) (a1 : ¬ l1.length = 0) :
  Calls Tryz.prog 69 #[(Value.agg #[.int .i64 s1, .bool dw, .slice A1 l1.length c1, .int .i64 s2, .bool di, .slice A2 l2.length c2])] w fun e w' => e = .returned (.tuple #[.agg #[.int .i64 0, .int .i64 0], .int .i64 3]) ∧ Below w.heap.size w w' := by
 have qg := hide (fun W => zu s1 dw A1 c1 l1.length W)
 have HS2 := hide (fun W => zu s2 di A2 c2 l2.length W)
 rw [decide_eq_false a1] at qg
 obtain ⟨B2, hB2⟩ : ∃ b, b = decide (l2.length = 0) := ⟨_, rfl⟩
 rw [← hB2] at HS2
 clear hB2
 clear a1 h1 h2
 go_enter Tryz.func69, Tryz.ntmps69
 go_wp2_with fail
 obtain ⟨n0, n1, hsz, hw0⟩ := ve w (.cells #[.int .i64 s1, .bool dw, .slice A1 l1.length c1, .int .i64 s2, .bool di, .slice A2 l2.length c2] 79) (.cells #[.int .i64 0, .int .i64 0] 23)
 generalize ((w.alloc (.cells #[.int .i64 s1, .bool dw, .slice A1 l1.length c1, .int .i64 s2, .bool di, .slice A2 l2.length c2] 79)).alloc (.cells #[.int .i64 0, .int .i64 0] 23)) = W0 at *
 have wm : W0.cell? ⟨w.heap.size, 0, none⟩ = some (.int .i64 s1) := ah n0 0
 have wh : W0.cell? ⟨w.heap.size, 1, none⟩ = some (.bool dw) := ah n0 1
 have zm : W0.cell? ⟨w.heap.size, 2, none⟩ = some (.slice A1 l1.length c1) := ah n0 2
 have Bz : W0.cell? ⟨w.heap.size, 3, none⟩ = some (.int .i64 s2) := ah n0 3
 have De : W0.cell? ⟨w.heap.size, 4, none⟩ = some (.bool di) := ah n0 4
 have Dc : W0.cell? ⟨w.heap.size, 5, none⟩ = some (.slice A2 l2.length c2) := ah n0 5
 have q0 : w.heap.size < W0.heap.size := by omega
 have yx : W0.cell? ⟨w.heap.size + 1, 0, none⟩ = some (.int .i64 0) := ah n1 0
 have yw : W0.cell? ⟨w.heap.size + 1, 1, none⟩ = some (.int .i64 0) := ah n1 1
 have q1 : w.heap.size + 1 < W0.heap.size := by omega
 have Nf := ax n1 0
 have Nc := ax n1 1
 have NR := Lib.hid n1
 clear n0 n1
 refine ((aa qg) _).mono ?_
 rintro e w3 ⟨rfl, hb⟩
 have hbw := dh (w := W0) bem hb
 obtain ⟨hc, hfz⟩ := fo hbw
 go_wp2_with fail
 refine ((aa HS2) _).mono ?_
 rintro e w4 ⟨rfl, hb⟩
 have hbw := dh (w := W0) bem hb
 obtain ⟨hc, hfz⟩ := fo hbw
 have ku : Below w.heap.size w w4 := bz hw0 hbw
 go_wp2_with fail
 exact bodyPost_ret (v := .tuple #[.agg #[.int .i64 0, .int .i64 0], .int .i64 3]) (by simp [results, Tryz.results69, go_sem, hc, yx, yw, q1]) rfl
  ⟨rfl, ku.grown (mg _ _ _ _) ku.size (fun k hk => by injection hk with hk; omega)⟩
theorem apb (s1 : Int) (dw : Bool) (A1 : Option Addr) (c1 : Nat) (l1 : List Nat) (z1 : Int) (s2 : Int) (di : Bool) (A2 : Option Addr) (c2 : Nat) (l2 : List Nat) (z2 : Int) (w : World) (h1 : gu w s1 dw A1 c1 l1 z1) (h2 : gu w s2 di A2 c2 l2 z2) (a1 : l1.length = 0) (a2 : ¬ l2.length = 0) :
  Calls Tryz.prog 69 #[(Value.agg #[.int .i64 s1, .bool dw, .slice A1 l1.length c1, .int .i64 s2, .bool di, .slice A2 l2.length c2])] w fun e w' => e = .returned (.tuple #[.agg #[.int .i64 0, .int .i64 0], .int .i64 3]) ∧ Below w.heap.size w w' := by
 have qg := hide (fun W => zu s1 dw A1 c1 l1.length W)
 have HS2 := hide (fun W => zu s2 di A2 c2 l2.length W)
 rw [decide_eq_true a1] at qg
 rw [decide_eq_false a2] at HS2
 clear a1 a2 h1 h2
 go_enter Tryz.func69, Tryz.ntmps69
 go_wp2_with fail
 obtain ⟨n0, n1, hsz, hw0⟩ := ve w (.cells #[.int .i64 s1, .bool dw, .slice A1 l1.length c1, .int .i64 s2, .bool di, .slice A2 l2.length c2] 79) (.cells #[.int .i64 0, .int .i64 0] 23)
 generalize ((w.alloc (.cells #[.int .i64 s1, .bool dw, .slice A1 l1.length c1, .int .i64 s2, .bool di, .slice A2 l2.length c2] 79)).alloc (.cells #[.int .i64 0, .int .i64 0] 23)) = W0 at *
 have wm : W0.cell? ⟨w.heap.size, 0, none⟩ = some (.int .i64 s1) := ah n0 0
 have wh : W0.cell? ⟨w.heap.size, 1, none⟩ = some (.bool dw) := ah n0 1
 have zm : W0.cell? ⟨w.heap.size, 2, none⟩ = some (.slice A1 l1.length c1) := ah n0 2
 have Bz : W0.cell? ⟨w.heap.size, 3, none⟩ = some (.int .i64 s2) := ah n0 3
 have De : W0.cell? ⟨w.heap.size, 4, none⟩ = some (.bool di) := ah n0 4
 have Dc : W0.cell? ⟨w.heap.size, 5, none⟩ = some (.slice A2 l2.length c2) := ah n0 5
 have q0 : w.heap.size < W0.heap.size := by omega
 have yx : W0.cell? ⟨w.heap.size + 1, 0, none⟩ = some (.int .i64 0) := ah n1 0
 have yw : W0.cell? ⟨w.heap.size + 1, 1, none⟩ = some (.int .i64 0) := ah n1 1
 have q1 : w.heap.size + 1 < W0.heap.size := by omega
 have Nf := ax n1 0
 have Nc := ax n1 1
 have NR := Lib.hid n1
 clear n0 n1
 refine ((aa qg) _).mono ?_
 rintro e w3 ⟨rfl, hb⟩
 have hbw := dh (w := W0) bem hb
 obtain ⟨hc, hfz⟩ := fo hbw
 go_wp2_with fail
 refine ((aa HS2) _).mono ?_
 rintro e w4 ⟨rfl, hb⟩
 have hbw := dh (w := W0) bem hb
 obtain ⟨hc, hfz⟩ := fo hbw
 have ku : Below w.heap.size w w4 := bz hw0 hbw
 go_wp2_with fail
 exact bodyPost_ret (v := .tuple #[.agg #[.int .i64 0, .int .i64 0], .int .i64 3]) (by simp [results, Tryz.results69, go_sem, hc, yx, yw, q1]) rfl
  ⟨rfl, ku.grown (mg _ _ _ _) ku.size (fun k hk => by injection hk with hk; omega)⟩
theorem azm (s1 : Int) (dw : Bool) (A1 : Option Addr) (c1 : Nat) (l1 : List Nat) (z1 : Int) (s2 : Int) (di : Bool) (A2 : Option Addr) (c2 : Nat) (l2 : List Nat) (z2 : Int) (w : World) (h1 : gu w s1 dw A1 c1 l1 z1) (h2 : gu w s2 di A2 c2 l2 z2) (a1 : l1.length = 0) (a2 : l2.length = 0) (g1 : s1 < -1000000000000) :
  Calls Tryz.prog 69 #[(Value.agg #[.int .i64 s1, .bool dw, .slice A1 l1.length c1, .int .i64 s2, .bool di, .slice A2 l2.length c2])] w fun e w' => e = .returned (.tuple #[.agg #[.int .i64 0, .int .i64 0], .int .i64 3]) ∧ Below w.heap.size w w' := by
 have qg := hide (fun W => zu s1 dw A1 c1 l1.length W)
 have HS2 := hide (fun W => zu s2 di A2 c2 l2.length W)
 rw [decide_eq_true a1] at qg
 rw [decide_eq_true a2] at HS2
 have d1 : decide (s1 < -1000000000000) = true := decide_eq_true om
 clear a1 a2 h1 h2 g1
 go_enter Tryz.func69, Tryz.ntmps69
 go_wp2_with fail
 obtain ⟨n0, n1, hsz, hw0⟩ := ve w (.cells #[.int .i64 s1, .bool dw, .slice A1 l1.length c1, .int .i64 s2, .bool di, .slice A2 l2.length c2] 79) (.cells #[.int .i64 0, .int .i64 0] 23)
 generalize ((w.alloc (.cells #[.int .i64 s1, .bool dw, .slice A1 l1.length c1, .int .i64 s2, .bool di, .slice A2 l2.length c2] 79)).alloc (.cells #[.int .i64 0, .int .i64 0] 23)) = W0 at *
 have wm : W0.cell? ⟨w.heap.size, 0, none⟩ = some (.int .i64 s1) := ah n0 0
 have wh : W0.cell? ⟨w.heap.size, 1, none⟩ = some (.bool dw) := ah n0 1
 have zm : W0.cell? ⟨w.heap.size, 2, none⟩ = some (.slice A1 l1.length c1) := ah n0 2
 have Bz : W0.cell? ⟨w.heap.size, 3, none⟩ = some (.int .i64 s2) := ah n0 3
 have De : W0.cell? ⟨w.heap.size, 4, none⟩ = some (.bool di) := ah n0 4
 have Dc : W0.cell? ⟨w.heap.size, 5, none⟩ = some (.slice A2 l2.length c2) := ah n0 5
 have q0 : w.heap.size < W0.heap.size := by omega
 have yx : W0.cell? ⟨w.heap.size + 1, 0, none⟩ = some (.int .i64 0) := ah n1 0
 have yw : W0.cell? ⟨w.heap.size + 1, 1, none⟩ = some (.int .i64 0) := ah n1 1
 have q1 : w.heap.size + 1 < W0.heap.size := by omega
 have Nf := ax n1 0
 have Nc := ax n1 1
 have NR := Lib.hid n1
 clear n0 n1
 refine ((aa qg) _).mono ?_
 rintro e w3 ⟨rfl, hb⟩
 have hbw := dh (w := W0) bem hb
 obtain ⟨hc, hfz⟩ := fo hbw
 go_wp2_with fail
 refine ((aa HS2) _).mono ?_
 rintro e w4 ⟨rfl, hb⟩
 have hbw := dh (w := W0) bem hb
 obtain ⟨hc, hfz⟩ := fo hbw
 have ku : Below w.heap.size w w4 := bz hw0 hbw
 go_wp2_with fail
 exact bodyPost_ret (v := .tuple #[.agg #[.int .i64 0, .int .i64 0], .int .i64 3]) (by simp [results, Tryz.results69, go_sem, hc, yx, yw, q1]) rfl
  ⟨rfl, ku.grown (mg _ _ _ _) ku.size (fun k hk => by injection hk with hk; omega)⟩
theorem azn (s1 : Int) (dw : Bool) (A1 : Option Addr) (c1 : Nat) (l1 : List Nat) (z1 : Int) (s2 : Int) (di : Bool) (A2 : Option Addr) (c2 : Nat) (l2 : List Nat) (z2 : Int) (w : World) (h1 : gu w s1 dw A1 c1 l1 z1) (h2 : gu w s2 di A2 c2 l2 z2) (a1 : l1.length = 0) (a2 : l2.length = 0) (g1 : 1000000000000 < s1) :
  Calls Tryz.prog 69 #[(Value.agg #[.int .i64 s1, .bool dw, .slice A1 l1.length c1, .int .i64 s2, .bool di, .slice A2 l2.length c2])] w fun e w' => e = .returned (.tuple #[.agg #[.int .i64 0, .int .i64 0], .int .i64 3]) ∧ Below w.heap.size w w' := by
 have qg := hide (fun W => zu s1 dw A1 c1 l1.length W)
 have HS2 := hide (fun W => zu s2 di A2 c2 l2.length W)
 rw [decide_eq_true a1] at qg
 rw [decide_eq_true a2] at HS2
 have d1 : decide (s1 < -1000000000000) = false := decide_eq_false om
 have d2 : decide (1000000000000 < s1) = true := decide_eq_true om
 clear a1 a2 h1 h2 g1
 go_enter Tryz.func69, Tryz.ntmps69
 go_wp2_with fail
 obtain ⟨n0, n1, hsz, hw0⟩ := ve w (.cells #[.int .i64 s1, .bool dw, .slice A1 l1.length c1, .int .i64 s2, .bool di, .slice A2 l2.length c2] 79) (.cells #[.int .i64 0, .int .i64 0] 23)
 generalize ((w.alloc (.cells #[.int .i64 s1, .bool dw, .slice A1 l1.length c1, .int .i64 s2, .bool di, .slice A2 l2.length c2] 79)).alloc (.cells #[.int .i64 0, .int .i64 0] 23)) = W0 at *
 have wm : W0.cell? ⟨w.heap.size, 0, none⟩ = some (.int .i64 s1) := ah n0 0
 have wh : W0.cell? ⟨w.heap.size, 1, none⟩ = some (.bool dw) := ah n0 1
 have zm : W0.cell? ⟨w.heap.size, 2, none⟩ = some (.slice A1 l1.length c1) := ah n0 2
 have Bz : W0.cell? ⟨w.heap.size, 3, none⟩ = some (.int .i64 s2) := ah n0 3
 have De : W0.cell? ⟨w.heap.size, 4, none⟩ = some (.bool di) := ah n0 4
 have Dc : W0.cell? ⟨w.heap.size, 5, none⟩ = some (.slice A2 l2.length c2) := ah n0 5
 have q0 : w.heap.size < W0.heap.size := by omega
 have yx : W0.cell? ⟨w.heap.size + 1, 0, none⟩ = some (.int .i64 0) := ah n1 0
 have yw : W0.cell? ⟨w.heap.size + 1, 1, none⟩ = some (.int .i64 0) := ah n1 1
 have q1 : w.heap.size + 1 < W0.heap.size := by omega
 have Nf := ax n1 0
 have Nc := ax n1 1
 have NR := Lib.hid n1
 clear n0 n1
 refine ((aa qg) _).mono ?_
 rintro e w3 ⟨rfl, hb⟩
 have hbw := dh (w := W0) bem hb
 obtain ⟨hc, hfz⟩ := fo hbw
 go_wp2_with fail
 refine ((aa HS2) _).mono ?_
 rintro e w4 ⟨rfl, hb⟩
 have hbw := dh (w := W0) bem hb
 obtain ⟨hc, hfz⟩ := fo hbw
 have ku : Below w.heap.size w w4 := bz hw0 hbw
 go_wp2_with fail
 exact bodyPost_ret (v := .tuple #[.agg #[.int .i64 0, .int .i64 0], .int .i64 3]) (by simp [results, Tryz.results69, go_sem, hc, yx, yw, q1]) rfl
  ⟨rfl, ku.grown (mg _ _ _ _) ku.size (fun k hk => by injection hk with hk; omega)⟩
theorem atn (s1 : Int) (dw : Bool) (A1 : Option Addr) (c1 : Nat) (l1 : List Nat) (z1 : Int) (s2 : Int) (di : Bool) (A2 : Option Addr) (c2 : Nat) (l2 : List Nat) (z2 : Int) (w : World) (h1 : gu w s1 dw A1 c1 l1 z1) (h2 : gu w s2 di A2 c2 l2 z2) (a1 : l1.length = 0) (a2 : l2.length = 0) (g1 : ¬ s1 < -1000000000000) (g2 : ¬ 1000000000000 < s1) (g3 : 1000000000000 < s2) :
  Calls Tryz.prog 69 #[(Value.agg #[.int .i64 s1, .bool dw, .slice A1 l1.length c1, .int .i64 s2, .bool di, .slice A2 l2.length c2])] w fun e w' => e = .returned (.tuple #[.agg #[.int .i64 0, .int .i64 0], .int .i64 3]) ∧ Below w.heap.size w w' := by
 have qg := hide (fun W => zu s1 dw A1 c1 l1.length W)
 have HS2 := hide (fun W => zu s2 di A2 c2 l2.length W)
 rw [decide_eq_true a1] at qg
 rw [decide_eq_true a2] at HS2
 have d1 : decide (s1 < -1000000000000) = false := decide_eq_false om
 have d2 : decide (1000000000000 < s1) = false := decide_eq_false om
 have d3 : decide (1000000000000 < s2) = true := decide_eq_true om
 clear a1 a2 h1 h2 g1 g2 g3
 go_enter Tryz.func69, Tryz.ntmps69
 go_wp2_with fail
 obtain ⟨n0, n1, hsz, hw0⟩ := ve w (.cells #[.int .i64 s1, .bool dw, .slice A1 l1.length c1, .int .i64 s2, .bool di, .slice A2 l2.length c2] 79) (.cells #[.int .i64 0, .int .i64 0] 23)
 generalize ((w.alloc (.cells #[.int .i64 s1, .bool dw, .slice A1 l1.length c1, .int .i64 s2, .bool di, .slice A2 l2.length c2] 79)).alloc (.cells #[.int .i64 0, .int .i64 0] 23)) = W0 at *
 have wm : W0.cell? ⟨w.heap.size, 0, none⟩ = some (.int .i64 s1) := ah n0 0
 have wh : W0.cell? ⟨w.heap.size, 1, none⟩ = some (.bool dw) := ah n0 1
 have zm : W0.cell? ⟨w.heap.size, 2, none⟩ = some (.slice A1 l1.length c1) := ah n0 2
 have Bz : W0.cell? ⟨w.heap.size, 3, none⟩ = some (.int .i64 s2) := ah n0 3
 have De : W0.cell? ⟨w.heap.size, 4, none⟩ = some (.bool di) := ah n0 4
 have Dc : W0.cell? ⟨w.heap.size, 5, none⟩ = some (.slice A2 l2.length c2) := ah n0 5
 have q0 : w.heap.size < W0.heap.size := by omega
 have yx : W0.cell? ⟨w.heap.size + 1, 0, none⟩ = some (.int .i64 0) := ah n1 0
 have yw : W0.cell? ⟨w.heap.size + 1, 1, none⟩ = some (.int .i64 0) := ah n1 1
 have q1 : w.heap.size + 1 < W0.heap.size := by omega
 have Nf := ax n1 0
 have Nc := ax n1 1
 have NR := Lib.hid n1
 clear n0 n1
 refine ((aa qg) _).mono ?_
 rintro e w3 ⟨rfl, hb⟩
 have hbw := dh (w := W0) bem hb
 obtain ⟨hc, hfz⟩ := fo hbw
 go_wp2_with fail
 refine ((aa HS2) _).mono ?_
 rintro e w4 ⟨rfl, hb⟩
 have hbw := dh (w := W0) bem hb
 obtain ⟨hc, hfz⟩ := fo hbw
 have ku : Below w.heap.size w w4 := bz hw0 hbw
 go_wp2_with fail
 exact bodyPost_ret (v := .tuple #[.agg #[.int .i64 0, .int .i64 0], .int .i64 3]) (by simp [results, Tryz.results69, go_sem, hc, yx, yw, q1]) rfl
  ⟨rfl, ku.grown (mg _ _ _ _) ku.size (fun k hk => by injection hk with hk; omega)⟩
theorem azl (s1 : Int) (dw : Bool) (A1 : Option Addr) (c1 : Nat) (l1 : List Nat) (z1 : Int) (s2 : Int) (di : Bool) (A2 : Option Addr) (c2 : Nat) (l2 : List Nat) (z2 : Int) (w : World) (h1 : gu w s1 dw A1 c1 l1 z1) (h2 : gu w s2 di A2 c2 l2 z2) (a1 : l1.length = 0) (a2 : l2.length = 0) (g1 : ¬ s1 < -1000000000000) (g2 : ¬ 1000000000000 < s1) (g3 : ¬ 1000000000000 < s2) :
  Calls Tryz.prog 69 #[(Value.agg #[.int .i64 s1, .bool dw, .slice A1 l1.length c1, .int .i64 s2, .bool di, .slice A2 l2.length c2])] w fun e w' => e = .returned (.tuple #[.agg #[.int .i64 s1, .int .i64 s2], .int .i64 0]) ∧ Below w.heap.size w w' := by
 have qg := hide (fun W => zu s1 dw A1 c1 l1.length W)
 have HS2 := hide (fun W => zu s2 di A2 c2 l2.length W)
 rw [decide_eq_true a1] at qg
 rw [decide_eq_true a2] at HS2
 have d1 : decide (s1 < -1000000000000) = false := decide_eq_false om
 have d2 : decide (1000000000000 < s1) = false := decide_eq_false om
 have d3 : decide (1000000000000 < s2) = false := decide_eq_false om
 clear a1 a2 h1 h2 g1 g2 g3
 go_enter Tryz.func69, Tryz.ntmps69
 go_wp2_with fail
 obtain ⟨n0, n1, hsz, hw0⟩ := ve w (.cells #[.int .i64 s1, .bool dw, .slice A1 l1.length c1, .int .i64 s2, .bool di, .slice A2 l2.length c2] 79) (.cells #[.int .i64 0, .int .i64 0] 23)
 generalize ((w.alloc (.cells #[.int .i64 s1, .bool dw, .slice A1 l1.length c1, .int .i64 s2, .bool di, .slice A2 l2.length c2] 79)).alloc (.cells #[.int .i64 0, .int .i64 0] 23)) = W0 at *
 have wm : W0.cell? ⟨w.heap.size, 0, none⟩ = some (.int .i64 s1) := ah n0 0
 have wh : W0.cell? ⟨w.heap.size, 1, none⟩ = some (.bool dw) := ah n0 1
 have zm : W0.cell? ⟨w.heap.size, 2, none⟩ = some (.slice A1 l1.length c1) := ah n0 2
 have Bz : W0.cell? ⟨w.heap.size, 3, none⟩ = some (.int .i64 s2) := ah n0 3
 have De : W0.cell? ⟨w.heap.size, 4, none⟩ = some (.bool di) := ah n0 4
 have Dc : W0.cell? ⟨w.heap.size, 5, none⟩ = some (.slice A2 l2.length c2) := ah n0 5
 have q0 : w.heap.size < W0.heap.size := by omega
 have yx : W0.cell? ⟨w.heap.size + 1, 0, none⟩ = some (.int .i64 0) := ah n1 0
 have yw : W0.cell? ⟨w.heap.size + 1, 1, none⟩ = some (.int .i64 0) := ah n1 1
 have q1 : w.heap.size + 1 < W0.heap.size := by omega
 have Nf := ax n1 0
 have Nc := ax n1 1
 have NR := Lib.hid n1
 clear n0 n1
 refine ((aa qg) _).mono ?_
 rintro e w3 ⟨rfl, hb⟩
 have hbw := dh (w := W0) bem hb
 obtain ⟨hc, hfz⟩ := fo hbw
 go_wp2_with fail
 refine ((aa HS2) _).mono ?_
 rintro e w4 ⟨rfl, hb⟩
 have hbw := dh (w := W0) bem hb
 obtain ⟨hc, hfz⟩ := fo hbw
 have ku : Below w.heap.size w w4 := bz hw0 hbw
 go_wp2_with fail
 exact bodyPost_ret (v := .tuple #[.agg #[.int .i64 s1, .int .i64 s2], .int .i64 0]) (by simp [results, Tryz.results69, go_sem, hc, yx, yw, q1]) rfl
  ⟨rfl, ku.grown (mg _ _ _ _) ku.size (fun k hk => by injection hk with hk; omega)⟩

theorem Xg (s1 : Int) (dw : Bool) (A1 : Option Addr) (c1 : Nat) (l1 : List Nat) (z1 : Int) (s2 : Int) (di : Bool) (A2 : Option Addr) (c2 : Nat) (l2 : List Nat) (z2 : Int) (w : World) (h1 : gu w s1 dw A1 c1 l1 z1) (h2 : gu w s2 di A2 c2 l2 z2) (q : Rat) (e1 : z1 = q.num) (e2 : z2 = (q.den : Int)) :
  Calls Tryz.prog 69 #[(Value.agg #[.int .i64 s1, .bool dw, .slice A1 l1.length c1, .int .i64 s2, .bool di, .slice A2 l2.length c2])] w fun e w' => e = .returned (.tuple #[.agg #[.int .i64 (Wd.told q).n, .int .i64 (Wd.told q).d], .int .i64 (Wd.told q).e]) ∧ Below w.heap.size w w' := by
 have hden := q.den_pos
 have big : ∀ (l : List Nat) (s : Int) (neg : Bool) (A : Option Addr) (c : Nat) (z : Int), gu w s neg A c l z → ¬ l.length = 0 → 9223372036854775808 ≤ z.natAbs := fun l s neg A c z h a => by
  rcases h.form with ⟨x, _⟩ | ⟨_, _, _, _, x⟩
  ·
   exact absurd x a
  ·
   rwa [vv] at x
 have large : ∀ P : Prop, ¬ Wd.fits q → (Wd.told q) = ⟨0, 0, 3⟩ := fun _ h => by unfold Wd.told; rw [if_neg h]
 by_cases a1 : l1.length = 0
 ·
  obtain ⟨x1, _, _⟩ := h1.Aq a1
  by_cases a2 : l2.length = 0
  ·
   obtain ⟨x2, _, _⟩ := h2.Aq a2
   by_cases g1 : s1 < -1000000000000
   ·
    rw [large True (fun hf => by have := hf.1; rw [Wd.Ow] at this; omega)]; exact azm s1 dw A1 c1 l1 z1 s2 di A2 c2 l2 z2 w h1 h2 a1 a2 g1
   by_cases g2 : 1000000000000 < s1
   ·
    rw [large True (fun hf => by have := hf.1; rw [Wd.Ow] at this; omega)]; exact azn s1 dw A1 c1 l1 z1 s2 di A2 c2 l2 z2 w h1 h2 a1 a2 g2
   by_cases g3 : 1000000000000 < s2
   ·
    rw [large True (fun hf => by have := hf.2; rw [Wd.Ow] at this; omega)]; exact atn s1 dw A1 c1 l1 z1 s2 di A2 c2 l2 z2 w h1 h2 a1 a2 g1 g2 g3
   have hf : Wd.fits q := by unfold Wd.fits; rw [Wd.Ow]; omega
   have ht : Wd.told q = ⟨s1, s2, 0⟩ := by unfold Wd.told; rw [if_pos hf, x1, x2, e1, e2]
   rw [ht]
   exact azl s1 dw A1 c1 l1 z1 s2 di A2 c2 l2 z2 w h1 h2 a1 a2 g1 g2 g3
  ·
   have := big _ _ _ _ _ _ h2 a2
   rw [large True (fun hf => by have := hf.2; rw [Wd.Ow] at this; omega)]; exact apb s1 dw A1 c1 l1 z1 s2 di A2 c2 l2 z2 w h1 h2 a1 a2
 ·
  have := big _ _ _ _ _ _ h1 a1
  rw [large True (fun hf => by have := hf.1; rw [Wd.Ow] at this; omega)]; exact apc s1 dw A1 c1 l1 z1 s2 di A2 c2 l2 z2 w h1 h2 a1

end Go.Proofs.YtfgeaakhlcaibaaGreatDoor
