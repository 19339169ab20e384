/- Texts beneath a law of layer 1. -/
import Derived.Test.YtfgeaakhlcaibaaGreatDoorDa6
set_option maxRecDepth 100000
set_option maxHeartbeats 16000000
namespace Go.Proofs.YtfgeaakhlcaibaaGreatDoor
open Go.RowKit

theorem Xq (s1 : Int) (cz : Bool) (A1 : Option Addr) (c1 : Nat) (l1 : List Nat) (z1 : Int) (s2 : Int) (cu : Bool) (A2 : Option Addr) (c2 : Nat) (l2 : List Nat) (z2 : Int) (w : World)
  (h1 : fw w s1 cz A1 c1 l1 z1) (h2 : fw w s2 cu A2 c2 l2 z2) (hl1 : l1.length ≤ lim) (hl2 : l2.length ≤ lim) :
  Calls Tryz.prog 147 #[.agg #[.int .i64 s1, .bool cz, .slice A1 l1.length c1], .agg #[.int .i64 s2, .bool cu, .slice A2 l2.length c2]] w fun e w' => Be w (z1 * z2) e w' := by
 have nz := hide (fun W => qh s1 cz A1 c1 l1.length W)
 have HS2 := hide (fun W => qh s2 cu A2 c2 l2.length W)
 have hz := aew z1 z2
 have Qd : ∀ (A5 A6 : Option Addr) (c5 c6 : Nat) (l5 l6 : List Nat) (W : World), jy W A5 c5 l5 z1.natAbs → jy W A6 c6 l6 z2.natAbs → l5.length + l6.length ≤ 35184372088832 := fun _ _ _ _ _ _ _ g1 g2 => by
  have e1 := g1.len h1.Rw
  have e2 := g2.len h2.Rw
  rw [zo] at hl1 hl2
  omega
 have G1 : ∀ W0, Below w.heap.size w W0 → Hid (∀ W, Below W0.heap.size W0 W → Calls Tryz.prog 159 #[.agg #[.int .i64 s1, .bool cz, .slice A1 l1.length c1]] W fun e w' => e = .returned (.int .i64 (qi z1)) ∧ Below W.heap.size W w') := fun W0 h0 W hW => zg s1 cz A1 c1 l1 z1 W (fw.below h1 (ay h0 hW))
 have G2 : ∀ W0, Below w.heap.size w W0 → Hid (∀ W, Below W0.heap.size W0 W → Calls Tryz.prog 159 #[.agg #[.int .i64 s2, .bool cu, .slice A2 l2.length c2]] W fun e w' => e = .returned (.int .i64 (qi z2)) ∧ Below W.heap.size W w') := fun W0 h0 W hW => zg s2 cu A2 c2 l2 z2 W (fw.below h2 (ay h0 hW))
 have B1 : ∀ W0, Below w.heap.size w W0 → Hid (∀ W, Below W0.heap.size W0 W → Calls Tryz.prog 191 #[.agg #[.int .i64 s1, .bool cz, .slice A1 l1.length c1]] W fun e w' => Es W z1.natAbs e w') := fun W0 h0 W hW => Du s1 cz A1 c1 l1 z1 W (fw.below h1 (ay h0 hW))
 have B2 : ∀ W0, Below w.heap.size w W0 → Hid (∀ W, Below W0.heap.size W0 W → Calls Tryz.prog 191 #[.agg #[.int .i64 s2, .bool cu, .slice A2 l2.length c2]] W fun e w' => Es W z2.natAbs e w') := fun W0 h0 W hW => Du s2 cu A2 c2 l2 z2 W (fw.below h2 (ay h0 hW))
 have ho1 : -1 ≤ qi z1 * qi z2 ∧ qi z1 * qi z2 ≤ 1 := by unfold qi; (repeat' split) <;> omega
 have Rs := h1.bounds
 have Rq := h2.bounds
 have hsz1 : l1.length = 0 → s1.natAbs = z1.natAbs ∧ z1.natAbs < Iq := fun h => by obtain ⟨e, _, e3⟩ := h1.Ae h; rw [e]; exact ⟨rfl, e3⟩
 have hsz2 : l2.length = 0 → s2.natAbs = z2.natAbs ∧ z2.natAbs < Iq := fun h => by obtain ⟨e, _, e3⟩ := h2.Ae h; rw [e]; exact ⟨rfl, e3⟩
 have Z1 := hide (fun W => Jh s1 Rs.1 Rs.2 W)
 have Z2 := hide (fun W => Jh s2 Rq.1 Rq.2 W)
 obtain ⟨m1, hm1⟩ : ∃ o, o = z1.natAbs := ⟨_, rfl⟩
 obtain ⟨m2, hm2⟩ : ∃ o, o = z2.natAbs := ⟨_, rfl⟩
 obtain ⟨o1, agu⟩ : ∃ o, o = qi z1 := ⟨_, rfl⟩
 obtain ⟨o2, agt⟩ : ∃ o, o = qi z2 := ⟨_, rfl⟩
 rw [← hm1] at B1 Qd hz hsz1
 rw [← hm2] at B2 Qd hz hsz2
 rw [← agu] at G1 hz ho1
 rw [← agt] at G2 hz ho1
 obtain ⟨op, hop⟩ : ∃ o, o = o1 * o2 := ⟨_, rfl⟩
 have e1 : IntKind.i64.wrap (o1 * o2) = op := by rw [hop]; exact IntWalk.i64_in _ om
 have e1' : wrap64 (o1 * o2) = op := by rw [hop]; exact IntWalk.wrap64_in _ om
 rw [← hop] at hz
 obtain ⟨ng, hng⟩ : ∃ b, b = decide (op < 0) := ⟨_, rfl⟩
 rw [← hng] at hz
 obtain ⟨Z, hZ⟩ : ∃ o, o = z1 * z2 := ⟨_, rfl⟩
 rw [← hZ] at hz ⊢
 have HZ := Lib.hid hz.symm
 have Ff := hide G1; have HG2 := hide G2; have HB1 := hide B1; have HB2 := hide B2; have HLEN := hide Qd
 have ngE := hng.symm
 clear hm1 hm2 agu agt ho1 hop hng hz hZ G1 G2 B1 B2 h1 h2 Rs Rq Qd hl1 hl2
 by_cases hs : l1.length = 0 ∧ l2.length = 0
 ·
  obtain ⟨a1, a2⟩ := hs
  rw [decide_eq_true a1] at nz
  rw [decide_eq_true a2] at HS2
  obtain ⟨y1, y2⟩ := hsz1 a1
  obtain ⟨y3, y4⟩ := hsz2 a2
  rw [y1] at Z1
  rw [y3] at Z2
  have hB1 : m1 < dh := by have := y2; rw [uf] at this; rw [gm]; omega
  have hB2 : m2 < dh := by have := y4; rw [uf] at this; rw [gm]; omega
  obtain ⟨hi', hhi⟩ : ∃ t, t = m1 * m2 / dh := ⟨_, rfl⟩
  obtain ⟨lo, hlo⟩ : ∃ t, t = m1 * m2 % dh := ⟨_, rfl⟩
  have hM := Tm m1 m2 hB1 hB2
  rw [← hhi, ← hlo] at hM
  have HM := hide hM
  have Ii : lo < dh := by rw [hlo]; exact Nat.mod_lt _ (Nat.lt_trans Nat.zero_lt_one oh)
  have HW := hide (fun W => Qm ng lo Ii W)
  have Ai : hi' = 0 → lo = m1 * m2 := fun h => by
   have := Nat.div_add_mod (m1 * m2) dh
   rw [← hhi, ← hlo, h] at this
   omega
  by_cases hh : hi' = 0
  ·
   have hb0 : ((hi' : Int) == 0) = true := beq_iff_eq.2 om
   have hW' : ∀ W, Calls Tryz.prog 185 #[.bool ng, .int .u64 ((lo : Nat) : Int)] W fun e w' => Be W Z e w' := fun W => by
    have := (aa HW) W
    rw [Ai hh] at this ⊢
    rw [HZ.out]; exact this
   have HWW := hide hW'
   clear hW' HW Ai hh hlo hhi hM hB1 hB2 Ii y1 y2 y3 y4 hsz1 hsz2 a1 a2
   go_enter Tryz.func147, Tryz.ntmps147
   go_wp2_with fail
   obtain ⟨n1, n2, n3, hsz, hw0⟩ := ni w (.cells #[.int .i64 s1, .bool cz, .slice A1 l1.length c1] 77) (.cells #[.int .i64 s2, .bool cu, .slice A2 l2.length c2] 77) (.cells #[.int .i64 0, .bool false, .slice none 0 0] 77)
   generalize (((w.alloc (.cells #[.int .i64 s1, .bool cz, .slice A1 l1.length c1] 77)).alloc (.cells #[.int .i64 s2, .bool cu, .slice A2 l2.length c2] 77)).alloc (.cells #[.int .i64 0, .bool false, .slice none 0 0] 77)) = W0 at *
   have k1 := ag n1 0
   have k2 := ag n1 1
   have k3 := ag n1 2
   simp only [Array.getElem?_eq_getElem, ji, jh, jg] at k1 k2 k3
   have k4 := ag n2 0
   have k5 := ag n2 1
   have k6 := ag n2 2
   simp only [Array.getElem?_eq_getElem, ji, jh, jg] at k4 k5 k6
   have q0 : w.heap.size < W0.heap.size := by omega
   have q1 : w.heap.size + 1 < W0.heap.size := by omega
   have q2 : w.heap.size + 1 + 1 < W0.heap.size := by omega
   have k7 := ag n3 0
   have k8 := ag n3 1
   have k9 := ag n3 2
   simp only [Array.getElem?_eq_getElem, ji, jh, jg] at k7 k8 k9
   have f7 := ai n3 0
   have f8 := ai n3 1
   have f9 := ai n3 2
   have N3 := Lib.hid n3
   clear n3
   clear n1 n2
   have G1 := (aa Ff) W0 hw0; have G2 := (aa HG2) W0 hw0; have B1 := (aa HB1) W0 hw0; have B2 := (aa HB2) W0 hw0
   go_region_held3 (fun w' => w'.cell? ⟨w.heap.size, 0, none⟩ = some (.int .i64 s1) ∧ w'.cell? ⟨w.heap.size, 1, none⟩ = some (.bool cz) ∧ w'.cell? ⟨w.heap.size, 2, none⟩ = some (.slice A1 l1.length c1) ∧ w'.cell? ⟨w.heap.size + 1, 0, none⟩ = some (.int .i64 s2) ∧ w'.cell? ⟨w.heap.size + 1, 1, none⟩ = some (.bool cu) ∧ w'.cell? ⟨w.heap.size + 1, 2, none⟩ = some (.slice A2 l2.length c2)) ((first | exact ⟨(hc _ _ q0).trans k1, (hc _ _ q0).trans k2, (hc _ _ q0).trans k3, (hc _ _ q1).trans k4, (hc _ _ q1).trans k5, (hc _ _ q1).trans k6⟩ | exact ⟨k1, k2, k3, k4, k5, k6⟩)) (first | (go_at_call_of 159 (Value.agg #[.int .i64 s1, .bool cz, .slice A1 l1.length c1]); refine ((aa G1) _ bem).mono ?_; rintro e w' ⟨rfl, hb⟩; have hbw := bz (w := W0) bem hb; obtain ⟨hc, hfz⟩ := fe hbw) | (go_at_call_of 159 (Value.agg #[.int .i64 s2, .bool cu, .slice A2 l2.length c2]); refine ((aa G2) _ bem).mono ?_; rintro e w' ⟨rfl, hb⟩; have hbw := bz (w := W0) bem hb; obtain ⟨hc, hfz⟩ := fe hbw))
   go_wp2_with fail
   refine ((aa nz) _).mono ?_
   rintro e w1 ⟨rfl, hw1⟩
   have rf := ma (w := W0) bem hw1
   obtain ⟨hc, hfz⟩ := fe rf
   clear hw1
   go_wp2_with fail
   refine ((aa HS2) _).mono ?_
   rintro e w2 ⟨rfl, hw2⟩
   have hbw2 := ma (w := W0) bem hw2
   obtain ⟨hc, hfz⟩ := fe hbw2
   clear hw2
   go_wp2_with fail
   go_region_held3 (fun w' => w'.cell? ⟨w.heap.size, 0, none⟩ = some (.int .i64 s1) ∧ w'.cell? ⟨w.heap.size, 1, none⟩ = some (.bool cz) ∧ w'.cell? ⟨w.heap.size, 2, none⟩ = some (.slice A1 l1.length c1) ∧ w'.cell? ⟨w.heap.size + 1, 0, none⟩ = some (.int .i64 s2) ∧ w'.cell? ⟨w.heap.size + 1, 1, none⟩ = some (.bool cu) ∧ w'.cell? ⟨w.heap.size + 1, 2, none⟩ = some (.slice A2 l2.length c2)) ((first | exact ⟨(hc _ _ q0).trans k1, (hc _ _ q0).trans k2, (hc _ _ q0).trans k3, (hc _ _ q1).trans k4, (hc _ _ q1).trans k5, (hc _ _ q1).trans k6⟩ | exact ⟨k1, k2, k3, k4, k5, k6⟩)) (first | (go_at_call_of 186 (Value.int .i64 s1); refine ((aa Z1) _).mono ?_; rintro e w' ⟨rfl, Kl⟩; subst Kl) | (go_at_call_of 186 (Value.int .i64 s2); refine ((aa Z2) _).mono ?_; rintro e w' ⟨rfl, Kl⟩; subst Kl) | (go_at_call 189; refine ((aa HM) _).mono ?_; rintro e w' ⟨rfl, Kl⟩; subst Kl))
   go_wp2_with fail
   refine ((aa HWW) _).mono ?_
   rintro e w' ⟨s, ny, A', cap', l', rfl, hf, hb⟩
   have hbw := bz (w := W0) bem hb
   obtain ⟨hc, hfz⟩ := fe hbw
   have hblk : w'.heap[w.heap.size + 1 + 1]? = some (.cells #[.int .i64 0, .bool false, .slice none 0 0] 77 (0, 0)) := (hbw.block _ q2).trans N3.out
   have ky := Lib.hid hblk
   have jq : Below w.heap.size w w' := ay hw0 hbw
   clear hblk
   go_wp2_with fail
   exact bodyPost_ret (v := .agg #[.int .i64 s, .bool ny, .slice A' l'.length cap']) (by simp [results, Tryz.results147, go_sem, hc, k7, k8, k9, q2]) rfl
    ⟨s, ny, A', cap', l', rfl, hf.upto ky.out (qw _ _ _ _ _) (il _ _ _ _ _), jq.grown (il _ _ _ _ _) jq.size (fun k hk => by injection hk with hk; omega)⟩
  ·
   have hb0 : ((hi' : Int) == 0) = false := beq_eq_false_iff_ne.2 om
   clear HW Ai hh hlo hhi hM hB1 hB2 Ii y1 y2 y3 y4 hsz1 hsz2 a1 a2
   go_enter Tryz.func147, Tryz.ntmps147
   go_wp2_with fail
   obtain ⟨n1, n2, n3, hsz, hw0⟩ := ni w (.cells #[.int .i64 s1, .bool cz, .slice A1 l1.length c1] 77) (.cells #[.int .i64 s2, .bool cu, .slice A2 l2.length c2] 77) (.cells #[.int .i64 0, .bool false, .slice none 0 0] 77)
   generalize (((w.alloc (.cells #[.int .i64 s1, .bool cz, .slice A1 l1.length c1] 77)).alloc (.cells #[.int .i64 s2, .bool cu, .slice A2 l2.length c2] 77)).alloc (.cells #[.int .i64 0, .bool false, .slice none 0 0] 77)) = W0 at *
   have k1 := ag n1 0
   have k2 := ag n1 1
   have k3 := ag n1 2
   simp only [Array.getElem?_eq_getElem, ji, jh, jg] at k1 k2 k3
   have k4 := ag n2 0
   have k5 := ag n2 1
   have k6 := ag n2 2
   simp only [Array.getElem?_eq_getElem, ji, jh, jg] at k4 k5 k6
   have q0 : w.heap.size < W0.heap.size := by omega
   have q1 : w.heap.size + 1 < W0.heap.size := by omega
   have q2 : w.heap.size + 1 + 1 < W0.heap.size := by omega
   have k7 := ag n3 0
   have k8 := ag n3 1
   have k9 := ag n3 2
   simp only [Array.getElem?_eq_getElem, ji, jh, jg] at k7 k8 k9
   have f7 := ai n3 0
   have f8 := ai n3 1
   have f9 := ai n3 2
   have N3 := Lib.hid n3
   clear n3
   clear n1 n2
   have G1 := (aa Ff) W0 hw0; have G2 := (aa HG2) W0 hw0; have B1 := (aa HB1) W0 hw0; have B2 := (aa HB2) W0 hw0
   go_region_held3 (fun w' => w'.cell? ⟨w.heap.size, 0, none⟩ = some (.int .i64 s1) ∧ w'.cell? ⟨w.heap.size, 1, none⟩ = some (.bool cz) ∧ w'.cell? ⟨w.heap.size, 2, none⟩ = some (.slice A1 l1.length c1) ∧ w'.cell? ⟨w.heap.size + 1, 0, none⟩ = some (.int .i64 s2) ∧ w'.cell? ⟨w.heap.size + 1, 1, none⟩ = some (.bool cu) ∧ w'.cell? ⟨w.heap.size + 1, 2, none⟩ = some (.slice A2 l2.length c2)) ((first | exact ⟨(hc _ _ q0).trans k1, (hc _ _ q0).trans k2, (hc _ _ q0).trans k3, (hc _ _ q1).trans k4, (hc _ _ q1).trans k5, (hc _ _ q1).trans k6⟩ | exact ⟨k1, k2, k3, k4, k5, k6⟩)) (first | (go_at_call_of 159 (Value.agg #[.int .i64 s1, .bool cz, .slice A1 l1.length c1]); refine ((aa G1) _ bem).mono ?_; rintro e w' ⟨rfl, hb⟩; have hbw := bz (w := W0) bem hb; obtain ⟨hc, hfz⟩ := fe hbw) | (go_at_call_of 159 (Value.agg #[.int .i64 s2, .bool cu, .slice A2 l2.length c2]); refine ((aa G2) _ bem).mono ?_; rintro e w' ⟨rfl, hb⟩; have hbw := bz (w := W0) bem hb; obtain ⟨hc, hfz⟩ := fe hbw))
   go_wp2_with fail
   refine ((aa nz) _).mono ?_
   rintro e w1 ⟨rfl, hw1⟩
   have rf := ma (w := W0) bem hw1
   obtain ⟨hc, hfz⟩ := fe rf
   clear hw1
   go_wp2_with fail
   refine ((aa HS2) _).mono ?_
   rintro e w2 ⟨rfl, hw2⟩
   have hbw2 := ma (w := W0) bem hw2
   obtain ⟨hc, hfz⟩ := fe hbw2
   clear hw2
   go_wp2_with fail
   go_region_held3 (fun w' => w'.cell? ⟨w.heap.size, 0, none⟩ = some (.int .i64 s1) ∧ w'.cell? ⟨w.heap.size, 1, none⟩ = some (.bool cz) ∧ w'.cell? ⟨w.heap.size, 2, none⟩ = some (.slice A1 l1.length c1) ∧ w'.cell? ⟨w.heap.size + 1, 0, none⟩ = some (.int .i64 s2) ∧ w'.cell? ⟨w.heap.size + 1, 1, none⟩ = some (.bool cu) ∧ w'.cell? ⟨w.heap.size + 1, 2, none⟩ = some (.slice A2 l2.length c2)) ((first | exact ⟨(hc _ _ q0).trans k1, (hc _ _ q0).trans k2, (hc _ _ q0).trans k3, (hc _ _ q1).trans k4, (hc _ _ q1).trans k5, (hc _ _ q1).trans k6⟩ | exact ⟨k1, k2, k3, k4, k5, k6⟩)) (first | (go_at_call_of 186 (Value.int .i64 s1); refine ((aa Z1) _).mono ?_; rintro e w' ⟨rfl, Kl⟩; subst Kl) | (go_at_call_of 186 (Value.int .i64 s2); refine ((aa Z2) _).mono ?_; rintro e w' ⟨rfl, Kl⟩; subst Kl) | (go_at_call 189; refine ((aa HM) _).mono ?_; rintro e w' ⟨rfl, Kl⟩; subst Kl))
   go_wp2_with fail
   go_region_with (first | (go_at_call_of 191 (Value.agg #[.int .i64 s1, .bool cz, .slice A1 l1.length c1]); refine ((aa B1) _ bem).mono ?_; rintro e w' ⟨A5, cap5, l5, rfl, Ah, hb⟩; have hbw := bz (w := W0) bem hb; obtain ⟨hc, hfz⟩ := fe hbw) | (go_at_call_of 191 (Value.agg #[.int .i64 s2, .bool cu, .slice A2 l2.length c2]); refine ((aa B2) _ bem).mono ?_; rintro e w' ⟨A6, cap6, l6, rfl, mg, hb⟩; have jo := Ah.below hb; have hbw := bz (w := W0) bem hb; obtain ⟨hc, hfz⟩ := fe hbw) | (go_at_call 192; refine (abh A5 A6 cap5 cap6 l5 l6 m1 m2 _ (by exact jo) (by exact mg) ((aa HLEN) _ _ _ _ _ _ _ jo mg)).mono ?_; rintro e w' ⟨A7, uq, l7, rfl, uo, hb⟩; have hbw := bz (w := W0) bem hb; obtain ⟨hc, hfz⟩ := fe hbw) | (go_at_call 190; refine (xg ng A7 uq l7 (m1 * m2) _ (by exact uo)).mono ?_; rw [← HZ.out]; rintro e w' ⟨s, ny, A', cap', l', rfl, hf, hb⟩; have hbw := bz (w := W0) bem hb; obtain ⟨hc, hfz⟩ := fe hbw))
   all_goals
    have hblk : w'.heap[w.heap.size + 1 + 1]? = some (.cells #[.int .i64 0, .bool false, .slice none 0 0] 77 (0, 0)) := (hbw.block _ q2).trans N3.out
    have ky := Lib.hid hblk
    have jq : Below w.heap.size w w' := ay hw0 hbw
    clear hblk
    go_wp2_with fail
    exact bodyPost_ret (v := .agg #[.int .i64 s, .bool ny, .slice A' l'.length cap']) (by simp [results, Tryz.results147, go_sem, hc, k7, k8, k9, q2]) rfl
     ⟨s, ny, A', cap', l', rfl, hf.upto ky.out (qw _ _ _ _ _) (il _ _ _ _ _), jq.grown (il _ _ _ _ _) jq.size (fun k hk => by injection hk with hk; omega)⟩
 ·
  by_cases a1 : l1.length = 0
  ·
   have a2 : ¬ l2.length = 0 := fun h => hs ⟨a1, h⟩
   rw [decide_eq_true a1] at nz
   rw [decide_eq_false a2] at HS2
   clear hsz1 hsz2 hs a1 a2
   go_enter Tryz.func147, Tryz.ntmps147
   go_wp2_with fail
   obtain ⟨n1, n2, n3, hsz, hw0⟩ := ni w (.cells #[.int .i64 s1, .bool cz, .slice A1 l1.length c1] 77) (.cells #[.int .i64 s2, .bool cu, .slice A2 l2.length c2] 77) (.cells #[.int .i64 0, .bool false, .slice none 0 0] 77)
   generalize (((w.alloc (.cells #[.int .i64 s1, .bool cz, .slice A1 l1.length c1] 77)).alloc (.cells #[.int .i64 s2, .bool cu, .slice A2 l2.length c2] 77)).alloc (.cells #[.int .i64 0, .bool false, .slice none 0 0] 77)) = W0 at *
   have k1 := ag n1 0
   have k2 := ag n1 1
   have k3 := ag n1 2
   simp only [Array.getElem?_eq_getElem, ji, jh, jg] at k1 k2 k3
   have k4 := ag n2 0
   have k5 := ag n2 1
   have k6 := ag n2 2
   simp only [Array.getElem?_eq_getElem, ji, jh, jg] at k4 k5 k6
   have q0 : w.heap.size < W0.heap.size := by omega
   have q1 : w.heap.size + 1 < W0.heap.size := by omega
   have q2 : w.heap.size + 1 + 1 < W0.heap.size := by omega
   have k7 := ag n3 0
   have k8 := ag n3 1
   have k9 := ag n3 2
   simp only [Array.getElem?_eq_getElem, ji, jh, jg] at k7 k8 k9
   have f7 := ai n3 0
   have f8 := ai n3 1
   have f9 := ai n3 2
   have N3 := Lib.hid n3
   clear n3
   clear n1 n2
   have G1 := (aa Ff) W0 hw0; have G2 := (aa HG2) W0 hw0; have B1 := (aa HB1) W0 hw0; have B2 := (aa HB2) W0 hw0
   go_region_held3 (fun w' => w'.cell? ⟨w.heap.size, 0, none⟩ = some (.int .i64 s1) ∧ w'.cell? ⟨w.heap.size, 1, none⟩ = some (.bool cz) ∧ w'.cell? ⟨w.heap.size, 2, none⟩ = some (.slice A1 l1.length c1) ∧ w'.cell? ⟨w.heap.size + 1, 0, none⟩ = some (.int .i64 s2) ∧ w'.cell? ⟨w.heap.size + 1, 1, none⟩ = some (.bool cu) ∧ w'.cell? ⟨w.heap.size + 1, 2, none⟩ = some (.slice A2 l2.length c2)) ((first | exact ⟨(hc _ _ q0).trans k1, (hc _ _ q0).trans k2, (hc _ _ q0).trans k3, (hc _ _ q1).trans k4, (hc _ _ q1).trans k5, (hc _ _ q1).trans k6⟩ | exact ⟨k1, k2, k3, k4, k5, k6⟩)) (first | (go_at_call_of 159 (Value.agg #[.int .i64 s1, .bool cz, .slice A1 l1.length c1]); refine ((aa G1) _ bem).mono ?_; rintro e w' ⟨rfl, hb⟩; have hbw := bz (w := W0) bem hb; obtain ⟨hc, hfz⟩ := fe hbw) | (go_at_call_of 159 (Value.agg #[.int .i64 s2, .bool cu, .slice A2 l2.length c2]); refine ((aa G2) _ bem).mono ?_; rintro e w' ⟨rfl, hb⟩; have hbw := bz (w := W0) bem hb; obtain ⟨hc, hfz⟩ := fe hbw))
   go_wp2_with fail
   refine ((aa nz) _).mono ?_
   rintro e w1 ⟨rfl, hw1⟩
   have rf := ma (w := W0) bem hw1
   obtain ⟨hc, hfz⟩ := fe rf
   clear hw1
   go_wp2_with fail
   refine ((aa HS2) _).mono ?_
   rintro e w2 ⟨rfl, hw2⟩
   have hbw2 := ma (w := W0) bem hw2
   obtain ⟨hc, hfz⟩ := fe hbw2
   clear hw2
   go_wp2_with fail
   go_region_with (first | (go_at_call_of 191 (Value.agg #[.int .i64 s1, .bool cz, .slice A1 l1.length c1]); refine ((aa B1) _ bem).mono ?_; rintro e w' ⟨A5, cap5, l5, rfl, Ah, hb⟩; have hbw := bz (w := W0) bem hb; obtain ⟨hc, hfz⟩ := fe hbw) | (go_at_call_of 191 (Value.agg #[.int .i64 s2, .bool cu, .slice A2 l2.length c2]); refine ((aa B2) _ bem).mono ?_; rintro e w' ⟨A6, cap6, l6, rfl, mg, hb⟩; have jo := Ah.below hb; have hbw := bz (w := W0) bem hb; obtain ⟨hc, hfz⟩ := fe hbw) | (go_at_call 192; refine (abh A5 A6 cap5 cap6 l5 l6 m1 m2 _ (by exact jo) (by exact mg) ((aa HLEN) _ _ _ _ _ _ _ jo mg)).mono ?_; rintro e w' ⟨A7, uq, l7, rfl, uo, hb⟩; have hbw := bz (w := W0) bem hb; obtain ⟨hc, hfz⟩ := fe hbw) | (go_at_call 190; refine (xg ng A7 uq l7 (m1 * m2) _ (by exact uo)).mono ?_; rw [← HZ.out]; rintro e w' ⟨s, ny, A', cap', l', rfl, hf, hb⟩; have hbw := bz (w := W0) bem hb; obtain ⟨hc, hfz⟩ := fe hbw))
   all_goals
    have hblk : w'.heap[w.heap.size + 1 + 1]? = some (.cells #[.int .i64 0, .bool false, .slice none 0 0] 77 (0, 0)) := (hbw.block _ q2).trans N3.out
    have ky := Lib.hid hblk
    have jq : Below w.heap.size w w' := ay hw0 hbw
    clear hblk
    go_wp2_with fail
    exact bodyPost_ret (v := .agg #[.int .i64 s, .bool ny, .slice A' l'.length cap']) (by simp [results, Tryz.results147, go_sem, hc, k7, k8, k9, q2]) rfl
     ⟨s, ny, A', cap', l', rfl, hf.upto ky.out (qw _ _ _ _ _) (il _ _ _ _ _), jq.grown (il _ _ _ _ _) jq.size (fun k hk => by injection hk with hk; omega)⟩
  ·
   skip
   rw [decide_eq_false a1] at nz
   clear hsz1 hsz2 hs a1
   go_enter Tryz.func147, Tryz.ntmps147
   go_wp2_with fail
   obtain ⟨n1, n2, n3, hsz, hw0⟩ := ni w (.cells #[.int .i64 s1, .bool cz, .slice A1 l1.length c1] 77) (.cells #[.int .i64 s2, .bool cu, .slice A2 l2.length c2] 77) (.cells #[.int .i64 0, .bool false, .slice none 0 0] 77)
   generalize (((w.alloc (.cells #[.int .i64 s1, .bool cz, .slice A1 l1.length c1] 77)).alloc (.cells #[.int .i64 s2, .bool cu, .slice A2 l2.length c2] 77)).alloc (.cells #[.int .i64 0, .bool false, .slice none 0 0] 77)) = W0 at *
   have k1 := ag n1 0
   have k2 := ag n1 1
   have k3 := ag n1 2
   simp only [Array.getElem?_eq_getElem, ji, jh, jg] at k1 k2 k3
   have k4 := ag n2 0
   have k5 := ag n2 1
   have k6 := ag n2 2
   simp only [Array.getElem?_eq_getElem, ji, jh, jg] at k4 k5 k6
   have q0 : w.heap.size < W0.heap.size := by omega
   have q1 : w.heap.size + 1 < W0.heap.size := by omega
   have q2 : w.heap.size + 1 + 1 < W0.heap.size := by omega
   have k7 := ag n3 0
   have k8 := ag n3 1
   have k9 := ag n3 2
   simp only [Array.getElem?_eq_getElem, ji, jh, jg] at k7 k8 k9
   have f7 := ai n3 0
   have f8 := ai n3 1
   have f9 := ai n3 2
   have N3 := Lib.hid n3
   clear n3
   clear n1 n2
   have G1 := (aa Ff) W0 hw0; have G2 := (aa HG2) W0 hw0; have B1 := (aa HB1) W0 hw0; have B2 := (aa HB2) W0 hw0
   go_region_held3 (fun w' => w'.cell? ⟨w.heap.size, 0, none⟩ = some (.int .i64 s1) ∧ w'.cell? ⟨w.heap.size, 1, none⟩ = some (.bool cz) ∧ w'.cell? ⟨w.heap.size, 2, none⟩ = some (.slice A1 l1.length c1) ∧ w'.cell? ⟨w.heap.size + 1, 0, none⟩ = some (.int .i64 s2) ∧ w'.cell? ⟨w.heap.size + 1, 1, none⟩ = some (.bool cu) ∧ w'.cell? ⟨w.heap.size + 1, 2, none⟩ = some (.slice A2 l2.length c2)) ((first | exact ⟨(hc _ _ q0).trans k1, (hc _ _ q0).trans k2, (hc _ _ q0).trans k3, (hc _ _ q1).trans k4, (hc _ _ q1).trans k5, (hc _ _ q1).trans k6⟩ | exact ⟨k1, k2, k3, k4, k5, k6⟩)) (first | (go_at_call_of 159 (Value.agg #[.int .i64 s1, .bool cz, .slice A1 l1.length c1]); refine ((aa G1) _ bem).mono ?_; rintro e w' ⟨rfl, hb⟩; have hbw := bz (w := W0) bem hb; obtain ⟨hc, hfz⟩ := fe hbw) | (go_at_call_of 159 (Value.agg #[.int .i64 s2, .bool cu, .slice A2 l2.length c2]); refine ((aa G2) _ bem).mono ?_; rintro e w' ⟨rfl, hb⟩; have hbw := bz (w := W0) bem hb; obtain ⟨hc, hfz⟩ := fe hbw))
   go_wp2_with fail
   refine ((aa nz) _).mono ?_
   rintro e w1 ⟨rfl, hw1⟩
   have rf := ma (w := W0) bem hw1
   obtain ⟨hc, hfz⟩ := fe rf
   clear hw1
   go_wp2_with fail
   go_region_with (first | (go_at_call_of 191 (Value.agg #[.int .i64 s1, .bool cz, .slice A1 l1.length c1]); refine ((aa B1) _ bem).mono ?_; rintro e w' ⟨A5, cap5, l5, rfl, Ah, hb⟩; have hbw := bz (w := W0) bem hb; obtain ⟨hc, hfz⟩ := fe hbw) | (go_at_call_of 191 (Value.agg #[.int .i64 s2, .bool cu, .slice A2 l2.length c2]); refine ((aa B2) _ bem).mono ?_; rintro e w' ⟨A6, cap6, l6, rfl, mg, hb⟩; have jo := Ah.below hb; have hbw := bz (w := W0) bem hb; obtain ⟨hc, hfz⟩ := fe hbw) | (go_at_call 192; refine (abh A5 A6 cap5 cap6 l5 l6 m1 m2 _ (by exact jo) (by exact mg) ((aa HLEN) _ _ _ _ _ _ _ jo mg)).mono ?_; rintro e w' ⟨A7, uq, l7, rfl, uo, hb⟩; have hbw := bz (w := W0) bem hb; obtain ⟨hc, hfz⟩ := fe hbw) | (go_at_call 190; refine (xg ng A7 uq l7 (m1 * m2) _ (by exact uo)).mono ?_; rw [← HZ.out]; rintro e w' ⟨s, ny, A', cap', l', rfl, hf, hb⟩; have hbw := bz (w := W0) bem hb; obtain ⟨hc, hfz⟩ := fe hbw))
   all_goals
    have hblk : w'.heap[w.heap.size + 1 + 1]? = some (.cells #[.int .i64 0, .bool false, .slice none 0 0] 77 (0, 0)) := (hbw.block _ q2).trans N3.out
    have ky := Lib.hid hblk
    have jq : Below w.heap.size w w' := ay hw0 hbw
    clear hblk
    go_wp2_with fail
    exact bodyPost_ret (v := .agg #[.int .i64 s, .bool ny, .slice A' l'.length cap']) (by simp [results, Tryz.results147, go_sem, hc, k7, k8, k9, q2]) rfl
     ⟨s, ny, A', cap', l', rfl, hf.upto ky.out (qw _ _ _ _ _) (il _ _ _ _ _), jq.grown (il _ _ _ _ _) jq.size (fun k hk => by injection hk with hk; omega)⟩


structure Fr (Wp W : World) (b : Nat) : Prop where
 old : Wp.heap.size ≤ b
 zero : W.heap[b]? = some (.cells #[.int .i64 0, .bool false, .slice none 0 0] 77 (0, 0))
theorem lt_of_block {W : World} {b : Nat} {o : Obj} (h : W.heap[b]? = some o) : b < W.heap.size := by
 rcases Nat.lt_or_ge b W.heap.size with hlt | hge
 ·
  exact hlt
 ·
  rw [Array.getElem?_eq_none hge] at h; cases h
theorem Fr.lt {Wp W : World} {b : Nat} (h : Fr Wp W b) : b < W.heap.size := lt_of_block h.zero
theorem Fr.drew {Wp W : World} {b : Nat} (h : Fr Wp W b) : Fr Wp W.drew b := ⟨h.old, h.zero⟩
theorem Fr.drewN {Wp W : World} {b : Nat} {n : Nat} (h : Fr Wp W b) : Fr Wp (W.drewN n) b := ⟨h.old, h.zero⟩
theorem Fr.below {Wp W w' : World} {b : Nat} (h : Fr Wp W b) (hb : Below W.heap.size W w') : Fr Wp w' b := ⟨h.old, (hb.block _ h.lt).trans h.zero⟩
theorem Fr.new {Wp W : World} {b : Nat} (hb : Below Wp.heap.size Wp W) (e : b = W.heap.size) : Fr Wp (W.alloc (.cells #[.int .i64 0, .bool false, .slice none 0 0] 77 (0, 0))) b := by
 subst e; exact ⟨hb.size, heap_alloc_new W _⟩
structure Fr2 (Wp W : World) (b c : Nat) : Prop where
 one : Fr Wp W b
 two : Fr Wp W c
 ne : b ≠ c
theorem Fr2.drew {Wp W : World} {b c : Nat} (h : Fr2 Wp W b c) : Fr2 Wp W.drew b c := ⟨h.one.drew, h.two.drew, h.ne⟩
theorem Fr2.drewN {Wp W : World} {b c n : Nat} (h : Fr2 Wp W b c) : Fr2 Wp (W.drewN n) b c := ⟨h.one.drewN, h.two.drewN, h.ne⟩
theorem Fr2.below {Wp W w' : World} {b c : Nat} (h : Fr2 Wp W b c) (hb : Below W.heap.size W w') : Fr2 Wp w' b c := ⟨h.one.below hb, h.two.below hb, h.ne⟩
def Cs (w : World) (b : Nat) (z : Int) : Prop := ∃ s neg A cap l, w.heap[b]? = some (.cells #[.int .i64 s, .bool neg, .slice A (List.length l) cap] 77 (0, 0)) ∧ fw w s neg A cap l z
theorem Cs.below {w w' : World} {b : Nat} {z : Int} (h : Cs w b z) (hb : Below w.heap.size w w') : Cs w' b z := by
 obtain ⟨s, neg, A, cap, l, h1, h2⟩ := h
 exact ⟨s, neg, A, cap, l, (hb.block _ (lt_of_block h1)).trans h1, h2.below hb⟩
theorem Qt {W : World} {b : Nat} {a0 a1 u0 u1 : Value} {T : TypeId} (h : W.heap[b]? = some (.cells #[a0, a1] T (0, 0))) : ((W.setCell ⟨b, 0, none⟩ u0).setCell ⟨b, 1, none⟩ u1).heap[b]? = some (.cells #[u0, u1] T (0, 0)) := by
 simp [World.setCell, Array.getElem?_modify, h]
theorem Yv {W : World} {b : Nat} {a0 a1 a2 u0 u1 u2 : Value} {T : TypeId} (h : W.heap[b]? = some (.cells #[a0, a1, a2] T (0, 0))) : (((W.setCell ⟨b, 0, none⟩ u0).setCell ⟨b, 1, none⟩ u1).setCell ⟨b, 2, none⟩ u2).heap[b]? = some (.cells #[u0, u1, u2] T (0, 0)) := by
 simp [World.setCell, Array.getElem?_modify, h]
theorem Cs.new {W : World} {b : Nat} {s1 : Int} {cz : Bool} {A1 : Option Addr} {c1 : Nat} {l1 : List Nat} {z1 : Int} (h1 : fw W s1 cz A1 c1 l1 z1) (e : b = W.heap.size) : Cs (W.alloc (.cells #[.int .i64 s1, .bool cz, .slice A1 l1.length c1] 77)) b z1 := by
 subst e; exact ⟨s1, cz, A1, c1, l1, heap_alloc_new W _, h1.below ((Below.refl _ _).alloc (Nat.le_refl _) _)⟩
theorem Cs.alloc {W : World} {b : Nat} {z : Int} {o : Obj} (h : Cs W b z) : Cs (W.alloc o) b z := h.below ((Below.refl _ _).alloc (Nat.le_refl _) _)
theorem fw.alloc {W : World} {o : Obj} {s1 : Int} {cz : Bool} {A1 : Option Addr} {c1 : Nat} {l1 : List Nat} {z1 : Int} (h1 : fw W s1 cz A1 c1 l1 z1) : fw (W.alloc o) s1 cz A1 c1 l1 z1 := h1.below ((Below.refl _ _).alloc (Nat.le_refl _) _)
theorem Fr.alloc {Wp W : World} {b : Nat} {o : Obj} (h : Fr Wp W b) : Fr Wp (W.alloc o) b := ⟨h.old, (Below.heap_alloc W _ b h.lt).trans h.zero⟩
theorem aya {Wp W : World} {b : Nat} {s1 : Int} {cz : Bool} {A1 : Option Addr} {c1 : Nat} {l1 : List Nat} {z1 : Int} (h1 : fw W s1 cz A1 c1 l1 z1) (hb : Below Wp.heap.size Wp W) (e : b = W.heap.size) :
  Cs (W.alloc (.cells #[.int .i64 s1, .bool cz, .slice A1 l1.length c1] 77)) b z1 ∧ Below Wp.heap.size Wp (W.alloc (.cells #[.int .i64 s1, .bool cz, .slice A1 l1.length c1] 77)) ∧ Wp.heap.size ≤ b :=
 ⟨Cs.new h1 e, hb.alloc hb.size _, by have := hb.size; omega⟩
theorem ig {W W' : World} (h : Below W.heap.size W W') (o : Obj) : Below W.heap.size W (W'.alloc o) := h.alloc h.size o
theorem bel {P : Prop} (h : P := by (repeat (first | with_reducible exact Below.refl _ _ | with_reducible assumption | with_reducible refine Below.drew ?_ | with_reducible refine ig ?_ _))) : P := h
theorem gy {W W' : World} {b o : Nat} {v : Value} (hB : Below W.heap.size W W') (q : b < W.heap.size) (k : W.cell? ⟨b, o, none⟩ = some v) : W'.cell? ⟨b, o, none⟩ = some v := (hB.cell (p := ⟨b, o, none⟩) q).trans k
theorem adf {W W' : World} {g : Nat} (hB : Below W.heap.size W W') (hg : W.heap.size ≤ g) (o : Nat) (u : Value) : Below W.heap.size W (W'.setCell ⟨g, o, none⟩ u) :=
 hB.grown (kz (qb _ (some g)) o u) hB.size (fun k hk => by injection hk with hk; omega)
def Bj (w : World) (F : Nat) (a b c : Int) : Prop := ∀ (s1 : Int) (cz : Bool) (A1 : Option Addr) (c1 : Nat) (l1 : List Nat) (s2 : Int) (cu : Bool) (A2 : Option Addr) (c2 : Nat) (l2 : List Nat) (W : World), Below w.heap.size w W → fw W s1 cz A1 c1 l1 a → fw W s2 cu A2 c2 l2 b → Calls Tryz.prog F #[(Value.agg #[.int .i64 s1, .bool cz, .slice A1 l1.length c1]), (Value.agg #[.int .i64 s2, .bool cu, .slice A2 l2.length c2])] W fun e w' => Be W c e w'
theorem Po {w : World} {a b c : Int} {K : Nat} (hT : og w) (ha : Wd.Sz dh K a) (hb : Wd.Sz dh K b) (hK : K ≤ lim) (e : c = ((a.natAbs.gcd b.natAbs : Nat) : Int)) : Bj w 164 a b c := by
 subst e
 exact fun s1 cz A1 c1 l1 s2 cu A2 c2 l2 W hW f1 f2 => avk s1 cz A1 c1 l1 a s2 cu A2 c2 l2 b W f1 f2 (f1.fit ha hK) (f2.fit hb hK) (hT.below hW)
theorem Dc {w : World} {a b c : Int} {K : Nat} (ha : Wd.Sz dh K a) (hb : Wd.Sz dh K b) (hK : K ≤ lim) (h0 : b ≠ 0) (e : c = a.tdiv b) : Bj w 165 a b c := by
 subst e
 exact fun s1 cz A1 c1 l1 s2 cu A2 c2 l2 W hW f1 f2 => avi s1 cz A1 c1 l1 a s2 cu A2 c2 l2 b W f1 f2 (f1.fit ha hK) (f2.fit hb hK) h0
theorem Pn {w : World} {a b c : Int} {K : Nat} (ha : Wd.Sz dh K a) (hb : Wd.Sz dh K b) (hK : K ≤ lim) (e : c = a * b) : Bj w 147 a b c := by
 subst e
 exact fun s1 cz A1 c1 l1 s2 cu A2 c2 l2 W hW f1 f2 => Xq s1 cz A1 c1 l1 a s2 cu A2 c2 l2 b W f1 f2 (f1.fit ha hK) (f2.fit hb hK)
theorem bex {w : World} {a b c : Int} {K : Nat} (ha : Wd.Sz dh K a) (hb : Wd.Sz dh K b) (hK : K ≤ lim) (e : c = a + b) : Bj w 166 a b c := by
 subst e
 exact fun s1 cz A1 c1 l1 s2 cu A2 c2 l2 W hW f1 f2 => agl s1 cz A1 c1 l1 a s2 cu A2 c2 l2 b W f1 f2 (f1.fit ha hK) (f2.fit hb hK)


theorem afb (s1 : Int) (cz : Bool) (A1 : Option Addr) (c1 : Nat) (l1 : List Nat) (z1 : Int) (s2 : Int) (cu : Bool) (A2 : Option Addr) (c2 : Nat) (l2 : List Nat) (z2 : Int) (w : World) (h1 : fw w s1 cz A1 c1 l1 z1) (h2 : fw w s2 cu A2 c2 l2 z2) :
  Calls Tryz.prog 88 #[(Value.agg #[.int .i64 s1, .bool cz, .slice A1 l1.length c1, .int .i64 s2, .bool cu, .slice A2 l2.length c2])] w fun e w' => Gh w (-z1) z2 e w' := by
 have H1 := hide h1
 have H2 := hide h2
 clear h1 h2
 go_enter Tryz.func88, Tryz.ntmps88
 go_wp2_with fail
 obtain ⟨n0, n1, hsz, hw0⟩ := yh w (.cells #[.int .i64 s1, .bool cz, .slice A1 l1.length c1, .int .i64 s2, .bool cu, .slice A2 l2.length c2] 79) (.cells #[.int .i64 0, .bool false, .slice none 0 0, .int .i64 0, .bool false, .slice none 0 0] 79)
 generalize ((w.alloc (.cells #[.int .i64 s1, .bool cz, .slice A1 l1.length c1, .int .i64 s2, .bool cu, .slice A2 l2.length c2] 79)).alloc (.cells #[.int .i64 0, .bool false, .slice none 0 0, .int .i64 0, .bool false, .slice none 0 0] 79)) = W0 at *
 have vv : W0.cell? ⟨w.heap.size, 0, none⟩ = some (.int .i64 s1) := ag n0 0
 have vo : W0.cell? ⟨w.heap.size, 1, none⟩ = some (.bool cz) := ag n0 1
 have zq : W0.cell? ⟨w.heap.size, 2, none⟩ = some (.slice A1 l1.length c1) := ag n0 2
 have Cn : W0.cell? ⟨w.heap.size, 3, none⟩ = some (.int .i64 s2) := ag n0 3
 have Cm : W0.cell? ⟨w.heap.size, 4, none⟩ = some (.bool cu) := ag n0 4
 have Ck : W0.cell? ⟨w.heap.size, 5, none⟩ = some (.slice A2 l2.length c2) := ag n0 5
 have q0 : w.heap.size < W0.heap.size := by omega
 have yg : W0.cell? ⟨w.heap.size + 1, 0, none⟩ = some (.int .i64 0) := ag n1 0
 have yf : W0.cell? ⟨w.heap.size + 1, 1, none⟩ = some (.bool false) := ag n1 1
 have Gn : W0.cell? ⟨w.heap.size + 1, 2, none⟩ = some (.slice none 0 0) := ag n1 2
 have Xo : W0.cell? ⟨w.heap.size + 1, 3, none⟩ = some (.int .i64 0) := ag n1 3
 have Xn : W0.cell? ⟨w.heap.size + 1, 4, none⟩ = some (.bool false) := ag n1 4
 have Xm : W0.cell? ⟨w.heap.size + 1, 5, none⟩ = some (.slice none 0 0) := ag n1 5
 have q1 : w.heap.size + 1 < W0.heap.size := by omega
 have Oo := ai n1 0
 have Om := ai n1 1
 have awo := ai n1 2
 have awn := ai n1 3
 have awm := ai n1 4
 have awl := ai n1 5
 have NR := Lib.hid n1
 clear n0 n1
 go_region_held3 (fun w' => w'.cell? ⟨w.heap.size, 0, none⟩ = some (.int .i64 s1) ∧ w'.cell? ⟨w.heap.size, 1, none⟩ = some (.bool cz) ∧ w'.cell? ⟨w.heap.size, 2, none⟩ = some (.slice A1 l1.length c1) ∧ w'.cell? ⟨w.heap.size, 3, none⟩ = some (.int .i64 s2) ∧ w'.cell? ⟨w.heap.size, 4, none⟩ = some (.bool cu) ∧ w'.cell? ⟨w.heap.size, 5, none⟩ = some (.slice A2 l2.length c2)) ((first | with_reducible exact ⟨(hc _ _ q0).trans vv, (hc _ _ q0).trans vo, (hc _ _ q0).trans zq, (hc _ _ q0).trans Cn, (hc _ _ q0).trans Cm, (hc _ _ q0).trans Ck⟩ | with_reducible exact ⟨vv, vo, zq, Cn, Cm, Ck⟩ | with_reducible exact ⟨(jd _ _ _ _ _ _ _ _ om).trans ((hc _ _ q0).trans vv), (jd _ _ _ _ _ _ _ _ om).trans ((hc _ _ q0).trans vo), (jd _ _ _ _ _ _ _ _ om).trans ((hc _ _ q0).trans zq), (jd _ _ _ _ _ _ _ _ om).trans ((hc _ _ q0).trans Cn), (jd _ _ _ _ _ _ _ _ om).trans ((hc _ _ q0).trans Cm), (jd _ _ _ _ _ _ _ _ om).trans ((hc _ _ q0).trans Ck)⟩ | exact ⟨(hc _ _ q0).trans vv, (hc _ _ q0).trans vo, (hc _ _ q0).trans zq, (hc _ _ q0).trans Cn, (hc _ _ q0).trans Cm, (hc _ _ q0).trans Ck⟩ | exact ⟨vv, vo, zq, Cn, Cm, Ck⟩ | exact ⟨(jd _ _ _ _ _ _ _ _ om).trans ((hc _ _ q0).trans vv), (jd _ _ _ _ _ _ _ _ om).trans ((hc _ _ q0).trans vo), (jd _ _ _ _ _ _ _ _ om).trans ((hc _ _ q0).trans zq), (jd _ _ _ _ _ _ _ _ om).trans ((hc _ _ q0).trans Cn), (jd _ _ _ _ _ _ _ _ om).trans ((hc _ _ q0).trans Cm), (jd _ _ _ _ _ _ _ _ om).trans ((hc _ _ q0).trans Ck)⟩)) (first | (go_at_call_of 160 (Value.agg #[.int .i64 s1, .bool cz, .slice A1 l1.length c1]); refine (Vb s1 cz A1 c1 l1 z1 _ (by exact (aa H1).below (ay hw0 bem))).mono ?_; rintro e w' ⟨s5, qg, A5, c5, l5, rfl, Bc, hb⟩; have hbw := bz (w := W0) bem hb; obtain ⟨hc, hfz⟩ := fe hbw))
 have hblk : w'.heap[w.heap.size + 1]? = some (.cells #[.int .i64 0, .bool false, .slice none 0 0, .int .i64 0, .bool false, .slice none 0 0] 79 (0, 0)) := (hbw.block _ q1).trans NR.out
 have ky := Lib.hid hblk
 have jq : Below w.heap.size w w' := ay hw0 hbw
 clear hblk
 go_wp2_with fail
 exact bodyPost_ret (v := (Value.agg #[.int .i64 s5, .bool qg, .slice A5 l5.length c5, .int .i64 s2, .bool cu, .slice A2 l2.length c2])) (by simp [results, Tryz.results88, go_sem, hc, yg, yf, Gn, Xo, Xn, Xm, q1]) rfl
  ⟨s5, qg, A5, c5, l5, s2, cu, A2, c2, l2, rfl, (Bc).upto ky.out (ui _ _ _ _ _ _ _ _ _ _) (kg _ _ _ _ _ _ _ _), ((aa H2).below (ay hw0 hbw)).upto ky.out (ui _ _ _ _ _ _ _ _ _ _) (kg _ _ _ _ _ _ _ _), jq.grown (kg _ _ _ _ _ _ _ _) jq.size (fun k hk => by injection hk with hk; omega)⟩


theorem aum (s1 : Int) (cz : Bool) (A1 : Option Addr) (c1 : Nat) (l1 : List Nat) (z1 : Int) (s2 : Int) (cu : Bool) (A2 : Option Addr) (c2 : Nat) (l2 : List Nat) (z2 : Int) (w : World) (h1 : fw w s1 cz A1 c1 l1 z1) (h2 : fw w s2 cu A2 c2 l2 z2) (hz : z1 < 0) :
  Calls Tryz.prog 94 #[(Value.agg #[.int .i64 s1, .bool cz, .slice A1 l1.length c1, .int .i64 s2, .bool cu, .slice A2 l2.length c2])] w fun e w' => Gh w (-z2) (-z1) e w' := by
 have hs : decide (qi z1 < 0) = true := decide_eq_true (by rw [Gy]; exact hz)
 obtain ⟨o1, ho1⟩ : ∃ o, o = qi z1 := ⟨_, rfl⟩
 have HS : Hid (∀ W, Below w.heap.size w W → Calls Tryz.prog 159 #[(Value.agg #[.int .i64 s1, .bool cz, .slice A1 l1.length c1])] W fun e w' => e = .returned (.int .i64 o1) ∧ Below W.heap.size W w') := by rw [ho1]; exact fun W hW => zg s1 cz A1 c1 l1 z1 W (h1.below hW)
 rw [← ho1] at hs
 clear ho1 hz
 have H1 := hide h1
 have H2 := hide h2
 clear h1 h2
 go_enter Tryz.func94, Tryz.ntmps94
 go_wp2_with fail
 obtain ⟨n0, n1, hsz, hw0⟩ := yh w (.cells #[.int .i64 s1, .bool cz, .slice A1 l1.length c1, .int .i64 s2, .bool cu, .slice A2 l2.length c2] 79) (.cells #[.int .i64 0, .bool false, .slice none 0 0, .int .i64 0, .bool false, .slice none 0 0] 79)
 generalize ((w.alloc (.cells #[.int .i64 s1, .bool cz, .slice A1 l1.length c1, .int .i64 s2, .bool cu, .slice A2 l2.length c2] 79)).alloc (.cells #[.int .i64 0, .bool false, .slice none 0 0, .int .i64 0, .bool false, .slice none 0 0] 79)) = W0 at *
 have vv : W0.cell? ⟨w.heap.size, 0, none⟩ = some (.int .i64 s1) := ag n0 0
 have vo : W0.cell? ⟨w.heap.size, 1, none⟩ = some (.bool cz) := ag n0 1
 have zq : W0.cell? ⟨w.heap.size, 2, none⟩ = some (.slice A1 l1.length c1) := ag n0 2
 have Cn : W0.cell? ⟨w.heap.size, 3, none⟩ = some (.int .i64 s2) := ag n0 3
 have Cm : W0.cell? ⟨w.heap.size, 4, none⟩ = some (.bool cu) := ag n0 4
 have Ck : W0.cell? ⟨w.heap.size, 5, none⟩ = some (.slice A2 l2.length c2) := ag n0 5
 have q0 : w.heap.size < W0.heap.size := by omega
 have yg : W0.cell? ⟨w.heap.size + 1, 0, none⟩ = some (.int .i64 0) := ag n1 0
 have yf : W0.cell? ⟨w.heap.size + 1, 1, none⟩ = some (.bool false) := ag n1 1
 have Gn : W0.cell? ⟨w.heap.size + 1, 2, none⟩ = some (.slice none 0 0) := ag n1 2
 have Xo : W0.cell? ⟨w.heap.size + 1, 3, none⟩ = some (.int .i64 0) := ag n1 3
 have Xn : W0.cell? ⟨w.heap.size + 1, 4, none⟩ = some (.bool false) := ag n1 4
 have Xm : W0.cell? ⟨w.heap.size + 1, 5, none⟩ = some (.slice none 0 0) := ag n1 5
 have q1 : w.heap.size + 1 < W0.heap.size := by omega
 have Oo := ai n1 0
 have Om := ai n1 1
 have awo := ai n1 2
 have awn := ai n1 3
 have awm := ai n1 4
 have awl := ai n1 5
 have NR := Lib.hid n1
 clear n0 n1
 refine ((aa HS) _ (ay hw0 bem)).mono ?_
 rintro e w' ⟨rfl, hb⟩
 have hbw := bz (w := W0) bem hb; obtain ⟨hc, hfz⟩ := fe hbw
 go_wp2_with fail
 go_region_held3 (fun w' => w'.cell? ⟨w.heap.size, 0, none⟩ = some (.int .i64 s1) ∧ w'.cell? ⟨w.heap.size, 1, none⟩ = some (.bool cz) ∧ w'.cell? ⟨w.heap.size, 2, none⟩ = some (.slice A1 l1.length c1) ∧ w'.cell? ⟨w.heap.size, 3, none⟩ = some (.int .i64 s2) ∧ w'.cell? ⟨w.heap.size, 4, none⟩ = some (.bool cu) ∧ w'.cell? ⟨w.heap.size, 5, none⟩ = some (.slice A2 l2.length c2)) ((first | with_reducible exact ⟨(hc _ _ q0).trans vv, (hc _ _ q0).trans vo, (hc _ _ q0).trans zq, (hc _ _ q0).trans Cn, (hc _ _ q0).trans Cm, (hc _ _ q0).trans Ck⟩ | with_reducible exact ⟨vv, vo, zq, Cn, Cm, Ck⟩ | with_reducible exact ⟨(jd _ _ _ _ _ _ _ _ om).trans ((hc _ _ q0).trans vv), (jd _ _ _ _ _ _ _ _ om).trans ((hc _ _ q0).trans vo), (jd _ _ _ _ _ _ _ _ om).trans ((hc _ _ q0).trans zq), (jd _ _ _ _ _ _ _ _ om).trans ((hc _ _ q0).trans Cn), (jd _ _ _ _ _ _ _ _ om).trans ((hc _ _ q0).trans Cm), (jd _ _ _ _ _ _ _ _ om).trans ((hc _ _ q0).trans Ck)⟩ | exact ⟨(hc _ _ q0).trans vv, (hc _ _ q0).trans vo, (hc _ _ q0).trans zq, (hc _ _ q0).trans Cn, (hc _ _ q0).trans Cm, (hc _ _ q0).trans Ck⟩ | exact ⟨vv, vo, zq, Cn, Cm, Ck⟩ | exact ⟨(jd _ _ _ _ _ _ _ _ om).trans ((hc _ _ q0).trans vv), (jd _ _ _ _ _ _ _ _ om).trans ((hc _ _ q0).trans vo), (jd _ _ _ _ _ _ _ _ om).trans ((hc _ _ q0).trans zq), (jd _ _ _ _ _ _ _ _ om).trans ((hc _ _ q0).trans Cn), (jd _ _ _ _ _ _ _ _ om).trans ((hc _ _ q0).trans Cm), (jd _ _ _ _ _ _ _ _ om).trans ((hc _ _ q0).trans Ck)⟩)) (first | (go_at_call_of 160 (Value.agg #[.int .i64 s2, .bool cu, .slice A2 l2.length c2]); refine (Vb s2 cu A2 c2 l2 z2 _ (by exact (aa H2).below (ay hw0 bem))).mono ?_; rintro e w' ⟨s5, qg, A5, c5, l5, rfl, Bc, hb⟩; have hbw := bz (w := W0) bem hb; obtain ⟨hc, hfz⟩ := fe hbw) | (go_at_call_of 160 (Value.agg #[.int .i64 s1, .bool cz, .slice A1 l1.length c1]); refine (Vb s1 cz A1 c1 l1 z1 _ (by exact (aa H1).below (ay hw0 bem))).mono ?_; rintro e w' ⟨s6, ug, A6, c6, l6, rfl, Ij, hb⟩; have Bc := Bc.below hb; have hbw := bz (w := W0) bem hb; obtain ⟨hc, hfz⟩ := fe hbw))
 have hblk : w'.heap[w.heap.size + 1]? = some (.cells #[.int .i64 0, .bool false, .slice none 0 0, .int .i64 0, .bool false, .slice none 0 0] 79 (0, 0)) := (hbw.block _ q1).trans NR.out
 have ky := Lib.hid hblk
 have jq : Below w.heap.size w w' := ay hw0 hbw
 clear hblk
 go_wp2_with fail
 exact bodyPost_ret (v := (Value.agg #[.int .i64 s5, .bool qg, .slice A5 l5.length c5, .int .i64 s6, .bool ug, .slice A6 l6.length c6])) (by simp [results, Tryz.results94, go_sem, hc, yg, yf, Gn, Xo, Xn, Xm, q1]) rfl
  ⟨s5, qg, A5, c5, l5, s6, ug, A6, c6, l6, rfl, (Bc).upto ky.out (ui _ _ _ _ _ _ _ _ _ _) (kg _ _ _ _ _ _ _ _), (Ij).upto ky.out (ui _ _ _ _ _ _ _ _ _ _) (kg _ _ _ _ _ _ _ _), jq.grown (kg _ _ _ _ _ _ _ _) jq.size (fun k hk => by injection hk with hk; omega)⟩
theorem aul (s1 : Int) (cz : Bool) (A1 : Option Addr) (c1 : Nat) (l1 : List Nat) (z1 : Int) (s2 : Int) (cu : Bool) (A2 : Option Addr) (c2 : Nat) (l2 : List Nat) (z2 : Int) (w : World) (h1 : fw w s1 cz A1 c1 l1 z1) (h2 : fw w s2 cu A2 c2 l2 z2) (hz : ¬ z1 < 0) :
  Calls Tryz.prog 94 #[(Value.agg #[.int .i64 s1, .bool cz, .slice A1 l1.length c1, .int .i64 s2, .bool cu, .slice A2 l2.length c2])] w fun e w' => Gh w z2 z1 e w' := by
 have hs : decide (qi z1 < 0) = false := decide_eq_false (by rw [Gy]; exact hz)
 obtain ⟨o1, ho1⟩ : ∃ o, o = qi z1 := ⟨_, rfl⟩
 have HS : Hid (∀ W, Below w.heap.size w W → Calls Tryz.prog 159 #[(Value.agg #[.int .i64 s1, .bool cz, .slice A1 l1.length c1])] W fun e w' => e = .returned (.int .i64 o1) ∧ Below W.heap.size W w') := by rw [ho1]; exact fun W hW => zg s1 cz A1 c1 l1 z1 W (h1.below hW)
 rw [← ho1] at hs
 clear ho1 hz
 have H1 := hide h1
 have H2 := hide h2
 clear h1 h2
 go_enter Tryz.func94, Tryz.ntmps94
 go_wp2_with fail
 obtain ⟨n0, n1, hsz, hw0⟩ := yh w (.cells #[.int .i64 s1, .bool cz, .slice A1 l1.length c1, .int .i64 s2, .bool cu, .slice A2 l2.length c2] 79) (.cells #[.int .i64 0, .bool false, .slice none 0 0, .int .i64 0, .bool false, .slice none 0 0] 79)
 generalize ((w.alloc (.cells #[.int .i64 s1, .bool cz, .slice A1 l1.length c1, .int .i64 s2, .bool cu, .slice A2 l2.length c2] 79)).alloc (.cells #[.int .i64 0, .bool false, .slice none 0 0, .int .i64 0, .bool false, .slice none 0 0] 79)) = W0 at *
 have vv : W0.cell? ⟨w.heap.size, 0, none⟩ = some (.int .i64 s1) := ag n0 0
 have vo : W0.cell? ⟨w.heap.size, 1, none⟩ = some (.bool cz) := ag n0 1
 have zq : W0.cell? ⟨w.heap.size, 2, none⟩ = some (.slice A1 l1.length c1) := ag n0 2
 have Cn : W0.cell? ⟨w.heap.size, 3, none⟩ = some (.int .i64 s2) := ag n0 3
 have Cm : W0.cell? ⟨w.heap.size, 4, none⟩ = some (.bool cu) := ag n0 4
 have Ck : W0.cell? ⟨w.heap.size, 5, none⟩ = some (.slice A2 l2.length c2) := ag n0 5
 have q0 : w.heap.size < W0.heap.size := by omega
 have yg : W0.cell? ⟨w.heap.size + 1, 0, none⟩ = some (.int .i64 0) := ag n1 0
 have yf : W0.cell? ⟨w.heap.size + 1, 1, none⟩ = some (.bool false) := ag n1 1
 have Gn : W0.cell? ⟨w.heap.size + 1, 2, none⟩ = some (.slice none 0 0) := ag n1 2
 have Xo : W0.cell? ⟨w.heap.size + 1, 3, none⟩ = some (.int .i64 0) := ag n1 3
 have Xn : W0.cell? ⟨w.heap.size + 1, 4, none⟩ = some (.bool false) := ag n1 4
 have Xm : W0.cell? ⟨w.heap.size + 1, 5, none⟩ = some (.slice none 0 0) := ag n1 5
 have q1 : w.heap.size + 1 < W0.heap.size := by omega
 have Oo := ai n1 0
 have Om := ai n1 1
 have awo := ai n1 2
 have awn := ai n1 3
 have awm := ai n1 4
 have awl := ai n1 5
 have NR := Lib.hid n1
 clear n0 n1
 refine ((aa HS) _ (ay hw0 bem)).mono ?_
 rintro e w' ⟨rfl, hb⟩
 have hbw := bz (w := W0) bem hb; obtain ⟨hc, hfz⟩ := fe hbw
 have hblk : w'.heap[w.heap.size + 1]? = some (.cells #[.int .i64 0, .bool false, .slice none 0 0, .int .i64 0, .bool false, .slice none 0 0] 79 (0, 0)) := (hbw.block _ q1).trans NR.out
 have ky := Lib.hid hblk
 have jq : Below w.heap.size w w' := ay hw0 hbw
 clear hblk
 go_wp2_with fail
 exact bodyPost_ret (v := (Value.agg #[.int .i64 s2, .bool cu, .slice A2 l2.length c2, .int .i64 s1, .bool cz, .slice A1 l1.length c1])) (by simp [results, Tryz.results94, go_sem, hc, yg, yf, Gn, Xo, Xn, Xm, q1]) rfl
  ⟨s2, cu, A2, c2, l2, s1, cz, A1, c1, l1, rfl, ((aa H2).below (ay hw0 hbw)).upto ky.out (ui _ _ _ _ _ _ _ _ _ _) (kg _ _ _ _ _ _ _ _), ((aa H1).below (ay hw0 hbw)).upto ky.out (ui _ _ _ _ _ _ _ _ _ _) (kg _ _ _ _ _ _ _ _), jq.grown (kg _ _ _ _ _ _ _ _) jq.size (fun k hk => by injection hk with hk; omega)⟩


def Nc (w : World) (F : Nat) (x q : Rat) : Prop := ∀ (s1 : Int) (cz : Bool) (A1 : Option Addr) (c1 : Nat) (l1 : List Nat) (s2 : Int) (cu : Bool) (A2 : Option Addr) (c2 : Nat) (l2 : List Nat) (W : World), Below w.heap.size w W → fw W s1 cz A1 c1 l1 x.num → fw W s2 cu A2 c2 l2 (x.den : Int) → Calls Tryz.prog F #[(Value.agg #[.int .i64 s1, .bool cz, .slice A1 l1.length c1, .int .i64 s2, .bool cu, .slice A2 l2.length c2])] W fun e w' => Gh W q.num (q.den : Int) e w'
def Er (w : World) (F : Nat) (x y q : Rat) : Prop := ∀ (s1 : Int) (cz : Bool) (A1 : Option Addr) (c1 : Nat) (l1 : List Nat) (s2 : Int) (cu : Bool) (A2 : Option Addr) (c2 : Nat) (l2 : List Nat) (s3 : Int) (rz : Bool) (A3 : Option Addr) (c3 : Nat) (l3 : List Nat) (s4 : Int) (Cy : Bool) (A4 : Option Addr) (c4 : Nat) (l4 : List Nat) (W : World), Below w.heap.size w W → fw W s1 cz A1 c1 l1 x.num → fw W s2 cu A2 c2 l2 (x.den : Int) → fw W s3 rz A3 c3 l3 y.num → fw W s4 Cy A4 c4 l4 (y.den : Int) → Calls Tryz.prog F #[(Value.agg #[.int .i64 s1, .bool cz, .slice A1 l1.length c1, .int .i64 s2, .bool cu, .slice A2 l2.length c2]), (Value.agg #[.int .i64 s3, .bool rz, .slice A3 l3.length c3, .int .i64 s4, .bool Cy, .slice A4 l4.length c4])] W fun e w' => Gh W q.num (q.den : Int) e w'
theorem Nc.mono {w w' : World} {F : Nat} {x q : Rat} (h : Nc w F x q) (hb : Below w.heap.size w w') : Nc w' F x q := fun _ _ _ _ _ _ _ _ _ _ W hW => h _ _ _ _ _ _ _ _ _ _ W (ay hb hW)
theorem Er.mono {w w' : World} {F : Nat} {x y q : Rat} (h : Er w F x y q) (hb : Below w.heap.size w w') : Er w' F x y q := fun _ _ _ _ _ _ _ _ _ _ _ _ _ _ _ _ _ _ _ _ W hW => h _ _ _ _ _ _ _ _ _ _ _ _ _ _ _ _ _ _ _ _ W (ay hb hW)

def Bi (K : Nat) (q : Rat) : Prop := Wd.Sz dh K q.num ∧ Wd.Sz dh K (q.den : Int)
theorem Bi.mono {K L : Nat} {q : Rat} (h : Bi K q) (hk : K ≤ L) : Bi L q := ⟨h.1.mono oh hk, h.2.mono oh hk⟩
theorem Bi.neg {K : Nat} {q : Rat} (h : Bi K q) : Bi K (-q) := ⟨by rw [Rat.neg_num]; exact h.1.neg, by rw [Rat.neg_den]; exact h.2⟩

theorem bbq (w : World) (x : Rat) : Nc w 88 x (-x) := fun s1 cz A1 c1 l1 s2 cu A2 c2 l2 W _ f1 f2 => by
 rw [Rat.neg_num, Rat.neg_den]
 exact afb s1 cz A1 c1 l1 _ s2 cu A2 c2 l2 _ W f1 f2
theorem akc (w : World) (x : Rat) (h : x.num ≠ 0) : Nc w 94 x (x⁻¹) := fun s1 cz A1 c1 l1 s2 cu A2 c2 l2 W _ f1 f2 => by
 have hp := Wd.Tq x h
 by_cases hn : x.num < 0
 ·
  rw [(hp.1 hn).1, (hp.1 hn).2]
  exact aum s1 cz A1 c1 l1 _ s2 cu A2 c2 l2 _ W f1 f2 hn
 ·
  rw [(hp.2 hn).1, (hp.2 hn).2]
  exact aul s1 cz A1 c1 l1 _ s2 cu A2 c2 l2 _ W f1 f2 hn
theorem Bi.inv {K : Nat} {q : Rat} (h : Bi K q) (h0 : q.num ≠ 0) : Bi K (q⁻¹) := by
 have hp := Wd.Tq q h0
 by_cases hn : q.num < 0
 ·
  exact ⟨by rw [(hp.1 hn).1]; exact h.2.neg, by rw [(hp.1 hn).2]; exact h.1.neg⟩
 ·
  exact ⟨by rw [(hp.2 hn).1]; exact h.2, by rw [(hp.2 hn).2]; exact h.1⟩

def dz : World → World → Prop := fun w w' => Below w.heap.size w w'
theorem dz.drew (w : World) : dz w w.drew := (Below.refl _ _).drew
theorem Dt {P : Program} {F : Nat} {fn : Func} (h : P.funcs[F]? = some fn) (hn : (!(fn.name == "runtime.NumGoroutine") && fn.body.isSome) = true) (vs : Array Value) (w : World) : (callFunc F vs).run P w = .ok (.enter F vs) w := by
 simp only [Bool.and_eq_true, Bool.not_eq_true', beq_eq_false_iff_ne] at hn
 have h2 : ¬ fn.body = none := by intro e; rw [e] at hn; exact absurd hn.2 (by simp)
 unfold callFunc
 simp [go_sem, h]
 rw [if_neg hn.1, if_neg h2]
theorem Qw {P : Program} {F : Nat} (hF : ∀ (vs : Array Value) (w : World), (callFunc F vs).run P w = .ok (.enter F vs) w) {a : Act} {w : World} {d : Option Tmp} {xs : Array Operand} {ats : Array TypeId} {ty : TypeId} {pos : String} {af : Array Edge} {gd : Option (Nat × Bool)} :
  (execOp a.eval { dst := d, op := .call { callee := .value (.func F), args := xs, argTypes := ats }, type := ty, pos := pos, after := af, guard := gd }).run P w = .ok (.enter F (xs.map a.eval)) w := by
 have h := hF (#[] ++ xs.map a.eval ++ #[]) w
 rw [Array.empty_append, Array.append_empty] at h
 rw [← h]
 simp only [execOp, resolve, Act.eval, Deferred.ofValue, invoke]
 simp only [pure_bind, Array.empty_append, Array.append_empty]
theorem bbd {P : Program} {a : Act} {w : World} {d : Option Tmp} {x : Operand} {i : Nat} {ty : TypeId} {pos : String} {af : Array Edge} {gd : Option (Nat × Bool)} {vs : Array Value} {u : Value} (h : a.eval x = .tuple vs) (hu : vs[i]? = some u) :
  (execOp a.eval { dst := d, op := .extract x i, type := ty, pos := pos, after := af, guard := gd }).run P w = .ok (.value u) w := by
 simp only [execOp, h]
 simp [go_sem, hu]
theorem iq {P : Program} {o : Oper} {a : Act} {w w' : World} {v : Value} {K : Act → World → Prop} {Q : Exit → Act → World → Prop} (h : (execOp a.eval o).run P w = .ok (.value v) w') (hK : K (a.put o.dst v) w') : o.wp P a w K Q := by
 unfold Oper.wp; rw [h]; exact hK
theorem Je {P : Program} {o : Oper} {a : Act} {w w' : World} {F : Nat} {vs : Array Value} {K : Act → World → Prop} {Q : Exit → Act → World → Prop} (h : (execOp a.eval o).run P w = .ok (.enter F vs) w') (hK : Calls P F vs w' (fun e w'' => ∃ v, e = .returned v ∧ K (a.put o.dst v) w'')) : o.wp P a w K Q := by
 unfold Oper.wp; rw [h]
 refine hK.mono ?_
 rintro e w'' ⟨v, rfl, h⟩; exact h
theorem Pb {P : Program} {Q : Exit → Act → World → Prop} {l : List Oper} {n : Nat} {T : Nat → World → Value → Prop} {G : World → Prop} {al : List Nat} {a0 : Act} {k F d : Nat} {fn : Func}  {ats : Array TypeId} {ty : TypeId} {pos : String} {af : Array Edge} {gd : Option (Nat × Bool)}
  (hF : P.funcs[F]? = some fn) (hn : (!(fn.name == "runtime.NumGoroutine") && fn.body.isSome) = true) (hal : al.contains k = false) (Fx : ∀ W W', G W → dz W W' → G W') 
  (hc : ∀ (W : World) , G W → Calls P F #[] W fun e w' => ∃ u, e = .returned u ∧ dz W w' ∧ T k w' u) :
  Rg.Step P Q l n T G dz al a0 k { dst := some d, op := .call { callee := .value (.func F), args := #[], argTypes := ats }, type := ty, pos := pos, after := af, guard := gd } := by
 intro a w hG hO hN
 refine Je (Qw (Dt hF hn)) ?_
 simp only [List.map_toArray, List.map_cons, List.map_nil]
 refine (hc w  hG ).mono ?_
 rintro e w' ⟨u, rfl, hb, ht⟩
 exact ⟨u, rfl, u, rfl, Fx _ _ hG hb, hb, ht, fun h => by rw [hal] at h; cases h⟩
theorem Bp {P : Program} {Q : Exit → Act → World → Prop} {l : List Oper} {n : Nat} {T : Nat → World → Value → Prop} {G : World → Prop} {al : List Nat} {a0 : Act} {k F d : Nat} {fn : Func} {x1 : Operand} {A1 : World → Value → Prop} {ats : Array TypeId} {ty : TypeId} {pos : String} {af : Array Edge} {gd : Option (Nat × Bool)}
  (hF : P.funcs[F]? = some fn) (hn : (!(fn.name == "runtime.NumGoroutine") && fn.body.isSome) = true) (hal : al.contains k = false) (Fx : ∀ W W', G W → dz W W' → G W') (h1 : Rg.ib l n T a0 k x1 A1)
  (hc : ∀ (W : World) (v1 : Value), G W → A1 W v1 → Calls P F #[v1] W fun e w' => ∃ u, e = .returned u ∧ dz W w' ∧ T k w' u) :
  Rg.Step P Q l n T G dz al a0 k { dst := some d, op := .call { callee := .value (.func F), args := #[x1], argTypes := ats }, type := ty, pos := pos, after := af, guard := gd } := by
 intro a w hG hO hN
 refine Je (Qw (Dt hF hn)) ?_
 simp only [List.map_toArray, List.map_cons, List.map_nil]
 refine (hc w (a.eval x1) hG (h1 a w hO hN)).mono ?_
 rintro e w' ⟨u, rfl, hb, ht⟩
 exact ⟨u, rfl, u, rfl, Fx _ _ hG hb, hb, ht, fun h => by rw [hal] at h; cases h⟩
theorem Gz {P : Program} {Q : Exit → Act → World → Prop} {l : List Oper} {n : Nat} {T : Nat → World → Value → Prop} {G : World → Prop} {al : List Nat} {a0 : Act} {k F d : Nat} {fn : Func} {x1 x2 : Operand} {A1 A2 : World → Value → Prop} {ats : Array TypeId} {ty : TypeId} {pos : String} {af : Array Edge} {gd : Option (Nat × Bool)}
  (hF : P.funcs[F]? = some fn) (hn : (!(fn.name == "runtime.NumGoroutine") && fn.body.isSome) = true) (hal : al.contains k = false) (Fx : ∀ W W', G W → dz W W' → G W') (h1 : Rg.ib l n T a0 k x1 A1) (h2 : Rg.ib l n T a0 k x2 A2)
  (hc : ∀ (W : World) (v1 v2 : Value), G W → A1 W v1 → A2 W v2 → Calls P F #[v1, v2] W fun e w' => ∃ u, e = .returned u ∧ dz W w' ∧ T k w' u) :
  Rg.Step P Q l n T G dz al a0 k { dst := some d, op := .call { callee := .value (.func F), args := #[x1, x2], argTypes := ats }, type := ty, pos := pos, after := af, guard := gd } := by
 intro a w hG hO hN
 refine Je (Qw (Dt hF hn)) ?_
 simp only [List.map_toArray, List.map_cons, List.map_nil]
 refine (hc w (a.eval x1) (a.eval x2) hG (h1 a w hO hN) (h2 a w hO hN)).mono ?_
 rintro e w' ⟨u, rfl, hb, ht⟩
 exact ⟨u, rfl, u, rfl, Fx _ _ hG hb, hb, ht, fun h => by rw [hal] at h; cases h⟩
theorem bau {P : Program} {Q : Exit → Act → World → Prop} {l : List Oper} {n : Nat} {T : Nat → World → Value → Prop} {G : World → Prop} {al : List Nat} {a0 : Act} {k F d : Nat} {fn : Func} {x1 x2 x3 : Operand} {A1 A2 A3 : World → Value → Prop} {ats : Array TypeId} {ty : TypeId} {pos : String} {af : Array Edge} {gd : Option (Nat × Bool)}
  (hF : P.funcs[F]? = some fn) (hn : (!(fn.name == "runtime.NumGoroutine") && fn.body.isSome) = true) (hal : al.contains k = false) (Fx : ∀ W W', G W → dz W W' → G W') (h1 : Rg.ib l n T a0 k x1 A1) (h2 : Rg.ib l n T a0 k x2 A2) (h3 : Rg.ib l n T a0 k x3 A3)
  (hc : ∀ (W : World) (v1 v2 v3 : Value), G W → A1 W v1 → A2 W v2 → A3 W v3 → Calls P F #[v1, v2, v3] W fun e w' => ∃ u, e = .returned u ∧ dz W w' ∧ T k w' u) :
  Rg.Step P Q l n T G dz al a0 k { dst := some d, op := .call { callee := .value (.func F), args := #[x1, x2, x3], argTypes := ats }, type := ty, pos := pos, after := af, guard := gd } := by
 intro a w hG hO hN
 refine Je (Qw (Dt hF hn)) ?_
 simp only [List.map_toArray, List.map_cons, List.map_nil]
 refine (hc w (a.eval x1) (a.eval x2) (a.eval x3) hG (h1 a w hO hN) (h2 a w hO hN) (h3 a w hO hN)).mono ?_
 rintro e w' ⟨u, rfl, hb, ht⟩
 exact ⟨u, rfl, u, rfl, Fx _ _ hG hb, hb, ht, fun h => by rw [hal] at h; cases h⟩
theorem df {P : Program} {Q : Exit → Act → World → Prop} {l : List Oper} {n : Nat} {T : Nat → World → Value → Prop} {G : World → Prop} {al : List Nat} {a0 : Act} {k d : Nat} {x : Operand} {ty : TypeId} {pos : String} {af : Array Edge} {gd : Option (Nat × Bool)}
  (hal : al.contains k = false) (hx : Rg.ib l n T a0 k x (T k)) : Rg.Step P Q l n T G dz al a0 k { dst := some d, op := .move x, type := ty, pos := pos, after := af, guard := gd } := by
 intro a w hG hO hN
 exact iq (v := a.eval x) (w' := w) rfl ⟨_, rfl, hG, Below.refl _ _, hx a w hO hN, fun h => by rw [hal] at h; cases h⟩
theorem ik {P : Program} {Q : Exit → Act → World → Prop} {l : List Oper} {n : Nat} {T : Nat → World → Value → Prop} {G : World → Prop} {al : List Nat} {a0 : Act} {k d : Nat} {x : Operand} {ty : TypeId} {pos : String} {af : Array Edge} {gd : Option (Nat × Bool)}
  (hal : al.contains k = false) (hx : Rg.ib l n T a0 k x (T k)) : Rg.Step P Q l n T G dz al a0 k { dst := some d, op := .assign x, type := ty, pos := pos, after := af, guard := gd } := by
 intro a w hG hO hN
 exact iq (v := a.eval x) (w' := w) rfl ⟨_, rfl, hG, Below.refl _ _, hx a w hO hN, fun h => by rw [hal] at h; cases h⟩
theorem bjh {P : Program} {Q : Exit → Act → World → Prop} {l : List Oper} {n : Nat} {T : Nat → World → Value → Prop} {G : World → Prop} {al : List Nat} {a0 : Act} {k d i : Nat} {x : Operand} {A : World → Value → Prop} {ty : TypeId} {pos : String} {af : Array Edge} {gd : Option (Nat × Bool)}
  (hal : al.contains k = false) (hx : Rg.ib l n T a0 k x A) (hi : ∀ W v, A W v → ∃ vs, v = .tuple vs ∧ ∃ u, vs[i]? = some u ∧ T k W u) : Rg.Step P Q l n T G dz al a0 k { dst := some d, op := .extract x i, type := ty, pos := pos, after := af, guard := gd } := by
 intro a w hG hO hN
 obtain ⟨vs, h1, u, h2, h3⟩ := hi _ _ (hx a w hO hN)
 exact iq (bbd h1 h2) ⟨_, rfl, hG, Below.refl _ _, h3, fun h => by rw [hal] at h; cases h⟩
theorem aez {P : Program} {a : Act} {w : World} {d : Option Tmp} {c x y : Operand} {b : Bool} {ty : TypeId} {pos : String} {af : Array Edge} {gd : Option (Nat × Bool)} (h : a.eval c = .bool b) :
  (execOp a.eval { dst := d, op := .pick c x y, type := ty, pos := pos, after := af, guard := gd }).run P w = .ok (.value (if b then a.eval x else a.eval y)) w := by
 simp only [execOp, h]
 cases b <;> simp [go_sem]
theorem yc {P : Program} {Q : Exit → Act → World → Prop} {l : List Oper} {n : Nat} {T : Nat → World → Value → Prop} {G : World → Prop} {al : List Nat} {a0 : Act} {k d : Nat} {c x y : Operand} {ty : TypeId} {pos : String} {af : Array Edge} {gd : Option (Nat × Bool)}
  (hal : al.contains k = false) (hc : Rg.ib l n T a0 k c (Rg.au (.bool true))) (hx : Rg.ib l n T a0 k x (T k)) : Rg.Step P Q l n T G dz al a0 k { dst := some d, op := .pick c x y, type := ty, pos := pos, after := af, guard := gd } := by
 intro a w hG hO hN
 exact iq (aez (hc a w hO hN)) ⟨_, rfl, hG, Below.refl _ _, hx a w hO hN, fun h => by rw [hal] at h; cases h⟩
theorem qo {P : Program} {Q : Exit → Act → World → Prop} {l : List Oper} {n : Nat} {T : Nat → World → Value → Prop} {G : World → Prop} {al : List Nat} {a0 : Act} {k d : Nat} {c x y : Operand} {ty : TypeId} {pos : String} {af : Array Edge} {gd : Option (Nat × Bool)}
  (hal : al.contains k = false) (hc : Rg.ib l n T a0 k c (Rg.au (.bool false))) (hy : Rg.ib l n T a0 k y (T k)) : Rg.Step P Q l n T G dz al a0 k { dst := some d, op := .pick c x y, type := ty, pos := pos, after := af, guard := gd } := by
 intro a w hG hO hN
 exact iq (aez (hc a w hO hN)) ⟨_, rfl, hG, Below.refl _ _, hy a w hO hN, fun h => by rw [hal] at h; cases h⟩
theorem baw {P : Program} {a : Act} {w : World} {d : Option Tmp} {x : Operand} {b : Bool} {tb ty : TypeId} {pos : String} {af : Array Edge} {gd : Option (Nat × Bool)} (h : a.eval x = .bool b) :
  (execOp a.eval { dst := d, op := .unOp .not tb x, type := ty, pos := pos, after := af, guard := gd }).run P w = .ok (.value (.bool (!b))) w := by
 simp only [execOp, h]
 simp [go_sem]
theorem zw {P : Program} {Q : Exit → Act → World → Prop} {l : List Oper} {n : Nat} {T : Nat → World → Value → Prop} {G : World → Prop} {al : List Nat} {a0 : Act} {k d : Nat} {x : Operand} {b c : Bool} {tb ty : TypeId} {pos : String} {af : Array Edge} {gd : Option (Nat × Bool)}
  (hal : al.contains k = false) (hx : Rg.ib l n T a0 k x (Rg.au (.bool b))) (hT : T k = Rg.au (.bool c)) (hb : (!b) = c) : Rg.Step P Q l n T G dz al a0 k { dst := some d, op := .unOp .not tb x, type := ty, pos := pos, after := af, guard := gd } := by
 intro a w hG hO hN
 exact iq (baw (hx a w hO hN)) ⟨_, rfl, hG, Below.refl _ _, by rw [hT, ← hb]; rfl, fun h => by rw [hal] at h; cases h⟩
theorem baz {ρ : Operand → Value} {w : World} {d : Option Tmp} {x y : Operand} {o z : Int} {ty : TypeId} {pos : String} {af : Array Edge} {gd : Option (Nat × Bool)} (h : ρ x = .int .i64 o) (h' : ρ y = .int .i64 z) :
  (execOp ρ { dst := d, op := .binOp .leq 3 x y 3, type := ty, pos := pos, after := af, guard := gd }).run Tryz.prog w = .ok (.value (.bool (decide (o ≤ z)))) w := by
 simp only [execOp, h, h']
 simp [go_sem, Tryz.underlying3]
theorem adt {Q : Exit → Act → World → Prop} {l : List Oper} {n : Nat} {T : Nat → World → Value → Prop} {G : World → Prop} {al : List Nat} {a0 : Act} {k d : Nat} {x y : Operand} {o z : Int} {ty : TypeId} {pos : String} {af : Array Edge} {gd : Option (Nat × Bool)} {b : Bool}
  (hal : al.contains k = false) (hx : Rg.ib l n T a0 k x (Rg.au (.int .i64 o))) (hy : Rg.ib l n T a0 k y (Rg.au (.int .i64 z))) (hT : T k = Rg.au (.bool b)) (hb : (decide (o ≤ z)) = b) : Rg.Step Tryz.prog Q l n T G dz al a0 k { dst := some d, op := .binOp .leq 3 x y 3, type := ty, pos := pos, after := af, guard := gd } := by
 intro a w hG hO hN
 exact iq (P := Tryz.prog) (baz (hx a w hO hN) (hy a w hO hN)) ⟨_, rfl, hG, Below.refl _ _, by rw [hT, hb]; rfl, fun h => by rw [hal] at h; cases h⟩
theorem bay {ρ : Operand → Value} {w : World} {d : Option Tmp} {x y : Operand} {o z : Int} {ty : TypeId} {pos : String} {af : Array Edge} {gd : Option (Nat × Bool)} (h : ρ x = .int .i64 o) (h' : ρ y = .int .i64 z) :
  (execOp ρ { dst := d, op := .binOp .lss 3 x y 3, type := ty, pos := pos, after := af, guard := gd }).run Tryz.prog w = .ok (.value (.bool (decide (o < z)))) w := by
 simp only [execOp, h, h']
 simp [go_sem, Tryz.underlying3]
theorem xq {Q : Exit → Act → World → Prop} {l : List Oper} {n : Nat} {T : Nat → World → Value → Prop} {G : World → Prop} {al : List Nat} {a0 : Act} {k d : Nat} {x y : Operand} {o z : Int} {ty : TypeId} {pos : String} {af : Array Edge} {gd : Option (Nat × Bool)} {b : Bool}
  (hal : al.contains k = false) (hx : Rg.ib l n T a0 k x (Rg.au (.int .i64 o))) (hy : Rg.ib l n T a0 k y (Rg.au (.int .i64 z))) (hT : T k = Rg.au (.bool b)) (hb : (decide (o < z)) = b) : Rg.Step Tryz.prog Q l n T G dz al a0 k { dst := some d, op := .binOp .lss 3 x y 3, type := ty, pos := pos, after := af, guard := gd } := by
 intro a w hG hO hN
 exact iq (P := Tryz.prog) (bay (hx a w hO hN) (hy a w hO hN)) ⟨_, rfl, hG, Below.refl _ _, by rw [hT, hb]; rfl, fun h => by rw [hal] at h; cases h⟩
theorem bbb {ρ : Operand → Value} {w : World} {d : Option Tmp} {x y : Operand} {o z : Int} {ty : TypeId} {pos : String} {af : Array Edge} {gd : Option (Nat × Bool)} (h : ρ x = .int .i64 o) (h' : ρ y = .int .i64 z) :
  (execOp ρ { dst := d, op := .binOp .gtr 3 x y 3, type := ty, pos := pos, after := af, guard := gd }).run Tryz.prog w = .ok (.value (.bool (decide (z < o)))) w := by
 simp only [execOp, h, h']
 simp [go_sem, Tryz.underlying3]
theorem Uz {Q : Exit → Act → World → Prop} {l : List Oper} {n : Nat} {T : Nat → World → Value → Prop} {G : World → Prop} {al : List Nat} {a0 : Act} {k d : Nat} {x y : Operand} {o z : Int} {ty : TypeId} {pos : String} {af : Array Edge} {gd : Option (Nat × Bool)} {b : Bool}
  (hal : al.contains k = false) (hx : Rg.ib l n T a0 k x (Rg.au (.int .i64 o))) (hy : Rg.ib l n T a0 k y (Rg.au (.int .i64 z))) (hT : T k = Rg.au (.bool b)) (hb : (decide (z < o)) = b) : Rg.Step Tryz.prog Q l n T G dz al a0 k { dst := some d, op := .binOp .gtr 3 x y 3, type := ty, pos := pos, after := af, guard := gd } := by
 intro a w hG hO hN
 exact iq (P := Tryz.prog) (bbb (hx a w hO hN) (hy a w hO hN)) ⟨_, rfl, hG, Below.refl _ _, by rw [hT, hb]; rfl, fun h => by rw [hal] at h; cases h⟩
theorem bax {ρ : Operand → Value} {w : World} {d : Option Tmp} {x y : Operand} {o z : Int} {ty : TypeId} {pos : String} {af : Array Edge} {gd : Option (Nat × Bool)} (h : ρ x = .int .i64 o) (h' : ρ y = .int .i64 z) :
  (execOp ρ { dst := d, op := .binOp .neq 3 x y 3, type := ty, pos := pos, after := af, guard := gd }).run Tryz.prog w = .ok (.value (.bool ((o != z)))) w := by
 simp only [execOp, h, h']
 simp [go_sem, Tryz.underlying3]
theorem ads {Q : Exit → Act → World → Prop} {l : List Oper} {n : Nat} {T : Nat → World → Value → Prop} {G : World → Prop} {al : List Nat} {a0 : Act} {k d : Nat} {x y : Operand} {o z : Int} {ty : TypeId} {pos : String} {af : Array Edge} {gd : Option (Nat × Bool)} {b : Bool}
  (hal : al.contains k = false) (hx : Rg.ib l n T a0 k x (Rg.au (.int .i64 o))) (hy : Rg.ib l n T a0 k y (Rg.au (.int .i64 z))) (hT : T k = Rg.au (.bool b)) (hb : ((o != z)) = b) : Rg.Step Tryz.prog Q l n T G dz al a0 k { dst := some d, op := .binOp .neq 3 x y 3, type := ty, pos := pos, after := af, guard := gd } := by
 intro a w hG hO hN
 exact iq (P := Tryz.prog) (bax (hx a w hO hN) (hy a w hO hN)) ⟨_, rfl, hG, Below.refl _ _, by rw [hT, hb]; rfl, fun h => by rw [hal] at h; cases h⟩
theorem bbc {ρ : Operand → Value} {w : World} {d : Option Tmp} {x y : Operand} {o z : Int} {ty : TypeId} {pos : String} {af : Array Edge} {gd : Option (Nat × Bool)} (h : ρ x = .int .i64 o) (h' : ρ y = .int .i64 z) :
  (execOp ρ { dst := d, op := .binOp .geq 3 x y 3, type := ty, pos := pos, after := af, guard := gd }).run Tryz.prog w = .ok (.value (.bool (decide (z ≤ o)))) w := by
 simp only [execOp, h, h']
 simp [go_sem, Tryz.underlying3]
theorem bjg {Q : Exit → Act → World → Prop} {l : List Oper} {n : Nat} {T : Nat → World → Value → Prop} {G : World → Prop} {al : List Nat} {a0 : Act} {k d : Nat} {x y : Operand} {o z : Int} {ty : TypeId} {pos : String} {af : Array Edge} {gd : Option (Nat × Bool)} {b : Bool}
  (hal : al.contains k = false) (hx : Rg.ib l n T a0 k x (Rg.au (.int .i64 o))) (hy : Rg.ib l n T a0 k y (Rg.au (.int .i64 z))) (hT : T k = Rg.au (.bool b)) (hb : (decide (z ≤ o)) = b) : Rg.Step Tryz.prog Q l n T G dz al a0 k { dst := some d, op := .binOp .geq 3 x y 3, type := ty, pos := pos, after := af, guard := gd } := by
 intro a w hG hO hN
 exact iq (P := Tryz.prog) (bbc (hx a w hO hN) (hy a w hO hN)) ⟨_, rfl, hG, Below.refl _ _, by rw [hT, hb]; rfl, fun h => by rw [hal] at h; cases h⟩
theorem axu {P : Program} {Q : Exit → Act → World → Prop} {l : List Oper} {n : Nat} {T : Nat → World → Value → Prop} {G : World → Prop} {al : List Nat} {a0 : Act} {k B : Nat} {o : Oper} {N : Nat → World → Value → Prop} (hnew : ∀ (a : Act) (w : World), ∃ X : World, dz w X ∧ (B ≤ w.heap.size → N B X (.pointer (some ⟨w.heap.size, 0, none⟩))) ∧ (execOp a.eval o).run P w = .ok (.value (.pointer (some ⟨w.heap.size, 0, none⟩))) X)
  (Fx : ∀ W W', G W → dz W W' → G W') (hB : ∀ W, G W → B ≤ W.heap.size) (hT : T k = N B) (hlt : ∀ j W u, al.contains j = true → T j W u → ∃ b, u = .pointer (some ⟨b, 0, none⟩) ∧ b < W.heap.size) :
  Rg.Step P Q l n T G dz al a0 k o := by
 intro a w hG hO hN
 obtain ⟨X, hb, hbx, hr⟩ := hnew a w
 have hT2 : T k X (.pointer (some ⟨w.heap.size, 0, none⟩)) := by rw [hT]; exact hbx (hB w hG)
 have hG2 := Fx _ _ hG hb
 have hne : al.contains k = true → ∀ j u, al.contains j = true → T j w u → u ≠ .pointer (some ⟨w.heap.size, 0, none⟩) := fun _ j u hj ht he => by
  obtain ⟨b, h1, h2⟩ := hlt j w u hj ht
  rw [h1] at he
  have h3 : b = w.heap.size := by first | (simp at he; done) | (simp at he; exact he)
  omega
 exact iq hr ⟨_, rfl, hG2, hb, hT2, hne⟩
def ic (T : World → Value → Prop) (w : World) (e : Ending) (w' : World) : Prop := ∃ u, e = .returned u ∧ dz w w' ∧ T w' u

theorem aqb (s1 : Int) (cz : Bool) (A1 : Option Addr) (c1 : Nat) (l1 : List Nat) (z1 : Int) (s2 : Int) (cu : Bool) (A2 : Option Addr) (c2 : Nat) (l2 : List Nat) (z2 : Int) (w : World) (h1 : fw w s1 cz A1 c1 l1 z1) (h2 : fw w s2 cu A2 c2 l2 z2) (a1 : ¬ l1.length = 0) :
  Calls Tryz.prog 69 #[(Value.agg #[.int .i64 s1, .bool cz, .slice A1 l1.length c1, .int .i64 s2, .bool cu, .slice A2 l2.length c2])] w fun e w' => e = .returned (.tuple #[.agg #[.int .i64 0, .int .i64 0], .int .i64 3]) ∧ Below w.heap.size w w' := by
 have nz := hide (fun W => yu s1 cz A1 c1 l1.length W)
 have HS2 := hide (fun W => yu s2 cu A2 c2 l2.length W)
 rw [decide_eq_false a1] at nz
 obtain ⟨B2, hB2⟩ : ∃ b, b = decide (l2.length = 0) := ⟨_, rfl⟩
 rw [← hB2] at HS2
 clear hB2
 clear a1 h1 h2
 go_enter Tryz.func69, Tryz.ntmps69
 go_wp2_with fail
 obtain ⟨n0, n1, hsz, hw0⟩ := yh w (.cells #[.int .i64 s1, .bool cz, .slice A1 l1.length c1, .int .i64 s2, .bool cu, .slice A2 l2.length c2] 79) (.cells #[.int .i64 0, .int .i64 0] 23)
 generalize ((w.alloc (.cells #[.int .i64 s1, .bool cz, .slice A1 l1.length c1, .int .i64 s2, .bool cu, .slice A2 l2.length c2] 79)).alloc (.cells #[.int .i64 0, .int .i64 0] 23)) = W0 at *
 have vv : W0.cell? ⟨w.heap.size, 0, none⟩ = some (.int .i64 s1) := ag n0 0
 have vo : W0.cell? ⟨w.heap.size, 1, none⟩ = some (.bool cz) := ag n0 1
 have zq : W0.cell? ⟨w.heap.size, 2, none⟩ = some (.slice A1 l1.length c1) := ag n0 2
 have Cn : W0.cell? ⟨w.heap.size, 3, none⟩ = some (.int .i64 s2) := ag n0 3
 have Cm : W0.cell? ⟨w.heap.size, 4, none⟩ = some (.bool cu) := ag n0 4
 have Ck : W0.cell? ⟨w.heap.size, 5, none⟩ = some (.slice A2 l2.length c2) := ag n0 5
 have q0 : w.heap.size < W0.heap.size := by omega
 have yg : W0.cell? ⟨w.heap.size + 1, 0, none⟩ = some (.int .i64 0) := ag n1 0
 have yf : W0.cell? ⟨w.heap.size + 1, 1, none⟩ = some (.int .i64 0) := ag n1 1
 have q1 : w.heap.size + 1 < W0.heap.size := by omega
 have Oo := ai n1 0
 have Om := ai n1 1
 have NR := Lib.hid n1
 clear n0 n1
 refine ((aa nz) _).mono ?_
 rintro e w3 ⟨rfl, hb⟩
 have hbw := bz (w := W0) bem hb
 obtain ⟨hc, hfz⟩ := fe hbw
 go_wp2_with fail
 refine ((aa HS2) _).mono ?_
 rintro e w4 ⟨rfl, hb⟩
 have hbw := bz (w := W0) bem hb
 obtain ⟨hc, hfz⟩ := fe hbw
 have jq : Below w.heap.size w w4 := ay hw0 hbw
 go_wp2_with fail
 exact bodyPost_ret (v := .tuple #[.agg #[.int .i64 0, .int .i64 0], .int .i64 3]) (by simp [results, Tryz.results69, go_sem, hc, yg, yf, q1]) rfl
  ⟨rfl, jq.grown (mo _ _ _ _) jq.size (fun k hk => by injection hk with hk; omega)⟩
theorem aqa (s1 : Int) (cz : Bool) (A1 : Option Addr) (c1 : Nat) (l1 : List Nat) (z1 : Int) (s2 : Int) (cu : Bool) (A2 : Option Addr) (c2 : Nat) (l2 : List Nat) (z2 : Int) (w : World) (h1 : fw w s1 cz A1 c1 l1 z1) (h2 : fw w s2 cu A2 c2 l2 z2) (a1 : l1.length = 0) (a2 : ¬ l2.length = 0) :
  Calls Tryz.prog 69 #[(Value.agg #[.int .i64 s1, .bool cz, .slice A1 l1.length c1, .int .i64 s2, .bool cu, .slice A2 l2.length c2])] w fun e w' => e = .returned (.tuple #[.agg #[.int .i64 0, .int .i64 0], .int .i64 3]) ∧ Below w.heap.size w w' := by
 have nz := hide (fun W => yu s1 cz A1 c1 l1.length W)
 have HS2 := hide (fun W => yu s2 cu A2 c2 l2.length W)
 rw [decide_eq_true a1] at nz
 rw [decide_eq_false a2] at HS2
 clear a1 a2 h1 h2
 go_enter Tryz.func69, Tryz.ntmps69
 go_wp2_with fail
 obtain ⟨n0, n1, hsz, hw0⟩ := yh w (.cells #[.int .i64 s1, .bool cz, .slice A1 l1.length c1, .int .i64 s2, .bool cu, .slice A2 l2.length c2] 79) (.cells #[.int .i64 0, .int .i64 0] 23)
 generalize ((w.alloc (.cells #[.int .i64 s1, .bool cz, .slice A1 l1.length c1, .int .i64 s2, .bool cu, .slice A2 l2.length c2] 79)).alloc (.cells #[.int .i64 0, .int .i64 0] 23)) = W0 at *
 have vv : W0.cell? ⟨w.heap.size, 0, none⟩ = some (.int .i64 s1) := ag n0 0
 have vo : W0.cell? ⟨w.heap.size, 1, none⟩ = some (.bool cz) := ag n0 1
 have zq : W0.cell? ⟨w.heap.size, 2, none⟩ = some (.slice A1 l1.length c1) := ag n0 2
 have Cn : W0.cell? ⟨w.heap.size, 3, none⟩ = some (.int .i64 s2) := ag n0 3
 have Cm : W0.cell? ⟨w.heap.size, 4, none⟩ = some (.bool cu) := ag n0 4
 have Ck : W0.cell? ⟨w.heap.size, 5, none⟩ = some (.slice A2 l2.length c2) := ag n0 5
 have q0 : w.heap.size < W0.heap.size := by omega
 have yg : W0.cell? ⟨w.heap.size + 1, 0, none⟩ = some (.int .i64 0) := ag n1 0
 have yf : W0.cell? ⟨w.heap.size + 1, 1, none⟩ = some (.int .i64 0) := ag n1 1
 have q1 : w.heap.size + 1 < W0.heap.size := by omega
 have Oo := ai n1 0
 have Om := ai n1 1
 have NR := Lib.hid n1
 clear n0 n1
 refine ((aa nz) _).mono ?_
 rintro e w3 ⟨rfl, hb⟩
 have hbw := bz (w := W0) bem hb
 obtain ⟨hc, hfz⟩ := fe hbw
 go_wp2_with fail
 refine ((aa HS2) _).mono ?_
 rintro e w4 ⟨rfl, hb⟩
 have hbw := bz (w := W0) bem hb
 obtain ⟨hc, hfz⟩ := fe hbw
 have jq : Below w.heap.size w w4 := ay hw0 hbw
 go_wp2_with fail
 exact bodyPost_ret (v := .tuple #[.agg #[.int .i64 0, .int .i64 0], .int .i64 3]) (by simp [results, Tryz.results69, go_sem, hc, yg, yf, q1]) rfl
  ⟨rfl, jq.grown (mo _ _ _ _) jq.size (fun k hk => by injection hk with hk; omega)⟩
theorem bbf (s1 : Int) (cz : Bool) (A1 : Option Addr) (c1 : Nat) (l1 : List Nat) (z1 : Int) (s2 : Int) (cu : Bool) (A2 : Option Addr) (c2 : Nat) (l2 : List Nat) (z2 : Int) (w : World) (h1 : fw w s1 cz A1 c1 l1 z1) (h2 : fw w s2 cu A2 c2 l2 z2) (a1 : l1.length = 0) (a2 : l2.length = 0) (g1 : s1 < -1000000000000) :
  Calls Tryz.prog 69 #[(Value.agg #[.int .i64 s1, .bool cz, .slice A1 l1.length c1, .int .i64 s2, .bool cu, .slice A2 l2.length c2])] w fun e w' => e = .returned (.tuple #[.agg #[.int .i64 0, .int .i64 0], .int .i64 3]) ∧ Below w.heap.size w w' := by
 have nz := hide (fun W => yu s1 cz A1 c1 l1.length W)
 have HS2 := hide (fun W => yu s2 cu A2 c2 l2.length W)
 rw [decide_eq_true a1] at nz
 rw [decide_eq_true a2] at HS2
 have d1 : decide (s1 < -1000000000000) = true := decide_eq_true om
 clear a1 a2 h1 h2 g1
 go_enter Tryz.func69, Tryz.ntmps69
 go_wp2_with fail
 obtain ⟨n0, n1, hsz, hw0⟩ := yh w (.cells #[.int .i64 s1, .bool cz, .slice A1 l1.length c1, .int .i64 s2, .bool cu, .slice A2 l2.length c2] 79) (.cells #[.int .i64 0, .int .i64 0] 23)
 generalize ((w.alloc (.cells #[.int .i64 s1, .bool cz, .slice A1 l1.length c1, .int .i64 s2, .bool cu, .slice A2 l2.length c2] 79)).alloc (.cells #[.int .i64 0, .int .i64 0] 23)) = W0 at *
 have vv : W0.cell? ⟨w.heap.size, 0, none⟩ = some (.int .i64 s1) := ag n0 0
 have vo : W0.cell? ⟨w.heap.size, 1, none⟩ = some (.bool cz) := ag n0 1
 have zq : W0.cell? ⟨w.heap.size, 2, none⟩ = some (.slice A1 l1.length c1) := ag n0 2
 have Cn : W0.cell? ⟨w.heap.size, 3, none⟩ = some (.int .i64 s2) := ag n0 3
 have Cm : W0.cell? ⟨w.heap.size, 4, none⟩ = some (.bool cu) := ag n0 4
 have Ck : W0.cell? ⟨w.heap.size, 5, none⟩ = some (.slice A2 l2.length c2) := ag n0 5
 have q0 : w.heap.size < W0.heap.size := by omega
 have yg : W0.cell? ⟨w.heap.size + 1, 0, none⟩ = some (.int .i64 0) := ag n1 0
 have yf : W0.cell? ⟨w.heap.size + 1, 1, none⟩ = some (.int .i64 0) := ag n1 1
 have q1 : w.heap.size + 1 < W0.heap.size := by omega
 have Oo := ai n1 0
 have Om := ai n1 1
 have NR := Lib.hid n1
 clear n0 n1
 refine ((aa nz) _).mono ?_
 rintro e w3 ⟨rfl, hb⟩
 have hbw := bz (w := W0) bem hb
 obtain ⟨hc, hfz⟩ := fe hbw
 go_wp2_with fail
 refine ((aa HS2) _).mono ?_
 rintro e w4 ⟨rfl, hb⟩
 have hbw := bz (w := W0) bem hb
 obtain ⟨hc, hfz⟩ := fe hbw
 have jq : Below w.heap.size w w4 := ay hw0 hbw
 go_wp2_with fail
 exact bodyPost_ret (v := .tuple #[.agg #[.int .i64 0, .int .i64 0], .int .i64 3]) (by simp [results, Tryz.results69, go_sem, hc, yg, yf, q1]) rfl
  ⟨rfl, jq.grown (mo _ _ _ _) jq.size (fun k hk => by injection hk with hk; omega)⟩
theorem bbg (s1 : Int) (cz : Bool) (A1 : Option Addr) (c1 : Nat) (l1 : List Nat) (z1 : Int) (s2 : Int) (cu : Bool) (A2 : Option Addr) (c2 : Nat) (l2 : List Nat) (z2 : Int) (w : World) (h1 : fw w s1 cz A1 c1 l1 z1) (h2 : fw w s2 cu A2 c2 l2 z2) (a1 : l1.length = 0) (a2 : l2.length = 0) (g1 : 1000000000000 < s1) :
  Calls Tryz.prog 69 #[(Value.agg #[.int .i64 s1, .bool cz, .slice A1 l1.length c1, .int .i64 s2, .bool cu, .slice A2 l2.length c2])] w fun e w' => e = .returned (.tuple #[.agg #[.int .i64 0, .int .i64 0], .int .i64 3]) ∧ Below w.heap.size w w' := by
 have nz := hide (fun W => yu s1 cz A1 c1 l1.length W)
 have HS2 := hide (fun W => yu s2 cu A2 c2 l2.length W)
 rw [decide_eq_true a1] at nz
 rw [decide_eq_true a2] at HS2
 have d1 : decide (s1 < -1000000000000) = false := decide_eq_false om
 have d2 : decide (1000000000000 < s1) = true := decide_eq_true om
 clear a1 a2 h1 h2 g1
 go_enter Tryz.func69, Tryz.ntmps69
 go_wp2_with fail
 obtain ⟨n0, n1, hsz, hw0⟩ := yh w (.cells #[.int .i64 s1, .bool cz, .slice A1 l1.length c1, .int .i64 s2, .bool cu, .slice A2 l2.length c2] 79) (.cells #[.int .i64 0, .int .i64 0] 23)
 generalize ((w.alloc (.cells #[.int .i64 s1, .bool cz, .slice A1 l1.length c1, .int .i64 s2, .bool cu, .slice A2 l2.length c2] 79)).alloc (.cells #[.int .i64 0, .int .i64 0] 23)) = W0 at *
 have vv : W0.cell? ⟨w.heap.size, 0, none⟩ = some (.int .i64 s1) := ag n0 0
 have vo : W0.cell? ⟨w.heap.size, 1, none⟩ = some (.bool cz) := ag n0 1
 have zq : W0.cell? ⟨w.heap.size, 2, none⟩ = some (.slice A1 l1.length c1) := ag n0 2
 have Cn : W0.cell? ⟨w.heap.size, 3, none⟩ = some (.int .i64 s2) := ag n0 3
 have Cm : W0.cell? ⟨w.heap.size, 4, none⟩ = some (.bool cu) := ag n0 4
 have Ck : W0.cell? ⟨w.heap.size, 5, none⟩ = some (.slice A2 l2.length c2) := ag n0 5
 have q0 : w.heap.size < W0.heap.size := by omega
 have yg : W0.cell? ⟨w.heap.size + 1, 0, none⟩ = some (.int .i64 0) := ag n1 0
 have yf : W0.cell? ⟨w.heap.size + 1, 1, none⟩ = some (.int .i64 0) := ag n1 1
 have q1 : w.heap.size + 1 < W0.heap.size := by omega
 have Oo := ai n1 0
 have Om := ai n1 1
 have NR := Lib.hid n1
 clear n0 n1
 refine ((aa nz) _).mono ?_
 rintro e w3 ⟨rfl, hb⟩
 have hbw := bz (w := W0) bem hb
 obtain ⟨hc, hfz⟩ := fe hbw
 go_wp2_with fail
 refine ((aa HS2) _).mono ?_
 rintro e w4 ⟨rfl, hb⟩
 have hbw := bz (w := W0) bem hb
 obtain ⟨hc, hfz⟩ := fe hbw
 have jq : Below w.heap.size w w4 := ay hw0 hbw
 go_wp2_with fail
 exact bodyPost_ret (v := .tuple #[.agg #[.int .i64 0, .int .i64 0], .int .i64 3]) (by simp [results, Tryz.results69, go_sem, hc, yg, yf, q1]) rfl
  ⟨rfl, jq.grown (mo _ _ _ _) jq.size (fun k hk => by injection hk with hk; omega)⟩
theorem auk (s1 : Int) (cz : Bool) (A1 : Option Addr) (c1 : Nat) (l1 : List Nat) (z1 : Int) (s2 : Int) (cu : Bool) (A2 : Option Addr) (c2 : Nat) (l2 : List Nat) (z2 : Int) (w : World) (h1 : fw w s1 cz A1 c1 l1 z1) (h2 : fw w s2 cu A2 c2 l2 z2) (a1 : l1.length = 0) (a2 : l2.length = 0) (g1 : ¬ s1 < -1000000000000) (g2 : ¬ 1000000000000 < s1) (g3 : 1000000000000 < s2) :
  Calls Tryz.prog 69 #[(Value.agg #[.int .i64 s1, .bool cz, .slice A1 l1.length c1, .int .i64 s2, .bool cu, .slice A2 l2.length c2])] w fun e w' => e = .returned (.tuple #[.agg #[.int .i64 0, .int .i64 0], .int .i64 3]) ∧ Below w.heap.size w w' := by
 have nz := hide (fun W => yu s1 cz A1 c1 l1.length W)
 have HS2 := hide (fun W => yu s2 cu A2 c2 l2.length W)
 rw [decide_eq_true a1] at nz
 rw [decide_eq_true a2] at HS2
 have d1 : decide (s1 < -1000000000000) = false := decide_eq_false om
 have d2 : decide (1000000000000 < s1) = false := decide_eq_false om
 have d3 : decide (1000000000000 < s2) = true := decide_eq_true om
 clear a1 a2 h1 h2 g1 g2 g3
 go_enter Tryz.func69, Tryz.ntmps69
 go_wp2_with fail
 obtain ⟨n0, n1, hsz, hw0⟩ := yh w (.cells #[.int .i64 s1, .bool cz, .slice A1 l1.length c1, .int .i64 s2, .bool cu, .slice A2 l2.length c2] 79) (.cells #[.int .i64 0, .int .i64 0] 23)
 generalize ((w.alloc (.cells #[.int .i64 s1, .bool cz, .slice A1 l1.length c1, .int .i64 s2, .bool cu, .slice A2 l2.length c2] 79)).alloc (.cells #[.int .i64 0, .int .i64 0] 23)) = W0 at *
 have vv : W0.cell? ⟨w.heap.size, 0, none⟩ = some (.int .i64 s1) := ag n0 0
 have vo : W0.cell? ⟨w.heap.size, 1, none⟩ = some (.bool cz) := ag n0 1
 have zq : W0.cell? ⟨w.heap.size, 2, none⟩ = some (.slice A1 l1.length c1) := ag n0 2
 have Cn : W0.cell? ⟨w.heap.size, 3, none⟩ = some (.int .i64 s2) := ag n0 3
 have Cm : W0.cell? ⟨w.heap.size, 4, none⟩ = some (.bool cu) := ag n0 4
 have Ck : W0.cell? ⟨w.heap.size, 5, none⟩ = some (.slice A2 l2.length c2) := ag n0 5
 have q0 : w.heap.size < W0.heap.size := by omega
 have yg : W0.cell? ⟨w.heap.size + 1, 0, none⟩ = some (.int .i64 0) := ag n1 0
 have yf : W0.cell? ⟨w.heap.size + 1, 1, none⟩ = some (.int .i64 0) := ag n1 1
 have q1 : w.heap.size + 1 < W0.heap.size := by omega
 have Oo := ai n1 0
 have Om := ai n1 1
 have NR := Lib.hid n1
 clear n0 n1
 refine ((aa nz) _).mono ?_
 rintro e w3 ⟨rfl, hb⟩
 have hbw := bz (w := W0) bem hb
 obtain ⟨hc, hfz⟩ := fe hbw
 go_wp2_with fail
 refine ((aa HS2) _).mono ?_
 rintro e w4 ⟨rfl, hb⟩
 have hbw := bz (w := W0) bem hb
 obtain ⟨hc, hfz⟩ := fe hbw
 have jq : Below w.heap.size w w4 := ay hw0 hbw
 go_wp2_with fail
 exact bodyPost_ret (v := .tuple #[.agg #[.int .i64 0, .int .i64 0], .int .i64 3]) (by simp [results, Tryz.results69, go_sem, hc, yg, yf, q1]) rfl
  ⟨rfl, jq.grown (mo _ _ _ _) jq.size (fun k hk => by injection hk with hk; omega)⟩
theorem bbe (s1 : Int) (cz : Bool) (A1 : Option Addr) (c1 : Nat) (l1 : List Nat) (z1 : Int) (s2 : Int) (cu : Bool) (A2 : Option Addr) (c2 : Nat) (l2 : List Nat) (z2 : Int) (w : World) (h1 : fw w s1 cz A1 c1 l1 z1) (h2 : fw w s2 cu A2 c2 l2 z2) (a1 : l1.length = 0) (a2 : l2.length = 0) (g1 : ¬ s1 < -1000000000000) (g2 : ¬ 1000000000000 < s1) (g3 : ¬ 1000000000000 < s2) :
  Calls Tryz.prog 69 #[(Value.agg #[.int .i64 s1, .bool cz, .slice A1 l1.length c1, .int .i64 s2, .bool cu, .slice A2 l2.length c2])] w fun e w' => e = .returned (.tuple #[.agg #[.int .i64 s1, .int .i64 s2], .int .i64 0]) ∧ Below w.heap.size w w' := by
 have nz := hide (fun W => yu s1 cz A1 c1 l1.length W)
 have HS2 := hide (fun W => yu s2 cu A2 c2 l2.length W)
 rw [decide_eq_true a1] at nz
 rw [decide_eq_true a2] at HS2
 have d1 : decide (s1 < -1000000000000) = false := decide_eq_false om
 have d2 : decide (1000000000000 < s1) = false := decide_eq_false om
 have d3 : decide (1000000000000 < s2) = false := decide_eq_false om
 clear a1 a2 h1 h2 g1 g2 g3
 go_enter Tryz.func69, Tryz.ntmps69
 go_wp2_with fail
 obtain ⟨n0, n1, hsz, hw0⟩ := yh w (.cells #[.int .i64 s1, .bool cz, .slice A1 l1.length c1, .int .i64 s2, .bool cu, .slice A2 l2.length c2] 79) (.cells #[.int .i64 0, .int .i64 0] 23)
 generalize ((w.alloc (.cells #[.int .i64 s1, .bool cz, .slice A1 l1.length c1, .int .i64 s2, .bool cu, .slice A2 l2.length c2] 79)).alloc (.cells #[.int .i64 0, .int .i64 0] 23)) = W0 at *
 have vv : W0.cell? ⟨w.heap.size, 0, none⟩ = some (.int .i64 s1) := ag n0 0
 have vo : W0.cell? ⟨w.heap.size, 1, none⟩ = some (.bool cz) := ag n0 1
 have zq : W0.cell? ⟨w.heap.size, 2, none⟩ = some (.slice A1 l1.length c1) := ag n0 2
 have Cn : W0.cell? ⟨w.heap.size, 3, none⟩ = some (.int .i64 s2) := ag n0 3
 have Cm : W0.cell? ⟨w.heap.size, 4, none⟩ = some (.bool cu) := ag n0 4
 have Ck : W0.cell? ⟨w.heap.size, 5, none⟩ = some (.slice A2 l2.length c2) := ag n0 5
 have q0 : w.heap.size < W0.heap.size := by omega
 have yg : W0.cell? ⟨w.heap.size + 1, 0, none⟩ = some (.int .i64 0) := ag n1 0
 have yf : W0.cell? ⟨w.heap.size + 1, 1, none⟩ = some (.int .i64 0) := ag n1 1
 have q1 : w.heap.size + 1 < W0.heap.size := by omega
 have Oo := ai n1 0
 have Om := ai n1 1
 have NR := Lib.hid n1
 clear n0 n1
 refine ((aa nz) _).mono ?_
 rintro e w3 ⟨rfl, hb⟩
 have hbw := bz (w := W0) bem hb
 obtain ⟨hc, hfz⟩ := fe hbw
 go_wp2_with fail
 refine ((aa HS2) _).mono ?_
 rintro e w4 ⟨rfl, hb⟩
 have hbw := bz (w := W0) bem hb
 obtain ⟨hc, hfz⟩ := fe hbw
 have jq : Below w.heap.size w w4 := ay hw0 hbw
 go_wp2_with fail
 exact bodyPost_ret (v := .tuple #[.agg #[.int .i64 s1, .int .i64 s2], .int .i64 0]) (by simp [results, Tryz.results69, go_sem, hc, yg, yf, q1]) rfl
  ⟨rfl, jq.grown (mo _ _ _ _) jq.size (fun k hk => by injection hk with hk; omega)⟩

theorem Xd (s1 : Int) (cz : Bool) (A1 : Option Addr) (c1 : Nat) (l1 : List Nat) (z1 : Int) (s2 : Int) (cu : Bool) (A2 : Option Addr) (c2 : Nat) (l2 : List Nat) (z2 : Int) (w : World) (h1 : fw w s1 cz A1 c1 l1 z1) (h2 : fw w s2 cu A2 c2 l2 z2) (q : Rat) (e1 : z1 = q.num) (e2 : z2 = (q.den : Int)) :
  Calls Tryz.prog 69 #[(Value.agg #[.int .i64 s1, .bool cz, .slice A1 l1.length c1, .int .i64 s2, .bool cu, .slice A2 l2.length c2])] w fun e w' => e = .returned (.tuple #[.agg #[.int .i64 (Wd.told q).n, .int .i64 (Wd.told q).d], .int .i64 (Wd.told q).e]) ∧ Below w.heap.size w w' := by
 have hden := q.den_pos
 have big : ∀ (l : List Nat) (s : Int) (neg : Bool) (A : Option Addr) (c : Nat) (z : Int), fw w s neg A c l z → ¬ l.length = 0 → 9223372036854775808 ≤ z.natAbs := fun l s neg A c z h a => by
  rcases h.form with ⟨x, _⟩ | ⟨_, _, _, _, x⟩
  ·
   exact absurd x a
  ·
   rwa [uf] at x
 have large : ∀ P : Prop, ¬ Wd.fits q → (Wd.told q) = ⟨0, 0, 3⟩ := fun _ h => by unfold Wd.told; rw [if_neg h]
 by_cases a1 : l1.length = 0
 ·
  obtain ⟨x1, _, _⟩ := h1.Ae a1
  by_cases a2 : l2.length = 0
  ·
   obtain ⟨x2, _, _⟩ := h2.Ae a2
   by_cases g1 : s1 < -1000000000000
   ·
    rw [large True (fun hf => by have := hf.1; rw [Wd.Oi] at this; omega)]; exact bbf s1 cz A1 c1 l1 z1 s2 cu A2 c2 l2 z2 w h1 h2 a1 a2 g1
   by_cases g2 : 1000000000000 < s1
   ·
    rw [large True (fun hf => by have := hf.1; rw [Wd.Oi] at this; omega)]; exact bbg s1 cz A1 c1 l1 z1 s2 cu A2 c2 l2 z2 w h1 h2 a1 a2 g2
   by_cases g3 : 1000000000000 < s2
   ·
    rw [large True (fun hf => by have := hf.2; rw [Wd.Oi] at this; omega)]; exact auk s1 cz A1 c1 l1 z1 s2 cu A2 c2 l2 z2 w h1 h2 a1 a2 g1 g2 g3
   have hf : Wd.fits q := by unfold Wd.fits; rw [Wd.Oi]; omega
   have ht : Wd.told q = ⟨s1, s2, 0⟩ := by unfold Wd.told; rw [if_pos hf, x1, x2, e1, e2]
   rw [ht]
   exact bbe s1 cz A1 c1 l1 z1 s2 cu A2 c2 l2 z2 w h1 h2 a1 a2 g1 g2 g3
  ·
   have := big _ _ _ _ _ _ h2 a2
   rw [large True (fun hf => by have := hf.2; rw [Wd.Oi] at this; omega)]; exact aqa s1 cz A1 c1 l1 z1 s2 cu A2 c2 l2 z2 w h1 h2 a1 a2
 ·
  have := big _ _ _ _ _ _ h1 a1
  rw [large True (fun hf => by have := hf.1; rw [Wd.Oi] at this; omega)]; exact aqb s1 cz A1 c1 l1 z1 s2 cu A2 c2 l2 z2 w h1 h2 a1

end Go.Proofs.YtfgeaakhlcaibaaGreatDoor
