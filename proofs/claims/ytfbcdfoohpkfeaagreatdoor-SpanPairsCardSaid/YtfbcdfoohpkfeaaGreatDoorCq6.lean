/- Texts beneath a law of layer 1. -/
import Derived.Test.YtfbcdfoohpkfeaaGreatDoorCq5
set_option maxRecDepth 100000
namespace Go.Proofs.YtfbcdfoohpkfeaaGreatDoor
open Go.RowKit

set_option maxHeartbeats 4000000 in
theorem aup (s1 : Int) (fu : Bool) (A1 : Option Addr) (c1 : Nat) (l1 : List Nat) (z1 : Int) (s2 : Int) (fw : Bool) (A2 : Option Addr) (c2 : Nat) (l2 : List Nat) (z2 : Int) (w : World)
  (h1 : ig w s1 fu A1 c1 l1 z1) (h2 : ig w s2 fw A2 c2 l2 z2) (hl1 : l1.length ≤ lim) (hl2 : l2.length ≤ lim) :
  Calls Tryz.prog 135 #[.agg #[.int .i64 s1, .bool fu, .slice A1 l1.length c1], .agg #[.int .i64 s2, .bool fw, .slice A2 l2.length c2]] w fun e w' => Ez w (z1 * z2) e w' := by
 have uo := hide (fun W => wz s1 fu A1 c1 l1.length W)
 have HS2 := hide (fun W => wz s2 fw A2 c2 l2.length W)
 have hz := aen z1 z2
 have Ru : ∀ (A5 A6 : Option Addr) (c5 c6 : Nat) (l5 l6 : List Nat) (W : World), pq W A5 c5 l5 z1.natAbs → pq W A6 c6 l6 z2.natAbs → l5.length + l6.length ≤ 35184372088832 := fun _ _ _ _ _ _ _ g1 g2 => by
  have e1 := g1.len h1.Tw
  have e2 := g2.len h2.Tw
  rw [Ri] at hl1 hl2
  omega
 have G1 : ∀ W0, Below w.heap.size w W0 → Hid (∀ W, Below W0.heap.size W0 W → Calls Tryz.prog 146 #[.agg #[.int .i64 s1, .bool fu, .slice A1 l1.length c1]] W fun e w' => e = .returned (.int .i64 (ja z1)) ∧ Below W.heap.size W w') := fun W0 h0 W hW => Bd s1 fu A1 c1 l1 z1 W (ig.below h1 (ek h0 hW))
 have G2 : ∀ W0, Below w.heap.size w W0 → Hid (∀ W, Below W0.heap.size W0 W → Calls Tryz.prog 146 #[.agg #[.int .i64 s2, .bool fw, .slice A2 l2.length c2]] W fun e w' => e = .returned (.int .i64 (ja z2)) ∧ Below W.heap.size W w') := fun W0 h0 W hW => Bd s2 fw A2 c2 l2 z2 W (ig.below h2 (ek h0 hW))
 have B1 : ∀ W0, Below w.heap.size w W0 → Hid (∀ W, Below W0.heap.size W0 W → Calls Tryz.prog 171 #[.agg #[.int .i64 s1, .bool fu, .slice A1 l1.length c1]] W fun e w' => Gl W z1.natAbs e w') := fun W0 h0 W hW => El s1 fu A1 c1 l1 z1 W (ig.below h1 (ek h0 hW))
 have B2 : ∀ W0, Below w.heap.size w W0 → Hid (∀ W, Below W0.heap.size W0 W → Calls Tryz.prog 171 #[.agg #[.int .i64 s2, .bool fw, .slice A2 l2.length c2]] W fun e w' => Gl W z2.natAbs e w') := fun W0 h0 W hW => El s2 fw A2 c2 l2 z2 W (ig.below h2 (ek h0 hW))
 have ho1 : -1 ≤ ja z1 * ja z2 ∧ ja z1 * ja z2 ≤ 1 := by unfold ja; (repeat' split) <;> omega
 have Tj := h1.bounds
 have Ti := h2.bounds
 have hsz1 : l1.length = 0 → s1.natAbs = z1.natAbs ∧ z1.natAbs < Kg := fun h => by obtain ⟨e, _, e3⟩ := h1.Cc h; rw [e]; exact ⟨rfl, e3⟩
 have hsz2 : l2.length = 0 → s2.natAbs = z2.natAbs ∧ z2.natAbs < Kg := fun h => by obtain ⟨e, _, e3⟩ := h2.Cc h; rw [e]; exact ⟨rfl, e3⟩
 have Z1 := hide (fun W => Kt s1 Tj.1 Tj.2 W)
 have Z2 := hide (fun W => Kt s2 Ti.1 Ti.2 W)
 obtain ⟨m1, hm1⟩ : ∃ o, o = z1.natAbs := ⟨_, rfl⟩
 obtain ⟨m2, hm2⟩ : ∃ o, o = z2.natAbs := ⟨_, rfl⟩
 obtain ⟨o1, afs⟩ : ∃ o, o = ja z1 := ⟨_, rfl⟩
 obtain ⟨o2, afr⟩ : ∃ o, o = ja z2 := ⟨_, rfl⟩
 rw [← hm1] at B1 Ru hz hsz1
 rw [← hm2] at B2 Ru hz hsz2
 rw [← afs] at G1 hz ho1
 rw [← afr] at G2 hz ho1
 obtain ⟨op, hop⟩ : ∃ o, o = o1 * o2 := ⟨_, rfl⟩
 have e1 : IntKind.i64.wrap (o1 * o2) = op := by rw [hop]; exact IntWalk.i64_in _ om
 have e1' : wrap64 (o1 * o2) = op := by rw [hop]; exact IntWalk.wrap64_in _ om
 rw [← hop] at hz
 obtain ⟨ng, hng⟩ : ∃ b, b = decide (op < 0) := ⟨_, rfl⟩
 rw [← hng] at hz
 obtain ⟨Z, hZ⟩ : ∃ o, o = z1 * z2 := ⟨_, rfl⟩
 rw [← hZ] at hz ⊢
 have HZ := Lib.hid hz.symm
 have Fa := hide G1; have HG2 := hide G2; have HB1 := hide B1; have HB2 := hide B2; have HLEN := hide Ru
 have ngE := hng.symm
 clear hm1 hm2 afs afr ho1 hop hng hz hZ G1 G2 B1 B2 h1 h2 Tj Ti Ru hl1 hl2
 by_cases hs : l1.length = 0 ∧ l2.length = 0
 ·
  obtain ⟨a1, a2⟩ := hs
  rw [decide_eq_true a1] at uo
  rw [decide_eq_true a2] at HS2
  obtain ⟨y1, y2⟩ := hsz1 a1
  obtain ⟨y3, y4⟩ := hsz2 a2
  rw [y1] at Z1
  rw [y3] at Z2
  have hB1 : m1 < gy := by have := y2; rw [Am] at this; rw [jg]; omega
  have hB2 : m2 < gy := by have := y4; rw [Am] at this; rw [jg]; omega
  obtain ⟨hi', hhi⟩ : ∃ t, t = m1 * m2 / gy := ⟨_, rfl⟩
  obtain ⟨lo, hlo⟩ : ∃ t, t = m1 * m2 % gy := ⟨_, rfl⟩
  have hM := Uq m1 m2 hB1 hB2
  rw [← hhi, ← hlo] at hM
  have HM := hide hM
  have Jy : lo < gy := by rw [hlo]; exact Nat.mod_lt _ (Nat.lt_trans Nat.zero_lt_one wu)
  have HW := hide (fun W => Rx ng lo Jy W)
  have Cs : hi' = 0 → lo = m1 * m2 := fun h => by
   have := Nat.div_add_mod (m1 * m2) gy
   rw [← hhi, ← hlo, h] at this
   omega
  by_cases hh : hi' = 0
  ·
   have hb0 : ((hi' : Int) == 0) = true := beq_iff_eq.2 om
   have hW' : ∀ W, Calls Tryz.prog 165 #[.bool ng, .int .u64 ((lo : Nat) : Int)] W fun e w' => Ez W Z e w' := fun W => by
    have := (aa HW) W
    rw [Cs hh] at this ⊢
    rw [HZ.out]; exact this
   have HWW := hide hW'
   clear hW' HW Cs hh hlo hhi hM hB1 hB2 Jy y1 y2 y3 y4 hsz1 hsz2 a1 a2
   go_enter Tryz.func135, Tryz.ntmps135
   go_wp2_with fail
   obtain ⟨n1, n2, n3, hsz, hw0⟩ := qg w (.cells #[.int .i64 s1, .bool fu, .slice A1 l1.length c1] 72) (.cells #[.int .i64 s2, .bool fw, .slice A2 l2.length c2] 72) (.cells #[.int .i64 0, .bool false, .slice none 0 0] 72)
   generalize (((w.alloc (.cells #[.int .i64 s1, .bool fu, .slice A1 l1.length c1] 72)).alloc (.cells #[.int .i64 s2, .bool fw, .slice A2 l2.length c2] 72)).alloc (.cells #[.int .i64 0, .bool false, .slice none 0 0] 72)) = W0 at *
   have k1 := ae n1 0
   have k2 := ae n1 1
   have k3 := ae n1 2
   simp only [Array.getElem?_eq_getElem, mh, mg, mf] at k1 k2 k3
   have k4 := ae n2 0
   have k5 := ae n2 1
   have k6 := ae n2 2
   simp only [Array.getElem?_eq_getElem, mh, mg, mf] at k4 k5 k6
   have q0 : w.heap.size < W0.heap.size := by omega
   have q1 : w.heap.size + 1 < W0.heap.size := by omega
   have q2 : w.heap.size + 1 + 1 < W0.heap.size := by omega
   have k7 := ae n3 0
   have k8 := ae n3 1
   have k9 := ae n3 2
   simp only [Array.getElem?_eq_getElem, mh, mg, mf] at k7 k8 k9
   have f7 := bz n3 0
   have f8 := bz n3 1
   have f9 := bz n3 2
   have N3 := Lib.hid n3
   clear n3
   clear n1 n2
   have G1 := (aa Fa) W0 hw0; have G2 := (aa HG2) W0 hw0; have B1 := (aa HB1) W0 hw0; have B2 := (aa HB2) W0 hw0
   go_region_held3 (fun w' => w'.cell? ⟨w.heap.size, 0, none⟩ = some (.int .i64 s1) ∧ w'.cell? ⟨w.heap.size, 1, none⟩ = some (.bool fu) ∧ w'.cell? ⟨w.heap.size, 2, none⟩ = some (.slice A1 l1.length c1) ∧ w'.cell? ⟨w.heap.size + 1, 0, none⟩ = some (.int .i64 s2) ∧ w'.cell? ⟨w.heap.size + 1, 1, none⟩ = some (.bool fw) ∧ w'.cell? ⟨w.heap.size + 1, 2, none⟩ = some (.slice A2 l2.length c2)) ((first | exact ⟨(hc _ _ q0).trans k1, (hc _ _ q0).trans k2, (hc _ _ q0).trans k3, (hc _ _ q1).trans k4, (hc _ _ q1).trans k5, (hc _ _ q1).trans k6⟩ | exact ⟨k1, k2, k3, k4, k5, k6⟩)) (first | (go_at_call_of 146 (Value.agg #[.int .i64 s1, .bool fu, .slice A1 l1.length c1]); refine ((aa G1) _ bem).mono ?_; rintro e w' ⟨rfl, hb⟩; have hbw := fo (w := W0) bem hb; obtain ⟨hc, hfz⟩ := gp hbw) | (go_at_call_of 146 (Value.agg #[.int .i64 s2, .bool fw, .slice A2 l2.length c2]); refine ((aa G2) _ bem).mono ?_; rintro e w' ⟨rfl, hb⟩; have hbw := fo (w := W0) bem hb; obtain ⟨hc, hfz⟩ := gp hbw))
   go_wp2_with fail
   refine ((aa uo) _).mono ?_
   rintro e w1 ⟨rfl, hw1⟩
   have zm := rq (w := W0) bem hw1
   obtain ⟨hc, hfz⟩ := gp zm
   clear hw1
   go_wp2_with fail
   refine ((aa HS2) _).mono ?_
   rintro e w2 ⟨rfl, hw2⟩
   have hbw2 := rq (w := W0) bem hw2
   obtain ⟨hc, hfz⟩ := gp hbw2
   clear hw2
   go_wp2_with fail
   go_region_held3 (fun w' => w'.cell? ⟨w.heap.size, 0, none⟩ = some (.int .i64 s1) ∧ w'.cell? ⟨w.heap.size, 1, none⟩ = some (.bool fu) ∧ w'.cell? ⟨w.heap.size, 2, none⟩ = some (.slice A1 l1.length c1) ∧ w'.cell? ⟨w.heap.size + 1, 0, none⟩ = some (.int .i64 s2) ∧ w'.cell? ⟨w.heap.size + 1, 1, none⟩ = some (.bool fw) ∧ w'.cell? ⟨w.heap.size + 1, 2, none⟩ = some (.slice A2 l2.length c2)) ((first | exact ⟨(hc _ _ q0).trans k1, (hc _ _ q0).trans k2, (hc _ _ q0).trans k3, (hc _ _ q1).trans k4, (hc _ _ q1).trans k5, (hc _ _ q1).trans k6⟩ | exact ⟨k1, k2, k3, k4, k5, k6⟩)) (first | (go_at_call_of 166 (Value.int .i64 s1); refine ((aa Z1) _).mono ?_; rintro e w' ⟨rfl, Mg⟩; subst Mg) | (go_at_call_of 166 (Value.int .i64 s2); refine ((aa Z2) _).mono ?_; rintro e w' ⟨rfl, Mg⟩; subst Mg) | (go_at_call 169; refine ((aa HM) _).mono ?_; rintro e w' ⟨rfl, Mg⟩; subst Mg))
   go_wp2_with fail
   refine ((aa HWW) _).mono ?_
   rintro e w' ⟨s, ve, A', cap', l', rfl, hf, hb⟩
   have hbw := fo (w := W0) bem hb
   obtain ⟨hc, hfz⟩ := gp hbw
   have hblk : w'.heap[w.heap.size + 1 + 1]? = some (.cells #[.int .i64 0, .bool false, .slice none 0 0] 72 (0, 0)) := (hbw.block _ q2).trans N3.out
   have mo := Lib.hid hblk
   have ky : Below w.heap.size w w' := ek hw0 hbw
   clear hblk
   go_wp2_with fail
   exact bodyPost_ret (v := .agg #[.int .i64 s, .bool ve, .slice A' l'.length cap']) (by simp [results, Tryz.results135, go_sem, hc, k7, k8, k9, q2]) rfl
    ⟨s, ve, A', cap', l', rfl, hf.upto mo.out (yc _ _ _ _ _) (lh _ _ _ _ _), ky.grown (lh _ _ _ _ _) ky.size (fun k hk => by injection hk with hk; omega)⟩
  ·
   have hb0 : ((hi' : Int) == 0) = false := beq_eq_false_iff_ne.2 om
   clear HW Cs hh hlo hhi hM hB1 hB2 Jy y1 y2 y3 y4 hsz1 hsz2 a1 a2
   go_enter Tryz.func135, Tryz.ntmps135
   go_wp2_with fail
   obtain ⟨n1, n2, n3, hsz, hw0⟩ := qg w (.cells #[.int .i64 s1, .bool fu, .slice A1 l1.length c1] 72) (.cells #[.int .i64 s2, .bool fw, .slice A2 l2.length c2] 72) (.cells #[.int .i64 0, .bool false, .slice none 0 0] 72)
   generalize (((w.alloc (.cells #[.int .i64 s1, .bool fu, .slice A1 l1.length c1] 72)).alloc (.cells #[.int .i64 s2, .bool fw, .slice A2 l2.length c2] 72)).alloc (.cells #[.int .i64 0, .bool false, .slice none 0 0] 72)) = W0 at *
   have k1 := ae n1 0
   have k2 := ae n1 1
   have k3 := ae n1 2
   simp only [Array.getElem?_eq_getElem, mh, mg, mf] at k1 k2 k3
   have k4 := ae n2 0
   have k5 := ae n2 1
   have k6 := ae n2 2
   simp only [Array.getElem?_eq_getElem, mh, mg, mf] at k4 k5 k6
   have q0 : w.heap.size < W0.heap.size := by omega
   have q1 : w.heap.size + 1 < W0.heap.size := by omega
   have q2 : w.heap.size + 1 + 1 < W0.heap.size := by omega
   have k7 := ae n3 0
   have k8 := ae n3 1
   have k9 := ae n3 2
   simp only [Array.getElem?_eq_getElem, mh, mg, mf] at k7 k8 k9
   have f7 := bz n3 0
   have f8 := bz n3 1
   have f9 := bz n3 2
   have N3 := Lib.hid n3
   clear n3
   clear n1 n2
   have G1 := (aa Fa) W0 hw0; have G2 := (aa HG2) W0 hw0; have B1 := (aa HB1) W0 hw0; have B2 := (aa HB2) W0 hw0
   go_region_held3 (fun w' => w'.cell? ⟨w.heap.size, 0, none⟩ = some (.int .i64 s1) ∧ w'.cell? ⟨w.heap.size, 1, none⟩ = some (.bool fu) ∧ w'.cell? ⟨w.heap.size, 2, none⟩ = some (.slice A1 l1.length c1) ∧ w'.cell? ⟨w.heap.size + 1, 0, none⟩ = some (.int .i64 s2) ∧ w'.cell? ⟨w.heap.size + 1, 1, none⟩ = some (.bool fw) ∧ w'.cell? ⟨w.heap.size + 1, 2, none⟩ = some (.slice A2 l2.length c2)) ((first | exact ⟨(hc _ _ q0).trans k1, (hc _ _ q0).trans k2, (hc _ _ q0).trans k3, (hc _ _ q1).trans k4, (hc _ _ q1).trans k5, (hc _ _ q1).trans k6⟩ | exact ⟨k1, k2, k3, k4, k5, k6⟩)) (first | (go_at_call_of 146 (Value.agg #[.int .i64 s1, .bool fu, .slice A1 l1.length c1]); refine ((aa G1) _ bem).mono ?_; rintro e w' ⟨rfl, hb⟩; have hbw := fo (w := W0) bem hb; obtain ⟨hc, hfz⟩ := gp hbw) | (go_at_call_of 146 (Value.agg #[.int .i64 s2, .bool fw, .slice A2 l2.length c2]); refine ((aa G2) _ bem).mono ?_; rintro e w' ⟨rfl, hb⟩; have hbw := fo (w := W0) bem hb; obtain ⟨hc, hfz⟩ := gp hbw))
   go_wp2_with fail
   refine ((aa uo) _).mono ?_
   rintro e w1 ⟨rfl, hw1⟩
   have zm := rq (w := W0) bem hw1
   obtain ⟨hc, hfz⟩ := gp zm
   clear hw1
   go_wp2_with fail
   refine ((aa HS2) _).mono ?_
   rintro e w2 ⟨rfl, hw2⟩
   have hbw2 := rq (w := W0) bem hw2
   obtain ⟨hc, hfz⟩ := gp hbw2
   clear hw2
   go_wp2_with fail
   go_region_held3 (fun w' => w'.cell? ⟨w.heap.size, 0, none⟩ = some (.int .i64 s1) ∧ w'.cell? ⟨w.heap.size, 1, none⟩ = some (.bool fu) ∧ w'.cell? ⟨w.heap.size, 2, none⟩ = some (.slice A1 l1.length c1) ∧ w'.cell? ⟨w.heap.size + 1, 0, none⟩ = some (.int .i64 s2) ∧ w'.cell? ⟨w.heap.size + 1, 1, none⟩ = some (.bool fw) ∧ w'.cell? ⟨w.heap.size + 1, 2, none⟩ = some (.slice A2 l2.length c2)) ((first | exact ⟨(hc _ _ q0).trans k1, (hc _ _ q0).trans k2, (hc _ _ q0).trans k3, (hc _ _ q1).trans k4, (hc _ _ q1).trans k5, (hc _ _ q1).trans k6⟩ | exact ⟨k1, k2, k3, k4, k5, k6⟩)) (first | (go_at_call_of 166 (Value.int .i64 s1); refine ((aa Z1) _).mono ?_; rintro e w' ⟨rfl, Mg⟩; subst Mg) | (go_at_call_of 166 (Value.int .i64 s2); refine ((aa Z2) _).mono ?_; rintro e w' ⟨rfl, Mg⟩; subst Mg) | (go_at_call 169; refine ((aa HM) _).mono ?_; rintro e w' ⟨rfl, Mg⟩; subst Mg))
   go_wp2_with fail
   go_region_with (first | (go_at_call_of 171 (Value.agg #[.int .i64 s1, .bool fu, .slice A1 l1.length c1]); refine ((aa B1) _ bem).mono ?_; rintro e w' ⟨A5, cap5, l5, rfl, Bc, hb⟩; have hbw := fo (w := W0) bem hb; obtain ⟨hc, hfz⟩ := gp hbw) | (go_at_call_of 171 (Value.agg #[.int .i64 s2, .bool fw, .slice A2 l2.length c2]); refine ((aa B2) _ bem).mono ?_; rintro e w' ⟨A6, cap6, l6, rfl, ru, hb⟩; have ny := Bc.below hb; have hbw := fo (w := W0) bem hb; obtain ⟨hc, hfz⟩ := gp hbw) | (go_at_call 172; refine (aaw A5 A6 cap5 cap6 l5 l6 m1 m2 _ (by exact ny) (by exact ru) ((aa HLEN) _ _ _ _ _ _ _ ny ru)).mono ?_; rintro e w' ⟨A7, Au, l7, rfl, Ar, hb⟩; have hbw := fo (w := W0) bem hb; obtain ⟨hc, hfz⟩ := gp hbw) | (go_at_call 170; refine (Bi ng A7 Au l7 (m1 * m2) _ (by exact Ar)).mono ?_; rw [← HZ.out]; rintro e w' ⟨s, ve, A', cap', l', rfl, hf, hb⟩; have hbw := fo (w := W0) bem hb; obtain ⟨hc, hfz⟩ := gp hbw))
   all_goals
    have hblk : w'.heap[w.heap.size + 1 + 1]? = some (.cells #[.int .i64 0, .bool false, .slice none 0 0] 72 (0, 0)) := (hbw.block _ q2).trans N3.out
    have mo := Lib.hid hblk
    have ky : Below w.heap.size w w' := ek hw0 hbw
    clear hblk
    go_wp2_with fail
    exact bodyPost_ret (v := .agg #[.int .i64 s, .bool ve, .slice A' l'.length cap']) (by simp [results, Tryz.results135, go_sem, hc, k7, k8, k9, q2]) rfl
     ⟨s, ve, A', cap', l', rfl, hf.upto mo.out (yc _ _ _ _ _) (lh _ _ _ _ _), ky.grown (lh _ _ _ _ _) ky.size (fun k hk => by injection hk with hk; omega)⟩
 ·
  by_cases a1 : l1.length = 0
  ·
   have a2 : ¬ l2.length = 0 := fun h => hs ⟨a1, h⟩
   rw [decide_eq_true a1] at uo
   rw [decide_eq_false a2] at HS2
   clear hsz1 hsz2 hs a1 a2
   go_enter Tryz.func135, Tryz.ntmps135
   go_wp2_with fail
   obtain ⟨n1, n2, n3, hsz, hw0⟩ := qg w (.cells #[.int .i64 s1, .bool fu, .slice A1 l1.length c1] 72) (.cells #[.int .i64 s2, .bool fw, .slice A2 l2.length c2] 72) (.cells #[.int .i64 0, .bool false, .slice none 0 0] 72)
   generalize (((w.alloc (.cells #[.int .i64 s1, .bool fu, .slice A1 l1.length c1] 72)).alloc (.cells #[.int .i64 s2, .bool fw, .slice A2 l2.length c2] 72)).alloc (.cells #[.int .i64 0, .bool false, .slice none 0 0] 72)) = W0 at *
   have k1 := ae n1 0
   have k2 := ae n1 1
   have k3 := ae n1 2
   simp only [Array.getElem?_eq_getElem, mh, mg, mf] at k1 k2 k3
   have k4 := ae n2 0
   have k5 := ae n2 1
   have k6 := ae n2 2
   simp only [Array.getElem?_eq_getElem, mh, mg, mf] at k4 k5 k6
   have q0 : w.heap.size < W0.heap.size := by omega
   have q1 : w.heap.size + 1 < W0.heap.size := by omega
   have q2 : w.heap.size + 1 + 1 < W0.heap.size := by omega
   have k7 := ae n3 0
   have k8 := ae n3 1
   have k9 := ae n3 2
   simp only [Array.getElem?_eq_getElem, mh, mg, mf] at k7 k8 k9
   have f7 := bz n3 0
   have f8 := bz n3 1
   have f9 := bz n3 2
   have N3 := Lib.hid n3
   clear n3
   clear n1 n2
   have G1 := (aa Fa) W0 hw0; have G2 := (aa HG2) W0 hw0; have B1 := (aa HB1) W0 hw0; have B2 := (aa HB2) W0 hw0
   go_region_held3 (fun w' => w'.cell? ⟨w.heap.size, 0, none⟩ = some (.int .i64 s1) ∧ w'.cell? ⟨w.heap.size, 1, none⟩ = some (.bool fu) ∧ w'.cell? ⟨w.heap.size, 2, none⟩ = some (.slice A1 l1.length c1) ∧ w'.cell? ⟨w.heap.size + 1, 0, none⟩ = some (.int .i64 s2) ∧ w'.cell? ⟨w.heap.size + 1, 1, none⟩ = some (.bool fw) ∧ w'.cell? ⟨w.heap.size + 1, 2, none⟩ = some (.slice A2 l2.length c2)) ((first | exact ⟨(hc _ _ q0).trans k1, (hc _ _ q0).trans k2, (hc _ _ q0).trans k3, (hc _ _ q1).trans k4, (hc _ _ q1).trans k5, (hc _ _ q1).trans k6⟩ | exact ⟨k1, k2, k3, k4, k5, k6⟩)) (first | (go_at_call_of 146 (Value.agg #[.int .i64 s1, .bool fu, .slice A1 l1.length c1]); refine ((aa G1) _ bem).mono ?_; rintro e w' ⟨rfl, hb⟩; have hbw := fo (w := W0) bem hb; obtain ⟨hc, hfz⟩ := gp hbw) | (go_at_call_of 146 (Value.agg #[.int .i64 s2, .bool fw, .slice A2 l2.length c2]); refine ((aa G2) _ bem).mono ?_; rintro e w' ⟨rfl, hb⟩; have hbw := fo (w := W0) bem hb; obtain ⟨hc, hfz⟩ := gp hbw))
   go_wp2_with fail
   refine ((aa uo) _).mono ?_
   rintro e w1 ⟨rfl, hw1⟩
   have zm := rq (w := W0) bem hw1
   obtain ⟨hc, hfz⟩ := gp zm
   clear hw1
   go_wp2_with fail
   refine ((aa HS2) _).mono ?_
   rintro e w2 ⟨rfl, hw2⟩
   have hbw2 := rq (w := W0) bem hw2
   obtain ⟨hc, hfz⟩ := gp hbw2
   clear hw2
   go_wp2_with fail
   go_region_with (first | (go_at_call_of 171 (Value.agg #[.int .i64 s1, .bool fu, .slice A1 l1.length c1]); refine ((aa B1) _ bem).mono ?_; rintro e w' ⟨A5, cap5, l5, rfl, Bc, hb⟩; have hbw := fo (w := W0) bem hb; obtain ⟨hc, hfz⟩ := gp hbw) | (go_at_call_of 171 (Value.agg #[.int .i64 s2, .bool fw, .slice A2 l2.length c2]); refine ((aa B2) _ bem).mono ?_; rintro e w' ⟨A6, cap6, l6, rfl, ru, hb⟩; have ny := Bc.below hb; have hbw := fo (w := W0) bem hb; obtain ⟨hc, hfz⟩ := gp hbw) | (go_at_call 172; refine (aaw A5 A6 cap5 cap6 l5 l6 m1 m2 _ (by exact ny) (by exact ru) ((aa HLEN) _ _ _ _ _ _ _ ny ru)).mono ?_; rintro e w' ⟨A7, Au, l7, rfl, Ar, hb⟩; have hbw := fo (w := W0) bem hb; obtain ⟨hc, hfz⟩ := gp hbw) | (go_at_call 170; refine (Bi ng A7 Au l7 (m1 * m2) _ (by exact Ar)).mono ?_; rw [← HZ.out]; rintro e w' ⟨s, ve, A', cap', l', rfl, hf, hb⟩; have hbw := fo (w := W0) bem hb; obtain ⟨hc, hfz⟩ := gp hbw))
   all_goals
    have hblk : w'.heap[w.heap.size + 1 + 1]? = some (.cells #[.int .i64 0, .bool false, .slice none 0 0] 72 (0, 0)) := (hbw.block _ q2).trans N3.out
    have mo := Lib.hid hblk
    have ky : Below w.heap.size w w' := ek hw0 hbw
    clear hblk
    go_wp2_with fail
    exact bodyPost_ret (v := .agg #[.int .i64 s, .bool ve, .slice A' l'.length cap']) (by simp [results, Tryz.results135, go_sem, hc, k7, k8, k9, q2]) rfl
     ⟨s, ve, A', cap', l', rfl, hf.upto mo.out (yc _ _ _ _ _) (lh _ _ _ _ _), ky.grown (lh _ _ _ _ _) ky.size (fun k hk => by injection hk with hk; omega)⟩
  ·
   skip
   rw [decide_eq_false a1] at uo
   clear hsz1 hsz2 hs a1
   go_enter Tryz.func135, Tryz.ntmps135
   go_wp2_with fail
   obtain ⟨n1, n2, n3, hsz, hw0⟩ := qg w (.cells #[.int .i64 s1, .bool fu, .slice A1 l1.length c1] 72) (.cells #[.int .i64 s2, .bool fw, .slice A2 l2.length c2] 72) (.cells #[.int .i64 0, .bool false, .slice none 0 0] 72)
   generalize (((w.alloc (.cells #[.int .i64 s1, .bool fu, .slice A1 l1.length c1] 72)).alloc (.cells #[.int .i64 s2, .bool fw, .slice A2 l2.length c2] 72)).alloc (.cells #[.int .i64 0, .bool false, .slice none 0 0] 72)) = W0 at *
   have k1 := ae n1 0
   have k2 := ae n1 1
   have k3 := ae n1 2
   simp only [Array.getElem?_eq_getElem, mh, mg, mf] at k1 k2 k3
   have k4 := ae n2 0
   have k5 := ae n2 1
   have k6 := ae n2 2
   simp only [Array.getElem?_eq_getElem, mh, mg, mf] at k4 k5 k6
   have q0 : w.heap.size < W0.heap.size := by omega
   have q1 : w.heap.size + 1 < W0.heap.size := by omega
   have q2 : w.heap.size + 1 + 1 < W0.heap.size := by omega
   have k7 := ae n3 0
   have k8 := ae n3 1
   have k9 := ae n3 2
   simp only [Array.getElem?_eq_getElem, mh, mg, mf] at k7 k8 k9
   have f7 := bz n3 0
   have f8 := bz n3 1
   have f9 := bz n3 2
   have N3 := Lib.hid n3
   clear n3
   clear n1 n2
   have G1 := (aa Fa) W0 hw0; have G2 := (aa HG2) W0 hw0; have B1 := (aa HB1) W0 hw0; have B2 := (aa HB2) W0 hw0
   go_region_held3 (fun w' => w'.cell? ⟨w.heap.size, 0, none⟩ = some (.int .i64 s1) ∧ w'.cell? ⟨w.heap.size, 1, none⟩ = some (.bool fu) ∧ w'.cell? ⟨w.heap.size, 2, none⟩ = some (.slice A1 l1.length c1) ∧ w'.cell? ⟨w.heap.size + 1, 0, none⟩ = some (.int .i64 s2) ∧ w'.cell? ⟨w.heap.size + 1, 1, none⟩ = some (.bool fw) ∧ w'.cell? ⟨w.heap.size + 1, 2, none⟩ = some (.slice A2 l2.length c2)) ((first | exact ⟨(hc _ _ q0).trans k1, (hc _ _ q0).trans k2, (hc _ _ q0).trans k3, (hc _ _ q1).trans k4, (hc _ _ q1).trans k5, (hc _ _ q1).trans k6⟩ | exact ⟨k1, k2, k3, k4, k5, k6⟩)) (first | (go_at_call_of 146 (Value.agg #[.int .i64 s1, .bool fu, .slice A1 l1.length c1]); refine ((aa G1) _ bem).mono ?_; rintro e w' ⟨rfl, hb⟩; have hbw := fo (w := W0) bem hb; obtain ⟨hc, hfz⟩ := gp hbw) | (go_at_call_of 146 (Value.agg #[.int .i64 s2, .bool fw, .slice A2 l2.length c2]); refine ((aa G2) _ bem).mono ?_; rintro e w' ⟨rfl, hb⟩; have hbw := fo (w := W0) bem hb; obtain ⟨hc, hfz⟩ := gp hbw))
   go_wp2_with fail
   refine ((aa uo) _).mono ?_
   rintro e w1 ⟨rfl, hw1⟩
   have zm := rq (w := W0) bem hw1
   obtain ⟨hc, hfz⟩ := gp zm
   clear hw1
   go_wp2_with fail
   go_region_with (first | (go_at_call_of 171 (Value.agg #[.int .i64 s1, .bool fu, .slice A1 l1.length c1]); refine ((aa B1) _ bem).mono ?_; rintro e w' ⟨A5, cap5, l5, rfl, Bc, hb⟩; have hbw := fo (w := W0) bem hb; obtain ⟨hc, hfz⟩ := gp hbw) | (go_at_call_of 171 (Value.agg #[.int .i64 s2, .bool fw, .slice A2 l2.length c2]); refine ((aa B2) _ bem).mono ?_; rintro e w' ⟨A6, cap6, l6, rfl, ru, hb⟩; have ny := Bc.below hb; have hbw := fo (w := W0) bem hb; obtain ⟨hc, hfz⟩ := gp hbw) | (go_at_call 172; refine (aaw A5 A6 cap5 cap6 l5 l6 m1 m2 _ (by exact ny) (by exact ru) ((aa HLEN) _ _ _ _ _ _ _ ny ru)).mono ?_; rintro e w' ⟨A7, Au, l7, rfl, Ar, hb⟩; have hbw := fo (w := W0) bem hb; obtain ⟨hc, hfz⟩ := gp hbw) | (go_at_call 170; refine (Bi ng A7 Au l7 (m1 * m2) _ (by exact Ar)).mono ?_; rw [← HZ.out]; rintro e w' ⟨s, ve, A', cap', l', rfl, hf, hb⟩; have hbw := fo (w := W0) bem hb; obtain ⟨hc, hfz⟩ := gp hbw))
   all_goals
    have hblk : w'.heap[w.heap.size + 1 + 1]? = some (.cells #[.int .i64 0, .bool false, .slice none 0 0] 72 (0, 0)) := (hbw.block _ q2).trans N3.out
    have mo := Lib.hid hblk
    have ky : Below w.heap.size w w' := ek hw0 hbw
    clear hblk
    go_wp2_with fail
    exact bodyPost_ret (v := .agg #[.int .i64 s, .bool ve, .slice A' l'.length cap']) (by simp [results, Tryz.results135, go_sem, hc, k7, k8, k9, q2]) rfl
     ⟨s, ve, A', cap', l', rfl, hf.upto mo.out (yc _ _ _ _ _) (lh _ _ _ _ _), ky.grown (lh _ _ _ _ _) ky.size (fun k hk => by injection hk with hk; omega)⟩

end Go.Proofs.YtfbcdfoohpkfeaaGreatDoor
namespace Go.Proofs.YtfbcdfoohpkfeaaGreatDoor
open Go.RowKit

structure Fr (Wp W : World) (b : Nat) : Prop where
 old : Wp.heap.size ≤ b
 zero : W.heap[b]? = some (.cells #[.int .i64 0, .bool false, .slice none 0 0] 72 (0, 0))
theorem lt_of_block {W : World} {b : Nat} {o : Obj} (h : W.heap[b]? = some o) : b < W.heap.size := by
 rcases Nat.lt_or_ge b W.heap.size with hlt | hge
 ·
  exact hlt
 ·
  rw [Array.getElem?_eq_none hge] at h; cases h
theorem Fr.lt {Wp W : World} {b : Nat} (h : Fr Wp W b) : b < W.heap.size := lt_of_block h.zero
theorem Fr.drew {Wp W : World} {b : Nat} (h : Fr Wp W b) : Fr Wp W.drew b := ⟨h.old, h.zero⟩
theorem Fr.drewN {Wp W : World} {b : Nat} {n : Nat} (h : Fr Wp W b) : Fr Wp (W.drewN n) b := ⟨h.old, h.zero⟩
theorem Fr.below {Wp W w' : World} {b : Nat} (h : Fr Wp W b) (hb : Below W.heap.size W w') : Fr Wp w' b := ⟨h.old, (hb.block _ h.lt).trans h.zero⟩
theorem Fr.new {Wp W : World} {b : Nat} (hb : Below Wp.heap.size Wp W) (e : b = W.heap.size) : Fr Wp (W.alloc (.cells #[.int .i64 0, .bool false, .slice none 0 0] 72 (0, 0))) b := by
 subst e; exact ⟨hb.size, heap_alloc_new W _⟩
structure Ko (Wp W : World) (b c : Nat) : Prop where
 one : Fr Wp W b
 two : Fr Wp W c
 ne : b ≠ c
theorem Ko.drew {Wp W : World} {b c : Nat} (h : Ko Wp W b c) : Ko Wp W.drew b c := ⟨h.one.drew, h.two.drew, h.ne⟩
theorem Ko.drewN {Wp W : World} {b c n : Nat} (h : Ko Wp W b c) : Ko Wp (W.drewN n) b c := ⟨h.one.drewN, h.two.drewN, h.ne⟩
theorem Ko.below {Wp W w' : World} {b c : Nat} (h : Ko Wp W b c) (hb : Below W.heap.size W w') : Ko Wp w' b c := ⟨h.one.below hb, h.two.below hb, h.ne⟩
theorem Ko.Xe {Wp W : World} {b c : Nat} (h : Fr Wp W b) (e : c = W.heap.size) : Ko Wp (W.alloc (.cells #[.int .i64 0, .bool false, .slice none 0 0] 72 (0, 0))) b c := by
 have hl := h.lt
 have ho := h.old
 subst e
 exact ⟨⟨ho, (Below.heap_alloc W _ b hl).trans h.zero⟩, ⟨by omega, heap_alloc_new W _⟩, by omega⟩
theorem Ko.Xf {Wp W : World} {b c : Nat} (h : Fr Wp W c) (e : b = W.heap.size) : Ko Wp (W.alloc (.cells #[.int .i64 0, .bool false, .slice none 0 0] 72 (0, 0))) b c := by
 have hl := h.lt
 have ho := h.old
 subst e
 exact ⟨⟨by omega, heap_alloc_new W _⟩, ⟨ho, (Below.heap_alloc W _ c hl).trans h.zero⟩, by omega⟩

def Bq (w : World) (b : Nat) (z : Int) : Prop := ∃ s neg A cap l, w.heap[b]? = some (.cells #[.int .i64 s, .bool neg, .slice A (List.length l) cap] 72 (0, 0)) ∧ ig w s neg A cap l z
theorem Bq.below {w w' : World} {b : Nat} {z : Int} (h : Bq w b z) (hb : Below w.heap.size w w') : Bq w' b z := by
 obtain ⟨s, neg, A, cap, l, h1, h2⟩ := h
 exact ⟨s, neg, A, cap, l, (hb.block _ (lt_of_block h1)).trans h1, h2.below hb⟩
theorem Sc {W : World} {b : Nat} {a0 a1 a2 u0 u1 u2 : Value} {T : TypeId} (h : W.heap[b]? = some (.cells #[a0, a1, a2] T (0, 0))) : (((W.setCell ⟨b, 0, none⟩ u0).setCell ⟨b, 1, none⟩ u1).setCell ⟨b, 2, none⟩ u2).heap[b]? = some (.cells #[u0, u1, u2] T (0, 0)) := by
 simp [World.setCell, Array.getElem?_modify, h]
theorem Bq.new {W : World} {b : Nat} {s1 : Int} {fu : Bool} {A1 : Option Addr} {c1 : Nat} {l1 : List Nat} {z1 : Int} (h1 : ig W s1 fu A1 c1 l1 z1) (e : b = W.heap.size) : Bq (W.alloc (.cells #[.int .i64 s1, .bool fu, .slice A1 l1.length c1] 72)) b z1 := by
 subst e; exact ⟨s1, fu, A1, c1, l1, heap_alloc_new W _, h1.below ((Below.refl _ _).alloc (Nat.le_refl _) _)⟩
theorem Bq.alloc {W : World} {b : Nat} {z : Int} {o : Obj} (h : Bq W b z) : Bq (W.alloc o) b z := h.below ((Below.refl _ _).alloc (Nat.le_refl _) _)
theorem ig.alloc {W : World} {o : Obj} {s1 : Int} {fu : Bool} {A1 : Option Addr} {c1 : Nat} {l1 : List Nat} {z1 : Int} (h1 : ig W s1 fu A1 c1 l1 z1) : ig (W.alloc o) s1 fu A1 c1 l1 z1 := h1.below ((Below.refl _ _).alloc (Nat.le_refl _) _)
theorem Fr.alloc {Wp W : World} {b : Nat} {o : Obj} (h : Fr Wp W b) : Fr Wp (W.alloc o) b := ⟨h.old, (Below.heap_alloc W _ b h.lt).trans h.zero⟩
theorem Fr.facts {Wp W : World} {b : Nat} (h : Fr Wp W b) : (W.cell? ⟨b, 0, none⟩ = some (.int .i64 0) ∧ W.cell? ⟨b, 1, none⟩ = some (.bool false) ∧ W.cell? ⟨b, 2, none⟩ = some (.slice none 0 0)) ∧
  (W.frozen? ⟨b, 0, none⟩ = false ∧ W.frozen? ⟨b, 1, none⟩ = false ∧ W.frozen? ⟨b, 2, none⟩ = false) ∧
  ((∀ o, (W.alloc o).cell? ⟨b, 0, none⟩ = some (.int .i64 0)) ∧ (∀ o, (W.alloc o).cell? ⟨b, 1, none⟩ = some (.bool false)) ∧ (∀ o, (W.alloc o).cell? ⟨b, 2, none⟩ = some (.slice none 0 0))) ∧
  ((∀ o, (W.alloc o).frozen? ⟨b, 0, none⟩ = false) ∧ (∀ o, (W.alloc o).frozen? ⟨b, 1, none⟩ = false) ∧ (∀ o, (W.alloc o).frozen? ⟨b, 2, none⟩ = false)) ∧
  ¬ (b = W.heap.size) ∧ ¬ (W.heap.size = b) :=
 ⟨⟨ae h.zero 0, ae h.zero 1, ae h.zero 2⟩, ⟨bz h.zero 0, bz h.zero 1, bz h.zero 2⟩,
  ⟨fun o => ae (h.alloc (o := o)).zero 0, fun o => ae (h.alloc (o := o)).zero 1, fun o => ae (h.alloc (o := o)).zero 2⟩,
  ⟨fun o => bz (h.alloc (o := o)).zero 0, fun o => bz (h.alloc (o := o)).zero 1, fun o => bz (h.alloc (o := o)).zero 2⟩, by have := h.lt; omega, by have := h.lt; omega⟩
theorem Qz {Wp W : World} {b : Nat} {s1 : Int} {fu : Bool} {A1 : Option Addr} {c1 : Nat} {l1 : List Nat} {z1 : Int} (hf : Fr Wp W b) (h1 : ig W s1 fu A1 c1 l1 z1) (hb : Below Wp.heap.size Wp W) :
  Bq (((W.setCell ⟨b, 0, none⟩ (.int .i64 s1)).setCell ⟨b, 1, none⟩ (.bool fu)).setCell ⟨b, 2, none⟩ (.slice A1 l1.length c1)) b z1 ∧ Below Wp.heap.size Wp (((W.setCell ⟨b, 0, none⟩ (.int .i64 s1)).setCell ⟨b, 1, none⟩ (.bool fu)).setCell ⟨b, 2, none⟩ (.slice A1 l1.length c1)) ∧ Wp.heap.size ≤ b :=
 ⟨⟨s1, fu, A1, c1, l1, Sc hf.zero, h1.upto hf.zero (yc _ _ _ _ _) (lh _ _ _ _ _)⟩, hb.grown (lh _ _ _ _ _) hb.size (fun k hk => by injection hk with hk; have := hf.old; omega), hf.old⟩
theorem Yq {Wp W : World} {b : Nat} {s1 : Int} {fu : Bool} {A1 : Option Addr} {c1 : Nat} {l1 : List Nat} {z1 : Int} (h1 : ig W s1 fu A1 c1 l1 z1) (hb : Below Wp.heap.size Wp W) (e : b = W.heap.size) :
  Bq (W.alloc (.cells #[.int .i64 s1, .bool fu, .slice A1 l1.length c1] 72)) b z1 ∧ Below Wp.heap.size Wp (W.alloc (.cells #[.int .i64 s1, .bool fu, .slice A1 l1.length c1] 72)) ∧ Wp.heap.size ≤ b :=
 ⟨Bq.new h1 e, hb.alloc hb.size _, by have := hb.size; omega⟩
theorem Nt {Wp W : World} {b c : Nat} {s1 : Int} {fu : Bool} {A1 : Option Addr} {c1 : Nat} {l1 : List Nat} {z1 : Int} {s2 : Int} {fw : Bool} {A2 : Option Addr} {c2 : Nat} {l2 : List Nat} {z2 : Int} (hf : Ko Wp W b c) (h1 : ig W s1 fu A1 c1 l1 z1) (h2 : ig W s2 fw A2 c2 l2 z2) (hb : Below Wp.heap.size Wp W) :
  Bq ((((((W.setCell ⟨b, 0, none⟩ (.int .i64 s1)).setCell ⟨b, 1, none⟩ (.bool fu)).setCell ⟨b, 2, none⟩ (.slice A1 l1.length c1)).setCell ⟨c, 0, none⟩ (.int .i64 s2)).setCell ⟨c, 1, none⟩ (.bool fw)).setCell ⟨c, 2, none⟩ (.slice A2 l2.length c2)) b z1 ∧ Bq ((((((W.setCell ⟨b, 0, none⟩ (.int .i64 s1)).setCell ⟨b, 1, none⟩ (.bool fu)).setCell ⟨b, 2, none⟩ (.slice A1 l1.length c1)).setCell ⟨c, 0, none⟩ (.int .i64 s2)).setCell ⟨c, 1, none⟩ (.bool fw)).setCell ⟨c, 2, none⟩ (.slice A2 l2.length c2)) c z2 ∧ Below Wp.heap.size Wp ((((((W.setCell ⟨b, 0, none⟩ (.int .i64 s1)).setCell ⟨b, 1, none⟩ (.bool fu)).setCell ⟨b, 2, none⟩ (.slice A1 l1.length c1)).setCell ⟨c, 0, none⟩ (.int .i64 s2)).setCell ⟨c, 1, none⟩ (.bool fw)).setCell ⟨c, 2, none⟩ (.slice A2 l2.length c2)) ∧ Wp.heap.size ≤ b ∧ Wp.heap.size ≤ c := by
 have g1 := lh W b (.int .i64 s1) (.bool fu) (.slice A1 l1.length c1)
 have k2 := h2.upto hf.one.zero (yc _ _ _ _ _) g1
 have kc := (g1.block c hf.two.lt (fun e => hf.ne (by injection e with e; exact e.symm))).trans hf.two.zero
 have kb := (Qz hf.one h1 hb)
 have ks := kb.2.1.size
 obtain ⟨⟨s, neg, A, cap, l, e1, e2⟩, kb2, _⟩ := kb
 have g2 := lh (((W.setCell ⟨b, 0, none⟩ (.int .i64 s1)).setCell ⟨b, 1, none⟩ (.bool fu)).setCell ⟨b, 2, none⟩ (.slice A1 l1.length c1)) c (.int .i64 s2) (.bool fw) (.slice A2 l2.length c2)
 exact ⟨⟨s, neg, A, cap, l, (g2.block b (lt_of_block e1) (fun e => hf.ne (by injection e))).trans e1, e2.upto kc (yc _ _ _ _ _) g2⟩,
  ⟨s2, fw, A2, c2, l2, Sc kc, k2.upto kc (yc _ _ _ _ _) g2⟩, kb2.grown g2 ks (fun k hk => by injection hk with hk; have := hf.two.old; omega), hf.one.old, hf.two.old⟩
theorem aes {Wp W : World} {b c : Nat} {s1 : Int} {fu : Bool} {A1 : Option Addr} {c1 : Nat} {l1 : List Nat} {z1 : Int} {s2 : Int} {fw : Bool} {A2 : Option Addr} {c2 : Nat} {l2 : List Nat} {z2 : Int} (h1 : ig W s1 fu A1 c1 l1 z1) (h2 : ig W s2 fw A2 c2 l2 z2) (hb : Below Wp.heap.size Wp W) (eb : b = W.heap.size) (ec : c = W.heap.size + 1) :
  Bq ((W.alloc (.cells #[.int .i64 s1, .bool fu, .slice A1 l1.length c1] 72)).alloc (.cells #[.int .i64 s2, .bool fw, .slice A2 l2.length c2] 72)) b z1 ∧ Bq ((W.alloc (.cells #[.int .i64 s1, .bool fu, .slice A1 l1.length c1] 72)).alloc (.cells #[.int .i64 s2, .bool fw, .slice A2 l2.length c2] 72)) c z2 ∧ Below Wp.heap.size Wp ((W.alloc (.cells #[.int .i64 s1, .bool fu, .slice A1 l1.length c1] 72)).alloc (.cells #[.int .i64 s2, .bool fw, .slice A2 l2.length c2] 72)) ∧ Wp.heap.size ≤ b ∧ Wp.heap.size ≤ c :=
 ⟨(Bq.new h1 eb).alloc, Bq.new h2.alloc (by rw [ec, World.size_alloc]), (hb.alloc hb.size _).alloc (hb.alloc hb.size _).size _, by have := hb.size; omega, by have := hb.size; omega⟩
theorem aol {Wp W : World} {b c : Nat} {s1 : Int} {fu : Bool} {A1 : Option Addr} {c1 : Nat} {l1 : List Nat} {z1 : Int} {s2 : Int} {fw : Bool} {A2 : Option Addr} {c2 : Nat} {l2 : List Nat} {z2 : Int} (h1 : ig W s1 fu A1 c1 l1 z1) (h2 : ig W s2 fw A2 c2 l2 z2) (hb : Below Wp.heap.size Wp W) (ec : c = W.heap.size) (eb : b = W.heap.size + 1) :
  Bq ((W.alloc (.cells #[.int .i64 s2, .bool fw, .slice A2 l2.length c2] 72)).alloc (.cells #[.int .i64 s1, .bool fu, .slice A1 l1.length c1] 72)) b z1 ∧ Bq ((W.alloc (.cells #[.int .i64 s2, .bool fw, .slice A2 l2.length c2] 72)).alloc (.cells #[.int .i64 s1, .bool fu, .slice A1 l1.length c1] 72)) c z2 ∧ Below Wp.heap.size Wp ((W.alloc (.cells #[.int .i64 s2, .bool fw, .slice A2 l2.length c2] 72)).alloc (.cells #[.int .i64 s1, .bool fu, .slice A1 l1.length c1] 72)) ∧ Wp.heap.size ≤ b ∧ Wp.heap.size ≤ c := by
 obtain ⟨x1, x2, x3, x4, x5⟩ := aes h2 h1 hb ec eb
 exact ⟨x2, x1, x3, x5, x4⟩
theorem aok {Wp W : World} {b c : Nat} {s1 : Int} {fu : Bool} {A1 : Option Addr} {c1 : Nat} {l1 : List Nat} {z1 : Int} {s2 : Int} {fw : Bool} {A2 : Option Addr} {c2 : Nat} {l2 : List Nat} {z2 : Int} (hf : Fr Wp W c) (h1 : ig W s1 fu A1 c1 l1 z1) (h2 : ig W s2 fw A2 c2 l2 z2) (hb : Below Wp.heap.size Wp W) (eb : b = W.heap.size) :
  Bq ((((W.alloc (.cells #[.int .i64 s1, .bool fu, .slice A1 l1.length c1] 72)).setCell ⟨c, 0, none⟩ (.int .i64 s2)).setCell ⟨c, 1, none⟩ (.bool fw)).setCell ⟨c, 2, none⟩ (.slice A2 l2.length c2)) b z1 ∧ Bq ((((W.alloc (.cells #[.int .i64 s1, .bool fu, .slice A1 l1.length c1] 72)).setCell ⟨c, 0, none⟩ (.int .i64 s2)).setCell ⟨c, 1, none⟩ (.bool fw)).setCell ⟨c, 2, none⟩ (.slice A2 l2.length c2)) c z2 ∧ Below Wp.heap.size Wp ((((W.alloc (.cells #[.int .i64 s1, .bool fu, .slice A1 l1.length c1] 72)).setCell ⟨c, 0, none⟩ (.int .i64 s2)).setCell ⟨c, 1, none⟩ (.bool fw)).setCell ⟨c, 2, none⟩ (.slice A2 l2.length c2)) ∧ Wp.heap.size ≤ b ∧ Wp.heap.size ≤ c := by
 have hl := hf.lt
 have hx := Qz hf.alloc h2.alloc (hb.alloc hb.size (.cells #[.int .i64 s1, .bool fu, .slice A1 l1.length c1] 72))
 have hn := (Bq.new h1 eb)
 obtain ⟨s, neg, A, cap, l, e1, e2⟩ := hn
 have g2 := lh (W.alloc (.cells #[.int .i64 s1, .bool fu, .slice A1 l1.length c1] 72)) c (.int .i64 s2) (.bool fw) (.slice A2 l2.length c2)
 exact ⟨⟨s, neg, A, cap, l, (g2.block b (lt_of_block e1) (fun e => by injection e with e; omega)).trans e1, e2.upto (hf.alloc (o := _)).zero (yc _ _ _ _ _) g2⟩, hx.1, hx.2.1, by have := hb.size; omega, hx.2.2⟩
theorem jk {W W' : World} (h : Below W.heap.size W W') (o : Obj) : Below W.heap.size W (W'.alloc o) := h.alloc h.size o
theorem bel {P : Prop} (h : P := by (repeat (first | with_reducible exact Below.refl _ _ | with_reducible assumption | with_reducible refine Below.drew ?_ | with_reducible refine jk ?_ _))) : P := h
theorem au {W W' : World} {b o : Nat} {v : Value} (hB : Below W.heap.size W W') (q : b < W.heap.size) (k : W.cell? ⟨b, o, none⟩ = some v) : W'.cell? ⟨b, o, none⟩ = some v := (hB.cell (p := ⟨b, o, none⟩) q).trans k
theorem Jm {W W' : World} {g : Nat} (hB : Below W.heap.size W W') (hg : W.heap.size ≤ g) (o : Nat) (u : Value) : Below W.heap.size W (W'.setCell ⟨g, o, none⟩ u) :=
 hB.grown (qm (yu _ (some g)) o u) hB.size (fun k hk => by injection hk with hk; omega)
def Ec (w : World) (F : Nat) (a b c : Int) : Prop := ∀ (s1 : Int) (fu : Bool) (A1 : Option Addr) (c1 : Nat) (l1 : List Nat) (s2 : Int) (fw : Bool) (A2 : Option Addr) (c2 : Nat) (l2 : List Nat) (W : World), Below w.heap.size w W → ig W s1 fu A1 c1 l1 a → ig W s2 fw A2 c2 l2 b → Calls Tryz.prog F #[(Value.agg #[.int .i64 s1, .bool fu, .slice A1 l1.length c1]), (Value.agg #[.int .i64 s2, .bool fw, .slice A2 l2.length c2])] W fun e w' => Ez W c e w'
theorem Ra {w : World} {a b c : Int} {K : Nat} (hT : xg w) (ha : Wd.Sz gy K a) (hb : Wd.Sz gy K b) (hK : K ≤ lim) (e : c = ((a.natAbs.gcd b.natAbs : Nat) : Int)) : Ec w 143 a b c := by
 subst e
 exact fun s1 fu A1 c1 l1 s2 fw A2 c2 l2 W hW f1 f2 => auq s1 fu A1 c1 l1 a s2 fw A2 c2 l2 b W f1 f2 (f1.fit ha hK) (f2.fit hb hK) (hT.below hW)
theorem Fp {w : World} {a b c : Int} {K : Nat} (ha : Wd.Sz gy K a) (hb : Wd.Sz gy K b) (hK : K ≤ lim) (h0 : b ≠ 0) (e : c = a.tdiv b) : Ec w 144 a b c := by
 subst e
 exact fun s1 fu A1 c1 l1 s2 fw A2 c2 l2 W hW f1 f2 => auo s1 fu A1 c1 l1 a s2 fw A2 c2 l2 b W f1 f2 (f1.fit ha hK) (f2.fit hb hK) h0
theorem Mc {w : World} {a b c : Int} {K : Nat} (ha : Wd.Sz gy K a) (hb : Wd.Sz gy K b) (hK : K ≤ lim) (e : c = a * b) : Ec w 135 a b c := by
 subst e
 exact fun s1 fu A1 c1 l1 s2 fw A2 c2 l2 W hW f1 f2 => aup s1 fu A1 c1 l1 a s2 fw A2 c2 l2 b W f1 f2 (f1.fit ha hK) (f2.fit hb hK)
theorem aoq {w : World} {a b c : Int} {K : Nat} (ha : Wd.Sz gy K a) (hb : Wd.Sz gy K b) (hK : K ≤ lim) (e : c = a + b) : Ec w 145 a b c := by
 subst e
 exact fun s1 fu A1 c1 l1 s2 fw A2 c2 l2 W hW f1 f2 => aus s1 fu A1 c1 l1 a s2 fw A2 c2 l2 b W f1 f2 (f1.fit ha hK) (f2.fit hb hK)

end Go.Proofs.YtfbcdfoohpkfeaaGreatDoor
namespace Go.Proofs.YtfbcdfoohpkfeaaGreatDoor
open Go.RowKit

set_option maxHeartbeats 16000000 in
theorem aoh (s1 : Int) (fu : Bool) (A1 : Option Addr) (c1 : Nat) (l1 : List Nat) (s2 : Int) (fw : Bool) (A2 : Option Addr) (c2 : Nat) (l2 : List Nat) (s3 : Int) (uq : Bool) (A3 : Option Addr) (c3 : Nat) (l3 : List Nat) (s4 : Int) (uk : Bool) (A4 : Option Addr) (c4 : Nat) (l4 : List Nat) (z1 z2 z3 z4 g xd yd m1 m2 n h r1 e1 r2 : Int) (w : World) (f1 : ig w s1 fu A1 c1 l1 z1) (f2 : ig w s2 fw A2 c2 l2 z2) (f3 : ig w s3 uq A3 c3 l3 z3) (f4 : ig w s4 uk A4 c4 l4 z4)
  (hg : Ec w 143 z2 z4 g) (hxd : Ec w 144 z2 g xd) (Zo : Ec w 144 z4 g yd) (hm1 : Ec w 135 z1 yd m1) (hm2 : Ec w 135 z3 xd m2) (hn : Ec w 145 m1 m2 n) (hh : Ec w 143 g n h) (hr1 : Ec w 144 n h r1) (he : Ec w 144 z4 h e1) (hr2 : Ec w 135 xd e1 r2) :
  Calls Tryz.prog 78 #[(Value.agg #[.int .i64 s1, .bool fu, .slice A1 l1.length c1, .int .i64 s2, .bool fw, .slice A2 l2.length c2]), (Value.agg #[.int .i64 s3, .bool uq, .slice A3 l3.length c3, .int .i64 s4, .bool uk, .slice A4 l4.length c4])] w fun e w' => Ia w r1 r2 e w' := by
 have H1 := hide f1
 have H2 := hide f2
 have H3 := hide f3
 have H4 := hide f4
 clear f1 f2 f3 f4
 have HG := hide hg
 have HXD := hide hxd
 have HYD := hide Zo
 have HM1 := hide hm1
 have HM2 := hide hm2
 have HN := hide hn
 have HH := hide hh
 have HR1 := hide hr1
 have HE := hide he
 have HR2 := hide hr2
 clear hg hxd Zo hm1 hm2 hn hh hr1 he hr2
 go_enter Tryz.func78, Tryz.ntmps78
 go_upto_region 1 with fail
 obtain ⟨n0, n1, n2, hsz, hw0⟩ := qg w (.cells #[.int .i64 s1, .bool fu, .slice A1 l1.length c1, .int .i64 s2, .bool fw, .slice A2 l2.length c2] 74) (.cells #[.int .i64 s3, .bool uq, .slice A3 l3.length c3, .int .i64 s4, .bool uk, .slice A4 l4.length c4] 74) (.cells #[.int .i64 0, .bool false, .slice none 0 0, .int .i64 0, .bool false, .slice none 0 0] 74)
 generalize (((w.alloc (.cells #[.int .i64 s1, .bool fu, .slice A1 l1.length c1, .int .i64 s2, .bool fw, .slice A2 l2.length c2] 74)).alloc (.cells #[.int .i64 s3, .bool uq, .slice A3 l3.length c3, .int .i64 s4, .bool uk, .slice A4 l4.length c4] 74)).alloc (.cells #[.int .i64 0, .bool false, .slice none 0 0, .int .i64 0, .bool false, .slice none 0 0] 74)) = W0 at *
 have oz : W0.cell? ⟨w.heap.size, 0, none⟩ = some (.int .i64 s1) := ae n0 0
 have ou : W0.cell? ⟨w.heap.size, 1, none⟩ = some (.bool fu) := ae n0 1
 have qh : W0.cell? ⟨w.heap.size, 2, none⟩ = some (.slice A1 l1.length c1) := ae n0 2
 have qz : W0.cell? ⟨w.heap.size, 3, none⟩ = some (.int .i64 s2) := ae n0 3
 have zf : W0.cell? ⟨w.heap.size, 4, none⟩ = some (.bool fw) := ae n0 4
 have ze : W0.cell? ⟨w.heap.size, 5, none⟩ = some (.slice A2 l2.length c2) := ae n0 5
 have q0 : w.heap.size < W0.heap.size := by omega
 have qb : W0.cell? ⟨w.heap.size + 1, 0, none⟩ = some (.int .i64 s3) := ae n1 0
 have qa : W0.cell? ⟨w.heap.size + 1, 1, none⟩ = some (.bool uq) := ae n1 1
 have rz : W0.cell? ⟨w.heap.size + 1, 2, none⟩ = some (.slice A3 l3.length c3) := ae n1 2
 have uj : W0.cell? ⟨w.heap.size + 1, 3, none⟩ = some (.int .i64 s4) := ae n1 3
 have Bp : W0.cell? ⟨w.heap.size + 1, 4, none⟩ = some (.bool uk) := ae n1 4
 have Bo : W0.cell? ⟨w.heap.size + 1, 5, none⟩ = some (.slice A4 l4.length c4) := ae n1 5
 have q1 : w.heap.size + 1 < W0.heap.size := by omega
 have za : W0.cell? ⟨w.heap.size + 1 + 1, 0, none⟩ = some (.int .i64 0) := ae n2 0
 have yz : W0.cell? ⟨w.heap.size + 1 + 1, 1, none⟩ = some (.bool false) := ae n2 1
 have yx : W0.cell? ⟨w.heap.size + 1 + 1, 2, none⟩ = some (.slice none 0 0) := ae n2 2
 have yw : W0.cell? ⟨w.heap.size + 1 + 1, 3, none⟩ = some (.int .i64 0) := ae n2 3
 have Ey : W0.cell? ⟨w.heap.size + 1 + 1, 4, none⟩ = some (.bool false) := ae n2 4
 have Ex : W0.cell? ⟨w.heap.size + 1 + 1, 5, none⟩ = some (.slice none 0 0) := ae n2 5
 have q2 : w.heap.size + 1 + 1 < W0.heap.size := by omega
 have Ae := bz n2 0
 have Ad := bz n2 1
 have Ac := bz n2 2
 have zz := bz n2 3
 have Gw := bz n2 4
 have Gv := bz n2 5
 have NR := Lib.hid n2
 clear hsz n0 n1 n2
 replace H1 := hide ((aa H1).below hw0)
 replace H2 := hide ((aa H2).below hw0)
 replace H3 := hide ((aa H3).below hw0)
 replace H4 := hide ((aa H4).below hw0)
 go_upto_region 1 with fail
 go_cut [5] (fun Qv wx => ∃ b5 : Nat, Qv = .pointer (some ⟨b5, 0, none⟩) ∧ Bq wx b5 g ∧ Below W0.heap.size W0 wx ∧ W0.heap.size ≤ b5)
 case first =>
  go_wp2_with fail
  (go_at_call_of 143 (Value.agg #[.int .i64 s2, .bool fw, .slice A2 l2.length c2]); refine ((aa HG) s2 fw A2 c2 l2 s4 uk A4 c4 l4 _ (ek hw0 bel) (ig.below (aa H2) bel) (ig.below (aa H4) bel)).mono ?_; rintro e w' ⟨s5, yf, A5, c5, l5, rfl, tq, hb5⟩; have hbw := fo (w := W0) bel hb5; have hsw := hbw.size; obtain ⟨hc, hfz⟩ := gp hbw)
  (go_wp2_with fail; go_meet; refine ⟨_, rfl, ?_⟩; first | with_reducible exact Qz (by assumption) tq hbw | with_reducible exact Yq tq hbw rfl)
 case rest =>
  revert hcut
  generalize wc = W1
  intro hcut
  obtain ⟨b5, rfl, B5, hbx, Km⟩ := hcut
  obtain ⟨hc, hfz⟩ := gp hbx
  replace oz := (hc _ _ q0).trans oz
  replace ou := (hc _ _ q0).trans ou
  replace qh := (hc _ _ q0).trans qh
  replace qz := (hc _ _ q0).trans qz
  replace zf := (hc _ _ q0).trans zf
  replace ze := (hc _ _ q0).trans ze
  replace q0 := Nat.lt_of_lt_of_le q0 hbx.size
  replace qb := (hc _ _ q1).trans qb
  replace qa := (hc _ _ q1).trans qa
  replace rz := (hc _ _ q1).trans rz
  replace uj := (hc _ _ q1).trans uj
  replace Bp := (hc _ _ q1).trans Bp
  replace Bo := (hc _ _ q1).trans Bo
  replace q1 := Nat.lt_of_lt_of_le q1 hbx.size
  replace Km : w.heap.size + 1 + 1 < b5 := Nat.lt_of_lt_of_le q2 Km
  replace za := (hc _ _ q2).trans za
  replace Ae := (hfz _ _ q2).trans Ae
  replace yz := (hc _ _ q2).trans yz
  replace Ad := (hfz _ _ q2).trans Ad
  replace yx := (hc _ _ q2).trans yx
  replace Ac := (hfz _ _ q2).trans Ac
  replace yw := (hc _ _ q2).trans yw
  replace zz := (hfz _ _ q2).trans zz
  replace Ey := (hc _ _ q2).trans Ey
  replace Gw := (hfz _ _ q2).trans Gw
  replace Ex := (hc _ _ q2).trans Ex
  replace Gv := (hfz _ _ q2).trans Gv
  replace NR := Lib.hid ((hbx.block _ q2).trans NR.out)
  replace q2 := Nat.lt_of_lt_of_le q2 hbx.size
  replace hw0 := ek hw0 hbx
  replace H1 := hide ((aa H1).below hbx)
  replace H2 := hide ((aa H2).below hbx)
  replace H3 := hide ((aa H3).below hbx)
  replace H4 := hide ((aa H4).below hbx)
  obtain ⟨s5, yf, A5, c5, l5, n5, H5⟩ := B5
  have Ai : W1.cell? ⟨b5, 0, none⟩ = some (.int .i64 s5) := ae n5 0
  have Ah : W1.cell? ⟨b5, 1, none⟩ = some (.bool yf) := ae n5 1
  have Ls : W1.cell? ⟨b5, 2, none⟩ = some (.slice A5 l5.length c5) := ae n5 2
  have yh := lt_of_block n5
  replace H5 := hide H5
  clear n5
  clear hbx hc hfz
  go_upto_region 2 with fail
  go_cut [6, 7] (fun Yo s7_ wx => ∃ b6 b7 : Nat, Yo = .pointer (some ⟨b6, 0, none⟩) ∧ s7_ = .pointer (some ⟨b7, 0, none⟩) ∧ Bq wx b6 xd ∧ Bq wx b7 yd ∧ Below W1.heap.size W1 wx ∧ W1.heap.size ≤ b6 ∧ W1.heap.size ≤ b7)
  case first =>
   have KEEP := hide (show ∀ X, Below W1.heap.size W1 X → X.cell? ⟨w.heap.size, 0, none⟩ = some (.int .i64 s1) ∧ X.cell? ⟨w.heap.size, 1, none⟩ = some (.bool fu) ∧ X.cell? ⟨w.heap.size, 2, none⟩ = some (.slice A1 l1.length c1) ∧ X.cell? ⟨w.heap.size, 3, none⟩ = some (.int .i64 s2) ∧ X.cell? ⟨w.heap.size, 4, none⟩ = some (.bool fw) ∧ X.cell? ⟨w.heap.size, 5, none⟩ = some (.slice A2 l2.length c2) ∧ X.cell? ⟨w.heap.size + 1, 0, none⟩ = some (.int .i64 s3) ∧ X.cell? ⟨w.heap.size + 1, 1, none⟩ = some (.bool uq) ∧ X.cell? ⟨w.heap.size + 1, 2, none⟩ = some (.slice A3 l3.length c3) ∧ X.cell? ⟨w.heap.size + 1, 3, none⟩ = some (.int .i64 s4) ∧ X.cell? ⟨w.heap.size + 1, 4, none⟩ = some (.bool uk) ∧ X.cell? ⟨w.heap.size + 1, 5, none⟩ = some (.slice A4 l4.length c4) ∧ X.cell? ⟨b5, 0, none⟩ = some (.int .i64 s5) ∧ X.cell? ⟨b5, 1, none⟩ = some (.bool yf) ∧ X.cell? ⟨b5, 2, none⟩ = some (.slice A5 l5.length c5) from fun X hB => ⟨au hB q0 oz, au hB q0 ou, au hB q0 qh, au hB q0 qz, au hB q0 zf, au hB q0 ze, au hB q1 qb, au hB q1 qa, au hB q1 rz, au hB q1 uj, au hB q1 Bp, au hB q1 Bo, au hB yh Ai, au hB yh Ah, au hB yh Ls⟩)
   go_region_held3 (fun w' => w'.cell? ⟨w.heap.size, 0, none⟩ = some (.int .i64 s1) ∧ w'.cell? ⟨w.heap.size, 1, none⟩ = some (.bool fu) ∧ w'.cell? ⟨w.heap.size, 2, none⟩ = some (.slice A1 l1.length c1) ∧ w'.cell? ⟨w.heap.size, 3, none⟩ = some (.int .i64 s2) ∧ w'.cell? ⟨w.heap.size, 4, none⟩ = some (.bool fw) ∧ w'.cell? ⟨w.heap.size, 5, none⟩ = some (.slice A2 l2.length c2) ∧ w'.cell? ⟨w.heap.size + 1, 0, none⟩ = some (.int .i64 s3) ∧ w'.cell? ⟨w.heap.size + 1, 1, none⟩ = some (.bool uq) ∧ w'.cell? ⟨w.heap.size + 1, 2, none⟩ = some (.slice A3 l3.length c3) ∧ w'.cell? ⟨w.heap.size + 1, 3, none⟩ = some (.int .i64 s4) ∧ w'.cell? ⟨w.heap.size + 1, 4, none⟩ = some (.bool uk) ∧ w'.cell? ⟨w.heap.size + 1, 5, none⟩ = some (.slice A4 l4.length c4) ∧ w'.cell? ⟨b5, 0, none⟩ = some (.int .i64 s5) ∧ w'.cell? ⟨b5, 1, none⟩ = some (.bool yf) ∧ w'.cell? ⟨b5, 2, none⟩ = some (.slice A5 l5.length c5)) (exact (aa KEEP) _ (by (repeat (first | with_reducible exact Below.refl _ _ | with_reducible assumption | with_reducible refine Below.drew ?_ | with_reducible refine jk ?_ _ | (with_reducible refine Jm ?_ ?_ _ _; rotate_left; (first | omega | (simp <;> omega))))))) (first | (go_at_call_of 144 (Value.agg #[.int .i64 s2, .bool fw, .slice A2 l2.length c2]); refine ((aa HXD) s2 fw A2 c2 l2 s5 yf A5 c5 l5 _ (ek hw0 bel) (ig.below (aa H2) bel) (ig.below (aa H5) bel)).mono ?_; rintro e w' ⟨s6, Bw, A6, c6, l6, rfl, xm, hb6⟩; have hbw := fo (w := W1) bel hb6; have hsw := hbw.size; obtain ⟨hc, hfz⟩ := gp hbw; (try ((first | have Dn : Fr W1 w' _ := Fr.below (Fr.new bel rfl) hb6 | have Dn : Fr W1 w' _ := Fr.below (Fr.drew (Fr.new bel rfl)) hb6); (try simp only [World.size_alloc] at Dn); (try dsimp only [World.drew] at Dn); (try simp only [World.size_alloc] at Dn); obtain ⟨⟨akj, aki, akh⟩, ⟨akg, akf, ake⟩, ⟨akd, akc, akb⟩, ⟨adr, bfh, bfg⟩, bff, bfe⟩ := Fr.facts Dn)); (try ((first | have Dm : Fr W1 w' _ := Fr.below (Fr.alloc (Fr.new bel rfl)) hb6 | have Dm : Fr W1 w' _ := Fr.below (Fr.drew (Fr.alloc (Fr.new bel rfl))) hb6); (try simp only [World.size_alloc] at Dm); (try dsimp only [World.drew] at Dm); (try simp only [World.size_alloc] at Dm); obtain ⟨⟨aka, ajz, ajy⟩, ⟨ajx, ajw, ajv⟩, ⟨aju, ajt, ajs⟩, ⟨adq, bfd, bfc⟩, bfb, bfa⟩ := Fr.facts Dm))) | (go_at_call_of 144 (Value.agg #[.int .i64 s4, .bool uk, .slice A4 l4.length c4]); refine ((aa HYD) s4 uk A4 c4 l4 s5 yf A5 c5 l5 _ (ek hw0 bel) (ig.below (aa H4) bel) (ig.below (aa H5) bel)).mono ?_; rintro e w' ⟨s7, Gh, A7, c7, l7, rfl, Fu, Eg⟩; have xm := ig.below (ig.below xm bel) Eg; have hbw := fo (w := W1) bel Eg; have hsw := hbw.size; obtain ⟨hc, hfz⟩ := gp hbw; (try ((first | have u7a : Fr W1 w' _ := Fr.below (Fr.new bel rfl) Eg | have u7a : Fr W1 w' _ := Fr.below (Fr.drew (Fr.new bel rfl)) Eg); (try simp only [World.size_alloc] at u7a); (try dsimp only [World.drew] at u7a); (try simp only [World.size_alloc] at u7a); obtain ⟨⟨buc, bub, bua⟩, ⟨btz, bty, btx⟩, ⟨btw, btv, btu⟩, ⟨bpy, bpx, bpw⟩, bpv, bpu⟩ := Fr.facts u7a)); (try ((first | have u7b : Fr W1 w' _ := Fr.below (Fr.alloc (Fr.new bel rfl)) Eg | have u7b : Fr W1 w' _ := Fr.below (Fr.drew (Fr.alloc (Fr.new bel rfl))) Eg); (try simp only [World.size_alloc] at u7b); (try dsimp only [World.drew] at u7b); (try simp only [World.size_alloc] at u7b); obtain ⟨⟨btt, bts, btr⟩, ⟨btq, btp, bto⟩, ⟨btn, btm, btl⟩, ⟨bpt, bps, bpr⟩, bpq, bpp⟩ := Fr.facts u7b)); (try ((first | have u7c : Fr W1 w' _ := Fr.below Dn Eg | have u7c : Fr W1 w' _ := Fr.below (Fr.alloc Dn) Eg | have u7c : Fr W1 w' _ := Fr.below (Fr.alloc (Fr.alloc Dn)) Eg); (try simp only [World.size_alloc] at u7c); (try dsimp only [World.drew] at u7c); (try simp only [World.size_alloc] at u7c); obtain ⟨⟨btk, btj, bti⟩, ⟨bth, btg, btf⟩, ⟨bte, btd, btc⟩, ⟨bpo, bpn, bpm⟩, bpl, bpk⟩ := Fr.facts u7c)); (try ((first | have u7d : Fr W1 w' _ := Fr.below Dm Eg | have u7d : Fr W1 w' _ := Fr.below (Fr.alloc Dm) Eg | have u7d : Fr W1 w' _ := Fr.below (Fr.alloc (Fr.alloc Dm)) Eg); (try simp only [World.size_alloc] at u7d); (try dsimp only [World.drew] at u7d); (try simp only [World.size_alloc] at u7d); obtain ⟨⟨btb, bta, bsz⟩, ⟨bsy, bsx, bsw⟩, ⟨bsv, bsu, bst⟩, ⟨bpj, bpi, bph⟩, bpg, bpf⟩ := Fr.facts u7d))))
   all_goals (go_wp2_with fail; go_meet; refine ⟨_, _, rfl, rfl, ?_⟩; first | with_reducible exact Nt ⟨by assumption, by assumption, by first | assumption | omega⟩ xm Fu hbw | with_reducible exact Nt (Ko.Xe (by assumption) rfl) xm.alloc Fu.alloc (jk hbw _) | with_reducible exact Nt (Ko.Xf (by assumption) rfl) xm.alloc Fu.alloc (jk hbw _) | with_reducible exact aes xm Fu hbw rfl rfl | with_reducible exact aol xm Fu hbw rfl rfl | with_reducible exact aok (by assumption) xm Fu hbw rfl)
  case rest =>
   revert hcut
   generalize wc = W2
   intro hcut
   obtain ⟨b6, b7, rfl, rfl, B6, B7, hbx, Pq, ob7⟩ := hcut
   obtain ⟨hc, hfz⟩ := gp hbx
   replace oz := (hc _ _ q0).trans oz
   replace ou := (hc _ _ q0).trans ou
   replace qh := (hc _ _ q0).trans qh
   replace qz := (hc _ _ q0).trans qz
   replace zf := (hc _ _ q0).trans zf
   replace ze := (hc _ _ q0).trans ze
   replace q0 := Nat.lt_of_lt_of_le q0 hbx.size
   replace qb := (hc _ _ q1).trans qb
   replace qa := (hc _ _ q1).trans qa
   replace rz := (hc _ _ q1).trans rz
   replace uj := (hc _ _ q1).trans uj
   replace Bp := (hc _ _ q1).trans Bp
   replace Bo := (hc _ _ q1).trans Bo
   replace q1 := Nat.lt_of_lt_of_le q1 hbx.size
   replace Ai := (hc _ _ yh).trans Ai
   replace Ah := (hc _ _ yh).trans Ah
   replace Ls := (hc _ _ yh).trans Ls
   replace yh := Nat.lt_of_lt_of_le yh hbx.size
   replace Pq : w.heap.size + 1 + 1 < b6 := Nat.lt_of_lt_of_le q2 Pq
   replace ob7 : w.heap.size + 1 + 1 < b7 := Nat.lt_of_lt_of_le q2 ob7
   replace za := (hc _ _ q2).trans za
   replace Ae := (hfz _ _ q2).trans Ae
   replace yz := (hc _ _ q2).trans yz
   replace Ad := (hfz _ _ q2).trans Ad
   replace yx := (hc _ _ q2).trans yx
   replace Ac := (hfz _ _ q2).trans Ac
   replace yw := (hc _ _ q2).trans yw
   replace zz := (hfz _ _ q2).trans zz
   replace Ey := (hc _ _ q2).trans Ey
   replace Gw := (hfz _ _ q2).trans Gw
   replace Ex := (hc _ _ q2).trans Ex
   replace Gv := (hfz _ _ q2).trans Gv
   replace NR := Lib.hid ((hbx.block _ q2).trans NR.out)
   replace q2 := Nat.lt_of_lt_of_le q2 hbx.size
   replace hw0 := ek hw0 hbx
   replace H1 := hide ((aa H1).below hbx)
   replace H2 := hide ((aa H2).below hbx)
   replace H3 := hide ((aa H3).below hbx)
   replace H4 := hide ((aa H4).below hbx)
   replace H5 := hide ((aa H5).below hbx)
   obtain ⟨s6, Bw, A6, c6, l6, n6, H6⟩ := B6
   have Ag : W2.cell? ⟨b6, 0, none⟩ = some (.int .i64 s6) := ae n6 0
   have Af : W2.cell? ⟨b6, 1, none⟩ = some (.bool Bw) := ae n6 1
   have Lr : W2.cell? ⟨b6, 2, none⟩ = some (.slice A6 l6.length c6) := ae n6 2
   have yg := lt_of_block n6
   replace H6 := hide H6
   clear n6
   obtain ⟨s7, Gh, A7, c7, l7, n7, H7⟩ := B7
   have Zh : W2.cell? ⟨b7, 0, none⟩ = some (.int .i64 s7) := ae n7 0
   have Zg : W2.cell? ⟨b7, 1, none⟩ = some (.bool Gh) := ae n7 1
   have Zf : W2.cell? ⟨b7, 2, none⟩ = some (.slice A7 l7.length c7) := ae n7 2
   have Qw := lt_of_block n7
   replace H7 := hide H7
   clear n7
   clear hbx hc hfz
   go_upto_region 3 with fail
   go_cut [8] (fun s8_ wx => ∃ b8 : Nat, s8_ = .pointer (some ⟨b8, 0, none⟩) ∧ Bq wx b8 n ∧ Below W2.heap.size W2 wx ∧ W2.heap.size ≤ b8)
   case first =>
    have KEEP := hide (show ∀ X, Below W2.heap.size W2 X → X.cell? ⟨w.heap.size, 0, none⟩ = some (.int .i64 s1) ∧ X.cell? ⟨w.heap.size, 1, none⟩ = some (.bool fu) ∧ X.cell? ⟨w.heap.size, 2, none⟩ = some (.slice A1 l1.length c1) ∧ X.cell? ⟨w.heap.size, 3, none⟩ = some (.int .i64 s2) ∧ X.cell? ⟨w.heap.size, 4, none⟩ = some (.bool fw) ∧ X.cell? ⟨w.heap.size, 5, none⟩ = some (.slice A2 l2.length c2) ∧ X.cell? ⟨w.heap.size + 1, 0, none⟩ = some (.int .i64 s3) ∧ X.cell? ⟨w.heap.size + 1, 1, none⟩ = some (.bool uq) ∧ X.cell? ⟨w.heap.size + 1, 2, none⟩ = some (.slice A3 l3.length c3) ∧ X.cell? ⟨w.heap.size + 1, 3, none⟩ = some (.int .i64 s4) ∧ X.cell? ⟨w.heap.size + 1, 4, none⟩ = some (.bool uk) ∧ X.cell? ⟨w.heap.size + 1, 5, none⟩ = some (.slice A4 l4.length c4) ∧ X.cell? ⟨b6, 0, none⟩ = some (.int .i64 s6) ∧ X.cell? ⟨b6, 1, none⟩ = some (.bool Bw) ∧ X.cell? ⟨b6, 2, none⟩ = some (.slice A6 l6.length c6) ∧ X.cell? ⟨b7, 0, none⟩ = some (.int .i64 s7) ∧ X.cell? ⟨b7, 1, none⟩ = some (.bool Gh) ∧ X.cell? ⟨b7, 2, none⟩ = some (.slice A7 l7.length c7) from fun X hB => ⟨au hB q0 oz, au hB q0 ou, au hB q0 qh, au hB q0 qz, au hB q0 zf, au hB q0 ze, au hB q1 qb, au hB q1 qa, au hB q1 rz, au hB q1 uj, au hB q1 Bp, au hB q1 Bo, au hB yg Ag, au hB yg Af, au hB yg Lr, au hB Qw Zh, au hB Qw Zg, au hB Qw Zf⟩)
    go_region_held3 (fun w' => w'.cell? ⟨w.heap.size, 0, none⟩ = some (.int .i64 s1) ∧ w'.cell? ⟨w.heap.size, 1, none⟩ = some (.bool fu) ∧ w'.cell? ⟨w.heap.size, 2, none⟩ = some (.slice A1 l1.length c1) ∧ w'.cell? ⟨w.heap.size, 3, none⟩ = some (.int .i64 s2) ∧ w'.cell? ⟨w.heap.size, 4, none⟩ = some (.bool fw) ∧ w'.cell? ⟨w.heap.size, 5, none⟩ = some (.slice A2 l2.length c2) ∧ w'.cell? ⟨w.heap.size + 1, 0, none⟩ = some (.int .i64 s3) ∧ w'.cell? ⟨w.heap.size + 1, 1, none⟩ = some (.bool uq) ∧ w'.cell? ⟨w.heap.size + 1, 2, none⟩ = some (.slice A3 l3.length c3) ∧ w'.cell? ⟨w.heap.size + 1, 3, none⟩ = some (.int .i64 s4) ∧ w'.cell? ⟨w.heap.size + 1, 4, none⟩ = some (.bool uk) ∧ w'.cell? ⟨w.heap.size + 1, 5, none⟩ = some (.slice A4 l4.length c4) ∧ w'.cell? ⟨b6, 0, none⟩ = some (.int .i64 s6) ∧ w'.cell? ⟨b6, 1, none⟩ = some (.bool Bw) ∧ w'.cell? ⟨b6, 2, none⟩ = some (.slice A6 l6.length c6) ∧ w'.cell? ⟨b7, 0, none⟩ = some (.int .i64 s7) ∧ w'.cell? ⟨b7, 1, none⟩ = some (.bool Gh) ∧ w'.cell? ⟨b7, 2, none⟩ = some (.slice A7 l7.length c7)) (exact (aa KEEP) _ (by (repeat (first | with_reducible exact Below.refl _ _ | with_reducible assumption | with_reducible refine Below.drew ?_ | with_reducible refine jk ?_ _ | (with_reducible refine Jm ?_ ?_ _ _; rotate_left; (first | omega | (simp <;> omega))))))) (first | (go_at_call_of 135 (Value.agg #[.int .i64 s1, .bool fu, .slice A1 l1.length c1]); refine ((aa HM1) s1 fu A1 c1 l1 s7 Gh A7 c7 l7 _ (ek hw0 bel) (ig.below (aa H1) bel) (ig.below (aa H7) bel)).mono ?_; rintro e w' ⟨s8, Ky, A8, c8, l8, rfl, Ep, Ud⟩; have hbw := fo (w := W2) bel Ud; have hsw := hbw.size; obtain ⟨hc, hfz⟩ := gp hbw; (try ((first | have u8a : Fr W2 w' _ := Fr.below (Fr.new bel rfl) Ud | have u8a : Fr W2 w' _ := Fr.below (Fr.drew (Fr.new bel rfl)) Ud); (try simp only [World.size_alloc] at u8a); (try dsimp only [World.drew] at u8a); (try simp only [World.size_alloc] at u8a); obtain ⟨⟨bsr, bsq, bsp⟩, ⟨bso, bsn, bsm⟩, ⟨bsl, bsk, bsj⟩, ⟨bpe, bpd, bpc⟩, bpb, bpa⟩ := Fr.facts u8a))) | (go_at_call_of 135 (Value.agg #[.int .i64 s3, .bool uq, .slice A3 l3.length c3]); refine ((aa HM2) s3 uq A3 c3 l3 s6 Bw A6 c6 l6 _ (ek hw0 bel) (ig.below (aa H3) bel) (ig.below (aa H6) bel)).mono ?_; rintro e w' ⟨s9, Qp, A9, c9, l9, rfl, Om, ky⟩; have Ep := ig.below (ig.below Ep bel) ky; have hbw := fo (w := W2) bel ky; have hsw := hbw.size; obtain ⟨hc, hfz⟩ := gp hbw; (try ((first | have u9a : Fr W2 w' _ := Fr.below (Fr.new bel rfl) ky | have u9a : Fr W2 w' _ := Fr.below (Fr.drew (Fr.new bel rfl)) ky); (try simp only [World.size_alloc] at u9a); (try dsimp only [World.drew] at u9a); (try simp only [World.size_alloc] at u9a); obtain ⟨⟨bsi, bsh, bsg⟩, ⟨bsf, bse, bsd⟩, ⟨bsc, bsb, bsa⟩, ⟨boz, boy, bow⟩, bov, bou⟩ := Fr.facts u9a)); (try ((first | have Yj : Fr W2 w' _ := Fr.below u8a ky | have Yj : Fr W2 w' _ := Fr.below (Fr.alloc u8a) ky | have Yj : Fr W2 w' _ := Fr.below (Fr.alloc (Fr.alloc u8a)) ky); (try simp only [World.size_alloc] at Yj); (try dsimp only [World.drew] at Yj); (try simp only [World.size_alloc] at Yj); obtain ⟨⟨brz, bry, brx⟩, ⟨brw, brv, bru⟩, ⟨brt, brs, brr⟩, ⟨bos, bor, boq⟩, bop, boo⟩ := Fr.facts Yj))) | (go_at_call_of 145 (Value.agg #[.int .i64 s8, .bool Ky, .slice A8 l8.length c8]); refine ((aa HN) s8 Ky A8 c8 l8 s9 Qp A9 c9 l9 _ (ek hw0 bel) (ig.below Ep bel) (ig.below Om bel)).mono ?_; rintro e w' ⟨s10, Lp, Es, c10, l10, rfl, Eh, Ei⟩; have Ep := ig.below (ig.below Ep bel) Ei; have Om := ig.below (ig.below Om bel) Ei; have hbw := fo (w := W2) bel Ei; have hsw := hbw.size; obtain ⟨hc, hfz⟩ := gp hbw; (try ((first | have aee : Fr W2 w' _ := Fr.below (Fr.new bel rfl) Ei | have aee : Fr W2 w' _ := Fr.below (Fr.drew (Fr.new bel rfl)) Ei); (try simp only [World.size_alloc] at aee); (try dsimp only [World.drew] at aee); (try simp only [World.size_alloc] at aee); obtain ⟨⟨brq, brp, bro⟩, ⟨brn, brm, brl⟩, ⟨brj, bri, brh⟩, ⟨bls, blr, blq⟩, blp, blo⟩ := Fr.facts aee)); (try ((first | have aap : Fr W2 w' _ := Fr.below u9a Ei | have aap : Fr W2 w' _ := Fr.below (Fr.alloc u9a) Ei | have aap : Fr W2 w' _ := Fr.below (Fr.alloc (Fr.alloc u9a)) Ei); (try simp only [World.size_alloc] at aap); (try dsimp only [World.drew] at aap); (try simp only [World.size_alloc] at aap); obtain ⟨⟨brg, brf, bre⟩, ⟨brd, brc, brb⟩, ⟨bra, bqz, bqy⟩, ⟨bln, blm, bll⟩, blj, bli⟩ := Fr.facts aap)); (try ((first | have aao : Fr W2 w' _ := Fr.below Yj Ei | have aao : Fr W2 w' _ := Fr.below (Fr.alloc Yj) Ei | have aao : Fr W2 w' _ := Fr.below (Fr.alloc (Fr.alloc Yj)) Ei); (try simp only [World.size_alloc] at aao); (try dsimp only [World.drew] at aao); (try simp only [World.size_alloc] at aao); obtain ⟨⟨bqx, bqw, bqv⟩, ⟨bqu, bqt, bqs⟩, ⟨bqr, bqq, bqp⟩, ⟨blh, blg, blf⟩, bld, blc⟩ := Fr.facts aao))))
    all_goals (go_wp2_with fail; go_meet; refine ⟨_, rfl, ?_⟩; first | with_reducible exact Qz (by assumption) Eh hbw | with_reducible exact Yq Eh hbw rfl)
   case rest =>
    revert hcut
    generalize wc = W3
    intro hcut
    obtain ⟨b8, rfl, B8, hbx, ob8⟩ := hcut
    obtain ⟨hc, hfz⟩ := gp hbx
    replace oz := (hc _ _ q0).trans oz
    replace ou := (hc _ _ q0).trans ou
    replace qh := (hc _ _ q0).trans qh
    replace qz := (hc _ _ q0).trans qz
    replace zf := (hc _ _ q0).trans zf
    replace ze := (hc _ _ q0).trans ze
    replace q0 := Nat.lt_of_lt_of_le q0 hbx.size
    replace qb := (hc _ _ q1).trans qb
    replace qa := (hc _ _ q1).trans qa
    replace rz := (hc _ _ q1).trans rz
    replace uj := (hc _ _ q1).trans uj
    replace Bp := (hc _ _ q1).trans Bp
    replace Bo := (hc _ _ q1).trans Bo
    replace q1 := Nat.lt_of_lt_of_le q1 hbx.size
    replace Ai := (hc _ _ yh).trans Ai
    replace Ah := (hc _ _ yh).trans Ah
    replace Ls := (hc _ _ yh).trans Ls
    replace yh := Nat.lt_of_lt_of_le yh hbx.size
    replace Ag := (hc _ _ yg).trans Ag
    replace Af := (hc _ _ yg).trans Af
    replace Lr := (hc _ _ yg).trans Lr
    replace yg := Nat.lt_of_lt_of_le yg hbx.size
    replace Zh := (hc _ _ Qw).trans Zh
    replace Zg := (hc _ _ Qw).trans Zg
    replace Zf := (hc _ _ Qw).trans Zf
    replace Qw := Nat.lt_of_lt_of_le Qw hbx.size
    replace ob8 : w.heap.size + 1 + 1 < b8 := Nat.lt_of_lt_of_le q2 ob8
    replace za := (hc _ _ q2).trans za
    replace Ae := (hfz _ _ q2).trans Ae
    replace yz := (hc _ _ q2).trans yz
    replace Ad := (hfz _ _ q2).trans Ad
    replace yx := (hc _ _ q2).trans yx
    replace Ac := (hfz _ _ q2).trans Ac
    replace yw := (hc _ _ q2).trans yw
    replace zz := (hfz _ _ q2).trans zz
    replace Ey := (hc _ _ q2).trans Ey
    replace Gw := (hfz _ _ q2).trans Gw
    replace Ex := (hc _ _ q2).trans Ex
    replace Gv := (hfz _ _ q2).trans Gv
    replace NR := Lib.hid ((hbx.block _ q2).trans NR.out)
    replace q2 := Nat.lt_of_lt_of_le q2 hbx.size
    replace hw0 := ek hw0 hbx
    replace H1 := hide ((aa H1).below hbx)
    replace H2 := hide ((aa H2).below hbx)
    replace H3 := hide ((aa H3).below hbx)
    replace H4 := hide ((aa H4).below hbx)
    replace H5 := hide ((aa H5).below hbx)
    replace H6 := hide ((aa H6).below hbx)
    replace H7 := hide ((aa H7).below hbx)
    obtain ⟨s10, Lp, Es, c10, l10, n10, Vp⟩ := B8
    have adw : W3.cell? ⟨b8, 0, none⟩ = some (.int .i64 s10) := ae n10 0
    have adv : W3.cell? ⟨b8, 1, none⟩ = some (.bool Lp) := ae n10 1
    have adu : W3.cell? ⟨b8, 2, none⟩ = some (.slice Es l10.length c10) := ae n10 2
    have Ul := lt_of_block n10
    replace Vp := hide Vp
    clear n10
    clear hbx hc hfz
    go_upto_region 4 with fail
    go_cut [9] (fun s9_ wx => ∃ b9 : Nat, s9_ = .pointer (some ⟨b9, 0, none⟩) ∧ Bq wx b9 h ∧ Below W3.heap.size W3 wx ∧ W3.heap.size ≤ b9)
    case first =>
     go_wp2_with fail
     (go_at_call_of 143 (Value.agg #[.int .i64 s5, .bool yf, .slice A5 l5.length c5]); refine ((aa HH) s5 yf A5 c5 l5 s10 Lp Es c10 l10 _ (ek hw0 bel) (ig.below (aa H5) bel) (ig.below (aa Vp) bel)).mono ?_; rintro e w' ⟨s11, Pt, Ih, c11, Ib, rfl, Ka, Ld⟩; have hbw := fo (w := W3) bel Ld; have hsw := hbw.size; obtain ⟨hc, hfz⟩ := gp hbw)
     (go_wp2_with fail; go_meet; refine ⟨_, rfl, ?_⟩; first | with_reducible exact Qz (by assumption) Ka hbw | with_reducible exact Yq Ka hbw rfl)
    case rest =>
     revert hcut
     generalize wc = W4
     intro hcut
     obtain ⟨b9, rfl, B9, hbx, ob9⟩ := hcut
     obtain ⟨hc, hfz⟩ := gp hbx
     replace oz := (hc _ _ q0).trans oz
     replace ou := (hc _ _ q0).trans ou
     replace qh := (hc _ _ q0).trans qh
     replace qz := (hc _ _ q0).trans qz
     replace zf := (hc _ _ q0).trans zf
     replace ze := (hc _ _ q0).trans ze
     replace q0 := Nat.lt_of_lt_of_le q0 hbx.size
     replace qb := (hc _ _ q1).trans qb
     replace qa := (hc _ _ q1).trans qa
     replace rz := (hc _ _ q1).trans rz
     replace uj := (hc _ _ q1).trans uj
     replace Bp := (hc _ _ q1).trans Bp
     replace Bo := (hc _ _ q1).trans Bo
     replace q1 := Nat.lt_of_lt_of_le q1 hbx.size
     replace Ai := (hc _ _ yh).trans Ai
     replace Ah := (hc _ _ yh).trans Ah
     replace Ls := (hc _ _ yh).trans Ls
     replace yh := Nat.lt_of_lt_of_le yh hbx.size
     replace Ag := (hc _ _ yg).trans Ag
     replace Af := (hc _ _ yg).trans Af
     replace Lr := (hc _ _ yg).trans Lr
     replace yg := Nat.lt_of_lt_of_le yg hbx.size
     replace Zh := (hc _ _ Qw).trans Zh
     replace Zg := (hc _ _ Qw).trans Zg
     replace Zf := (hc _ _ Qw).trans Zf
     replace Qw := Nat.lt_of_lt_of_le Qw hbx.size
     replace adw := (hc _ _ Ul).trans adw
     replace adv := (hc _ _ Ul).trans adv
     replace adu := (hc _ _ Ul).trans adu
     replace Ul := Nat.lt_of_lt_of_le Ul hbx.size
     replace ob9 : w.heap.size + 1 + 1 < b9 := Nat.lt_of_lt_of_le q2 ob9
     replace za := (hc _ _ q2).trans za
     replace Ae := (hfz _ _ q2).trans Ae
     replace yz := (hc _ _ q2).trans yz
     replace Ad := (hfz _ _ q2).trans Ad
     replace yx := (hc _ _ q2).trans yx
     replace Ac := (hfz _ _ q2).trans Ac
     replace yw := (hc _ _ q2).trans yw
     replace zz := (hfz _ _ q2).trans zz
     replace Ey := (hc _ _ q2).trans Ey
     replace Gw := (hfz _ _ q2).trans Gw
     replace Ex := (hc _ _ q2).trans Ex
     replace Gv := (hfz _ _ q2).trans Gv
     replace NR := Lib.hid ((hbx.block _ q2).trans NR.out)
     replace q2 := Nat.lt_of_lt_of_le q2 hbx.size
     replace hw0 := ek hw0 hbx
     replace H1 := hide ((aa H1).below hbx)
     replace H2 := hide ((aa H2).below hbx)
     replace H3 := hide ((aa H3).below hbx)
     replace H4 := hide ((aa H4).below hbx)
     replace H5 := hide ((aa H5).below hbx)
     replace H6 := hide ((aa H6).below hbx)
     replace H7 := hide ((aa H7).below hbx)
     replace Vp := hide ((aa Vp).below hbx)
     obtain ⟨s11, Pt, Ih, c11, Ib, n11, Vo⟩ := B9
     have axa : W4.cell? ⟨b9, 0, none⟩ = some (.int .i64 s11) := ae n11 0
     have awz : W4.cell? ⟨b9, 1, none⟩ = some (.bool Pt) := ae n11 1
     have awy : W4.cell? ⟨b9, 2, none⟩ = some (.slice Ih Ib.length c11) := ae n11 2
     have qb9 := lt_of_block n11
     replace Vo := hide Vo
     clear n11
     clear hbx hc hfz
     go_upto_region 5 with fail
     have KEEP := hide (show ∀ X, Below W4.heap.size W4 X → X.cell? ⟨w.heap.size + 1, 0, none⟩ = some (.int .i64 s3) ∧ X.cell? ⟨w.heap.size + 1, 1, none⟩ = some (.bool uq) ∧ X.cell? ⟨w.heap.size + 1, 2, none⟩ = some (.slice A3 l3.length c3) ∧ X.cell? ⟨w.heap.size + 1, 3, none⟩ = some (.int .i64 s4) ∧ X.cell? ⟨w.heap.size + 1, 4, none⟩ = some (.bool uk) ∧ X.cell? ⟨w.heap.size + 1, 5, none⟩ = some (.slice A4 l4.length c4) ∧ X.cell? ⟨b6, 0, none⟩ = some (.int .i64 s6) ∧ X.cell? ⟨b6, 1, none⟩ = some (.bool Bw) ∧ X.cell? ⟨b6, 2, none⟩ = some (.slice A6 l6.length c6) ∧ X.cell? ⟨b8, 0, none⟩ = some (.int .i64 s10) ∧ X.cell? ⟨b8, 1, none⟩ = some (.bool Lp) ∧ X.cell? ⟨b8, 2, none⟩ = some (.slice Es l10.length c10) ∧ X.cell? ⟨b9, 0, none⟩ = some (.int .i64 s11) ∧ X.cell? ⟨b9, 1, none⟩ = some (.bool Pt) ∧ X.cell? ⟨b9, 2, none⟩ = some (.slice Ih Ib.length c11) from fun X hB => ⟨au hB q1 qb, au hB q1 qa, au hB q1 rz, au hB q1 uj, au hB q1 Bp, au hB q1 Bo, au hB yg Ag, au hB yg Af, au hB yg Lr, au hB Ul adw, au hB Ul adv, au hB Ul adu, au hB qb9 axa, au hB qb9 awz, au hB qb9 awy⟩)
     go_region_held3 (fun w' => w'.cell? ⟨w.heap.size + 1, 0, none⟩ = some (.int .i64 s3) ∧ w'.cell? ⟨w.heap.size + 1, 1, none⟩ = some (.bool uq) ∧ w'.cell? ⟨w.heap.size + 1, 2, none⟩ = some (.slice A3 l3.length c3) ∧ w'.cell? ⟨w.heap.size + 1, 3, none⟩ = some (.int .i64 s4) ∧ w'.cell? ⟨w.heap.size + 1, 4, none⟩ = some (.bool uk) ∧ w'.cell? ⟨w.heap.size + 1, 5, none⟩ = some (.slice A4 l4.length c4) ∧ w'.cell? ⟨b6, 0, none⟩ = some (.int .i64 s6) ∧ w'.cell? ⟨b6, 1, none⟩ = some (.bool Bw) ∧ w'.cell? ⟨b6, 2, none⟩ = some (.slice A6 l6.length c6) ∧ w'.cell? ⟨b8, 0, none⟩ = some (.int .i64 s10) ∧ w'.cell? ⟨b8, 1, none⟩ = some (.bool Lp) ∧ w'.cell? ⟨b8, 2, none⟩ = some (.slice Es l10.length c10) ∧ w'.cell? ⟨b9, 0, none⟩ = some (.int .i64 s11) ∧ w'.cell? ⟨b9, 1, none⟩ = some (.bool Pt) ∧ w'.cell? ⟨b9, 2, none⟩ = some (.slice Ih Ib.length c11)) (first | with_reducible exact ⟨(jd _ _ _ _ _ _ _ _ om).trans (au hbw q1 qb), (jd _ _ _ _ _ _ _ _ om).trans (au hbw q1 qa), (jd _ _ _ _ _ _ _ _ om).trans (au hbw q1 rz), (jd _ _ _ _ _ _ _ _ om).trans (au hbw q1 uj), (jd _ _ _ _ _ _ _ _ om).trans (au hbw q1 Bp), (jd _ _ _ _ _ _ _ _ om).trans (au hbw q1 Bo), (jd _ _ _ _ _ _ _ _ om).trans (au hbw yg Ag), (jd _ _ _ _ _ _ _ _ om).trans (au hbw yg Af), (jd _ _ _ _ _ _ _ _ om).trans (au hbw yg Lr), (jd _ _ _ _ _ _ _ _ om).trans (au hbw Ul adw), (jd _ _ _ _ _ _ _ _ om).trans (au hbw Ul adv), (jd _ _ _ _ _ _ _ _ om).trans (au hbw Ul adu), (jd _ _ _ _ _ _ _ _ om).trans (au hbw qb9 axa), (jd _ _ _ _ _ _ _ _ om).trans (au hbw qb9 awz), (jd _ _ _ _ _ _ _ _ om).trans (au hbw qb9 awy)⟩ | with_reducible exact (aa KEEP) _ bel) (first | (go_at_call_of 144 (Value.agg #[.int .i64 s10, .bool Lp, .slice Es l10.length c10]); refine ((aa HR1) s10 Lp Es c10 l10 s11 Pt Ih c11 Ib _ (ek hw0 bel) (ig.below (aa Vp) bel) (ig.below (aa Vo) bel)).mono ?_; rintro e w' ⟨s12, Yx, Vr, c12, Us, rfl, Oo, Ij⟩; have hbw := fo (w := W4) bel Ij; have hsw := hbw.size; obtain ⟨hc, hfz⟩ := gp hbw) | (go_at_call_of 144 (Value.agg #[.int .i64 s4, .bool uk, .slice A4 l4.length c4]); refine ((aa HE) s4 uk A4 c4 l4 s11 Pt Ih c11 Ib _ (ek hw0 bel) (ig.below (aa H4) bel) (ig.below (aa Vo) bel)).mono ?_; rintro e w' ⟨s13, bfn, A13, c13, l13, rfl, Xn, bcp⟩; have Oo := ig.below (ig.below Oo bel) bcp; have hbw := fo (w := W4) bel bcp; have hsw := hbw.size; obtain ⟨hc, hfz⟩ := gp hbw) | (go_at_call_of 135 (Value.agg #[.int .i64 s6, .bool Bw, .slice A6 l6.length c6]); refine ((aa HR2) s6 Bw A6 c6 l6 s13 bfn A13 c13 l13 _ (ek hw0 bel) (ig.below (aa H6) bel) (ig.below Xn bel)).mono ?_; rintro e w' ⟨s14, awt, A14, c14, l14, rfl, bjc, avm⟩; have Oo := ig.below (ig.below Oo bel) avm; have Xn := ig.below (ig.below Xn bel) avm; have hbw := fo (w := W4) bel avm; have hsw := hbw.size; obtain ⟨hc, hfz⟩ := gp hbw))
     have hblk : w'.heap[w.heap.size + 1 + 1]? = some (.cells #[.int .i64 0, .bool false, .slice none 0 0, .int .i64 0, .bool false, .slice none 0 0] 74 (0, 0)) := (hbw.block _ q2).trans NR.out
     have mo := Lib.hid hblk
     have ky : Below w.heap.size w w' := ek hw0 hbw
     clear hblk
     go_wp2_with fail
     exact bodyPost_ret (v := (Value.agg #[.int .i64 s12, .bool Yx, .slice Vr Us.length c12, .int .i64 s14, .bool awt, .slice A14 l14.length c14])) (by simp [results, Tryz.results78, go_sem, hc, za, yz, yx, yw, Ey, Ex, q2]) rfl
      ⟨s12, Yx, Vr, c12, Us, s14, awt, A14, c14, l14, rfl, (Oo).upto mo.out (Ao _ _ _ _ _ _ _ _ _ _) (qy _ _ _ _ _ _ _ _), (bjc).upto mo.out (Ao _ _ _ _ _ _ _ _ _ _) (qy _ _ _ _ _ _ _ _), ky.grown (qy _ _ _ _ _ _ _ _) ky.size (fun k hk => by injection hk with hk; omega)⟩

end Go.Proofs.YtfbcdfoohpkfeaaGreatDoor
