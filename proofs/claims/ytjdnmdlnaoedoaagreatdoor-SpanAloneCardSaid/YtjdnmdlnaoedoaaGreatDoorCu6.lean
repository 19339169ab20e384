/- Texts beneath a law of layer 1. -/
import Derived.Test.YtjdnmdlnaoedoaaGreatDoorCu5
set_option maxRecDepth 100000
set_option maxHeartbeats 16000000
namespace Go.Proofs.YtjdnmdlnaoedoaaGreatDoor
open Go.RowKit

theorem aug (s1 : Int) (dw : Bool) (A1 : Option Addr) (c1 : Nat) (l1 : List Nat) (z1 : Int) (s2 : Int) (ek : Bool) (A2 : Option Addr) (c2 : Nat) (l2 : List Nat) (z2 : Int) (w : World)
  (h1 : ig w s1 dw A1 c1 l1 z1) (h2 : ig w s2 ek A2 c2 l2 z2) (hl1 : l1.length ≤ lim) (hl2 : l2.length ≤ lim) :
  Calls Tryz.prog 135 #[.agg #[.int .i64 s1, .bool dw, .slice A1 l1.length c1], .agg #[.int .i64 s2, .bool ek, .slice A2 l2.length c2]] w fun e w' => En w (z1 * z2) e w' := by
 have qm := hide (fun W => uh s1 dw A1 c1 l1.length W)
 have HS2 := hide (fun W => uh s2 ek A2 c2 l2.length W)
 have hz := afd z1 z2
 have Sa : ∀ (A5 A6 : Option Addr) (c5 c6 : Nat) (l5 l6 : List Nat) (W : World), lv W A5 c5 l5 z1.natAbs → lv W A6 c6 l6 z2.natAbs → l5.length + l6.length ≤ 35184372088832 := fun _ _ _ _ _ _ _ g1 g2 => by
  have e1 := g1.len h1.Ud
  have e2 := g2.len h2.Ud
  rw [Rq] at hl1 hl2
  omega
 have G1 : ∀ W0, Below w.heap.size w W0 → Hid (∀ W, Below W0.heap.size W0 W → Calls Tryz.prog 146 #[.agg #[.int .i64 s1, .bool dw, .slice A1 l1.length c1]] W fun e w' => e = .returned (.int .i64 (iw z1)) ∧ Below W.heap.size W w') := fun W0 h0 W hW => Ap s1 dw A1 c1 l1 z1 W (ig.below h1 (bz h0 hW))
 have G2 : ∀ W0, Below w.heap.size w W0 → Hid (∀ W, Below W0.heap.size W0 W → Calls Tryz.prog 146 #[.agg #[.int .i64 s2, .bool ek, .slice A2 l2.length c2]] W fun e w' => e = .returned (.int .i64 (iw z2)) ∧ Below W.heap.size W w') := fun W0 h0 W hW => Ap s2 ek A2 c2 l2 z2 W (ig.below h2 (bz h0 hW))
 have B1 : ∀ W0, Below w.heap.size w W0 → Hid (∀ W, Below W0.heap.size W0 W → Calls Tryz.prog 171 #[.agg #[.int .i64 s1, .bool dw, .slice A1 l1.length c1]] W fun e w' => Fw W z1.natAbs e w') := fun W0 h0 W hW => Dy s1 dw A1 c1 l1 z1 W (ig.below h1 (bz h0 hW))
 have B2 : ∀ W0, Below w.heap.size w W0 → Hid (∀ W, Below W0.heap.size W0 W → Calls Tryz.prog 171 #[.agg #[.int .i64 s2, .bool ek, .slice A2 l2.length c2]] W fun e w' => Fw W z2.natAbs e w') := fun W0 h0 W hW => Dy s2 ek A2 c2 l2 z2 W (ig.below h2 (bz h0 hW))
 have ho1 : -1 ≤ iw z1 * iw z2 ∧ iw z1 * iw z2 ≤ 1 := by unfold iw; (repeat' split) <;> omega
 have Ty := h1.bounds
 have Tx := h2.bounds
 have hsz1 : l1.length = 0 → s1.natAbs = z1.natAbs ∧ z1.natAbs < Kh := fun h => by obtain ⟨e, _, e3⟩ := h1.Bl h; rw [e]; exact ⟨rfl, e3⟩
 have hsz2 : l2.length = 0 → s2.natAbs = z2.natAbs ∧ z2.natAbs < Kh := fun h => by obtain ⟨e, _, e3⟩ := h2.Bl h; rw [e]; exact ⟨rfl, e3⟩
 have Z1 := hide (fun W => Ko s1 Ty.1 Ty.2 W)
 have Z2 := hide (fun W => Ko s2 Tx.1 Tx.2 W)
 obtain ⟨m1, hm1⟩ : ∃ o, o = z1.natAbs := ⟨_, rfl⟩
 obtain ⟨m2, hm2⟩ : ∃ o, o = z2.natAbs := ⟨_, rfl⟩
 obtain ⟨o1, agq⟩ : ∃ o, o = iw z1 := ⟨_, rfl⟩
 obtain ⟨o2, agp⟩ : ∃ o, o = iw z2 := ⟨_, rfl⟩
 rw [← hm1] at B1 Sa hz hsz1
 rw [← hm2] at B2 Sa hz hsz2
 rw [← agq] at G1 hz ho1
 rw [← agp] at G2 hz ho1
 obtain ⟨op, hop⟩ : ∃ o, o = o1 * o2 := ⟨_, rfl⟩
 have e1 : IntKind.i64.wrap (o1 * o2) = op := by rw [hop]; exact IntWalk.i64_in _ om
 have e1' : wrap64 (o1 * o2) = op := by rw [hop]; exact IntWalk.wrap64_in _ om
 rw [← hop] at hz
 obtain ⟨ng, hng⟩ : ∃ b, b = decide (op < 0) := ⟨_, rfl⟩
 rw [← hng] at hz
 obtain ⟨Z, hZ⟩ : ∃ o, o = z1 * z2 := ⟨_, rfl⟩
 rw [← hZ] at hz ⊢
 have HZ := Lib.hid hz.symm
 have Ep := hide G1; have HG2 := hide G2; have HB1 := hide B1; have HB2 := hide B2; have HLEN := hide Sa
 have ngE := hng.symm
 clear hm1 hm2 agq agp ho1 hop hng hz hZ G1 G2 B1 B2 h1 h2 Ty Tx Sa hl1 hl2
 by_cases hs : l1.length = 0 ∧ l2.length = 0
 ·
  obtain ⟨a1, a2⟩ := hs
  rw [decide_eq_true a1] at qm
  rw [decide_eq_true a2] at HS2
  obtain ⟨y1, y2⟩ := hsz1 a1
  obtain ⟨y3, y4⟩ := hsz2 a2
  rw [y1] at Z1
  rw [y3] at Z2
  have hB1 : m1 < fo := by have := y2; rw [zn] at this; rw [ic]; omega
  have hB2 : m2 < fo := by have := y4; rw [zn] at this; rw [ic]; omega
  obtain ⟨hi', hhi⟩ : ∃ t, t = m1 * m2 / fo := ⟨_, rfl⟩
  obtain ⟨lo, hlo⟩ : ∃ t, t = m1 * m2 % fo := ⟨_, rfl⟩
  have hM := Vg m1 m2 hB1 hB2
  rw [← hhi, ← hlo] at hM
  have HM := hide hM
  have Kb : lo < fo := by rw [hlo]; exact Nat.mod_lt _ (Nat.lt_trans Nat.zero_lt_one qj)
  have HW := hide (fun W => Sl ng lo Kb W)
  have Ci : hi' = 0 → lo = m1 * m2 := fun h => by
   have := Nat.div_add_mod (m1 * m2) fo
   rw [← hhi, ← hlo, h] at this
   omega
  by_cases hh : hi' = 0
  ·
   have hb0 : ((hi' : Int) == 0) = true := beq_iff_eq.2 om
   have hW' : ∀ W, Calls Tryz.prog 165 #[.bool ng, .int .u64 ((lo : Nat) : Int)] W fun e w' => En W Z e w' := fun W => by
    have := (aa HW) W
    rw [Ci hh] at this ⊢
    rw [HZ.out]; exact this
   have HWW := hide hW'
   clear hW' HW Ci hh hlo hhi hM hB1 hB2 Kb y1 y2 y3 y4 hsz1 hsz2 a1 a2
   go_enter Tryz.func135, Tryz.ntmps135
   go_wp2_with fail
   obtain ⟨n1, n2, n3, hsz, hw0⟩ := nu w (.cells #[.int .i64 s1, .bool dw, .slice A1 l1.length c1] 72) (.cells #[.int .i64 s2, .bool ek, .slice A2 l2.length c2] 72) (.cells #[.int .i64 0, .bool false, .slice none 0 0] 72)
   generalize (((w.alloc (.cells #[.int .i64 s1, .bool dw, .slice A1 l1.length c1] 72)).alloc (.cells #[.int .i64 s2, .bool ek, .slice A2 l2.length c2] 72)).alloc (.cells #[.int .i64 0, .bool false, .slice none 0 0] 72)) = W0 at *
   have k1 := ah n1 0
   have k2 := ah n1 1
   have k3 := ah n1 2
   simp only [Array.getElem?_eq_getElem, jw, jr, jq] at k1 k2 k3
   have k4 := ah n2 0
   have k5 := ah n2 1
   have k6 := ah n2 2
   simp only [Array.getElem?_eq_getElem, jw, jr, jq] at k4 k5 k6
   have q0 : w.heap.size < W0.heap.size := by omega
   have q1 : w.heap.size + 1 < W0.heap.size := by omega
   have q2 : w.heap.size + 1 + 1 < W0.heap.size := by omega
   have k7 := ah n3 0
   have k8 := ah n3 1
   have k9 := ah n3 2
   simp only [Array.getElem?_eq_getElem, jw, jr, jq] at k7 k8 k9
   have f7 := bf n3 0
   have f8 := bf n3 1
   have f9 := bf n3 2
   have N3 := Lib.hid n3
   clear n3
   clear n1 n2
   have G1 := (aa Ep) W0 hw0; have G2 := (aa HG2) W0 hw0; have B1 := (aa HB1) W0 hw0; have B2 := (aa HB2) W0 hw0
   go_region_held3 (fun w' => w'.cell? ⟨w.heap.size, 0, none⟩ = some (.int .i64 s1) ∧ w'.cell? ⟨w.heap.size, 1, none⟩ = some (.bool dw) ∧ w'.cell? ⟨w.heap.size, 2, none⟩ = some (.slice A1 l1.length c1) ∧ w'.cell? ⟨w.heap.size + 1, 0, none⟩ = some (.int .i64 s2) ∧ w'.cell? ⟨w.heap.size + 1, 1, none⟩ = some (.bool ek) ∧ w'.cell? ⟨w.heap.size + 1, 2, none⟩ = some (.slice A2 l2.length c2)) ((first | exact ⟨(hc _ _ q0).trans k1, (hc _ _ q0).trans k2, (hc _ _ q0).trans k3, (hc _ _ q1).trans k4, (hc _ _ q1).trans k5, (hc _ _ q1).trans k6⟩ | exact ⟨k1, k2, k3, k4, k5, k6⟩)) (first | (go_at_call_of 146 (Value.agg #[.int .i64 s1, .bool dw, .slice A1 l1.length c1]); refine ((aa G1) _ bem).mono ?_; rintro e w' ⟨rfl, hb⟩; have hbw := cu (w := W0) bem hb; obtain ⟨hc, hfz⟩ := fu hbw) | (go_at_call_of 146 (Value.agg #[.int .i64 s2, .bool ek, .slice A2 l2.length c2]); refine ((aa G2) _ bem).mono ?_; rintro e w' ⟨rfl, hb⟩; have hbw := cu (w := W0) bem hb; obtain ⟨hc, hfz⟩ := fu hbw))
   go_wp2_with fail
   refine ((aa qm) _).mono ?_
   rintro e w1 ⟨rfl, hw1⟩
   have yf := og (w := W0) bem hw1
   obtain ⟨hc, hfz⟩ := fu yf
   clear hw1
   go_wp2_with fail
   refine ((aa HS2) _).mono ?_
   rintro e w2 ⟨rfl, hw2⟩
   have hbw2 := og (w := W0) bem hw2
   obtain ⟨hc, hfz⟩ := fu hbw2
   clear hw2
   go_wp2_with fail
   go_region_held3 (fun w' => w'.cell? ⟨w.heap.size, 0, none⟩ = some (.int .i64 s1) ∧ w'.cell? ⟨w.heap.size, 1, none⟩ = some (.bool dw) ∧ w'.cell? ⟨w.heap.size, 2, none⟩ = some (.slice A1 l1.length c1) ∧ w'.cell? ⟨w.heap.size + 1, 0, none⟩ = some (.int .i64 s2) ∧ w'.cell? ⟨w.heap.size + 1, 1, none⟩ = some (.bool ek) ∧ w'.cell? ⟨w.heap.size + 1, 2, none⟩ = some (.slice A2 l2.length c2)) ((first | exact ⟨(hc _ _ q0).trans k1, (hc _ _ q0).trans k2, (hc _ _ q0).trans k3, (hc _ _ q1).trans k4, (hc _ _ q1).trans k5, (hc _ _ q1).trans k6⟩ | exact ⟨k1, k2, k3, k4, k5, k6⟩)) (first | (go_at_call_of 166 (Value.int .i64 s1); refine ((aa Z1) _).mono ?_; rintro e w' ⟨rfl, Mh⟩; subst Mh) | (go_at_call_of 166 (Value.int .i64 s2); refine ((aa Z2) _).mono ?_; rintro e w' ⟨rfl, Mh⟩; subst Mh) | (go_at_call 169; refine ((aa HM) _).mono ?_; rintro e w' ⟨rfl, Mh⟩; subst Mh))
   go_wp2_with fail
   refine ((aa HWW) _).mono ?_
   rintro e w' ⟨s, su, A', cap', l', rfl, hf, hb⟩
   have hbw := cu (w := W0) bem hb
   obtain ⟨hc, hfz⟩ := fu hbw
   have hblk : w'.heap[w.heap.size + 1 + 1]? = some (.cells #[.int .i64 0, .bool false, .slice none 0 0] 72 (0, 0)) := (hbw.block _ q2).trans N3.out
   have kg := Lib.hid hblk
   have jh : Below w.heap.size w w' := bz hw0 hbw
   clear hblk
   go_wp2_with fail
   exact bodyPost_ret (v := .agg #[.int .i64 s, .bool su, .slice A' l'.length cap']) (by simp [results, Tryz.results135, go_sem, hc, k7, k8, k9, q2]) rfl
    ⟨s, su, A', cap', l', rfl, hf.upto kg.out (ze _ _ _ _ _) (jl _ _ _ _ _), jh.grown (jl _ _ _ _ _) jh.size (fun k hk => by injection hk with hk; omega)⟩
  ·
   have hb0 : ((hi' : Int) == 0) = false := beq_eq_false_iff_ne.2 om
   clear HW Ci hh hlo hhi hM hB1 hB2 Kb y1 y2 y3 y4 hsz1 hsz2 a1 a2
   go_enter Tryz.func135, Tryz.ntmps135
   go_wp2_with fail
   obtain ⟨n1, n2, n3, hsz, hw0⟩ := nu w (.cells #[.int .i64 s1, .bool dw, .slice A1 l1.length c1] 72) (.cells #[.int .i64 s2, .bool ek, .slice A2 l2.length c2] 72) (.cells #[.int .i64 0, .bool false, .slice none 0 0] 72)
   generalize (((w.alloc (.cells #[.int .i64 s1, .bool dw, .slice A1 l1.length c1] 72)).alloc (.cells #[.int .i64 s2, .bool ek, .slice A2 l2.length c2] 72)).alloc (.cells #[.int .i64 0, .bool false, .slice none 0 0] 72)) = W0 at *
   have k1 := ah n1 0
   have k2 := ah n1 1
   have k3 := ah n1 2
   simp only [Array.getElem?_eq_getElem, jw, jr, jq] at k1 k2 k3
   have k4 := ah n2 0
   have k5 := ah n2 1
   have k6 := ah n2 2
   simp only [Array.getElem?_eq_getElem, jw, jr, jq] at k4 k5 k6
   have q0 : w.heap.size < W0.heap.size := by omega
   have q1 : w.heap.size + 1 < W0.heap.size := by omega
   have q2 : w.heap.size + 1 + 1 < W0.heap.size := by omega
   have k7 := ah n3 0
   have k8 := ah n3 1
   have k9 := ah n3 2
   simp only [Array.getElem?_eq_getElem, jw, jr, jq] at k7 k8 k9
   have f7 := bf n3 0
   have f8 := bf n3 1
   have f9 := bf n3 2
   have N3 := Lib.hid n3
   clear n3
   clear n1 n2
   have G1 := (aa Ep) W0 hw0; have G2 := (aa HG2) W0 hw0; have B1 := (aa HB1) W0 hw0; have B2 := (aa HB2) W0 hw0
   go_region_held3 (fun w' => w'.cell? ⟨w.heap.size, 0, none⟩ = some (.int .i64 s1) ∧ w'.cell? ⟨w.heap.size, 1, none⟩ = some (.bool dw) ∧ w'.cell? ⟨w.heap.size, 2, none⟩ = some (.slice A1 l1.length c1) ∧ w'.cell? ⟨w.heap.size + 1, 0, none⟩ = some (.int .i64 s2) ∧ w'.cell? ⟨w.heap.size + 1, 1, none⟩ = some (.bool ek) ∧ w'.cell? ⟨w.heap.size + 1, 2, none⟩ = some (.slice A2 l2.length c2)) ((first | exact ⟨(hc _ _ q0).trans k1, (hc _ _ q0).trans k2, (hc _ _ q0).trans k3, (hc _ _ q1).trans k4, (hc _ _ q1).trans k5, (hc _ _ q1).trans k6⟩ | exact ⟨k1, k2, k3, k4, k5, k6⟩)) (first | (go_at_call_of 146 (Value.agg #[.int .i64 s1, .bool dw, .slice A1 l1.length c1]); refine ((aa G1) _ bem).mono ?_; rintro e w' ⟨rfl, hb⟩; have hbw := cu (w := W0) bem hb; obtain ⟨hc, hfz⟩ := fu hbw) | (go_at_call_of 146 (Value.agg #[.int .i64 s2, .bool ek, .slice A2 l2.length c2]); refine ((aa G2) _ bem).mono ?_; rintro e w' ⟨rfl, hb⟩; have hbw := cu (w := W0) bem hb; obtain ⟨hc, hfz⟩ := fu hbw))
   go_wp2_with fail
   refine ((aa qm) _).mono ?_
   rintro e w1 ⟨rfl, hw1⟩
   have yf := og (w := W0) bem hw1
   obtain ⟨hc, hfz⟩ := fu yf
   clear hw1
   go_wp2_with fail
   refine ((aa HS2) _).mono ?_
   rintro e w2 ⟨rfl, hw2⟩
   have hbw2 := og (w := W0) bem hw2
   obtain ⟨hc, hfz⟩ := fu hbw2
   clear hw2
   go_wp2_with fail
   go_region_held3 (fun w' => w'.cell? ⟨w.heap.size, 0, none⟩ = some (.int .i64 s1) ∧ w'.cell? ⟨w.heap.size, 1, none⟩ = some (.bool dw) ∧ w'.cell? ⟨w.heap.size, 2, none⟩ = some (.slice A1 l1.length c1) ∧ w'.cell? ⟨w.heap.size + 1, 0, none⟩ = some (.int .i64 s2) ∧ w'.cell? ⟨w.heap.size + 1, 1, none⟩ = some (.bool ek) ∧ w'.cell? ⟨w.heap.size + 1, 2, none⟩ = some (.slice A2 l2.length c2)) ((first | exact ⟨(hc _ _ q0).trans k1, (hc _ _ q0).trans k2, (hc _ _ q0).trans k3, (hc _ _ q1).trans k4, (hc _ _ q1).trans k5, (hc _ _ q1).trans k6⟩ | exact ⟨k1, k2, k3, k4, k5, k6⟩)) (first | (go_at_call_of 166 (Value.int .i64 s1); refine ((aa Z1) _).mono ?_; rintro e w' ⟨rfl, Mh⟩; subst Mh) | (go_at_call_of 166 (Value.int .i64 s2); refine ((aa Z2) _).mono ?_; rintro e w' ⟨rfl, Mh⟩; subst Mh) | (go_at_call 169; refine ((aa HM) _).mono ?_; rintro e w' ⟨rfl, Mh⟩; subst Mh))
   go_wp2_with fail
   go_region_with (first | (go_at_call_of 171 (Value.agg #[.int .i64 s1, .bool dw, .slice A1 l1.length c1]); refine ((aa B1) _ bem).mono ?_; rintro e w' ⟨A5, cap5, l5, rfl, yw, hb⟩; have hbw := cu (w := W0) bem hb; obtain ⟨hc, hfz⟩ := fu hbw) | (go_at_call_of 171 (Value.agg #[.int .i64 s2, .bool ek, .slice A2 l2.length c2]); refine ((aa B2) _ bem).mono ?_; rintro e w' ⟨A6, cap6, l6, rfl, oo, hb⟩; have kz := yw.below hb; have hbw := cu (w := W0) bem hb; obtain ⟨hc, hfz⟩ := fu hbw) | (go_at_call 172; refine (abz A5 A6 cap5 cap6 l5 l6 m1 m2 _ (by exact kz) (by exact oo) ((aa HLEN) _ _ _ _ _ _ _ kz oo)).mono ?_; rintro e w' ⟨A7, Af, l7, rfl, Ae, hb⟩; have hbw := cu (w := W0) bem hb; obtain ⟨hc, hfz⟩ := fu hbw) | (go_at_call 170; refine (Bc ng A7 Af l7 (m1 * m2) _ (by exact Ae)).mono ?_; rw [← HZ.out]; rintro e w' ⟨s, su, A', cap', l', rfl, hf, hb⟩; have hbw := cu (w := W0) bem hb; obtain ⟨hc, hfz⟩ := fu hbw))
   all_goals
    have hblk : w'.heap[w.heap.size + 1 + 1]? = some (.cells #[.int .i64 0, .bool false, .slice none 0 0] 72 (0, 0)) := (hbw.block _ q2).trans N3.out
    have kg := Lib.hid hblk
    have jh : Below w.heap.size w w' := bz hw0 hbw
    clear hblk
    go_wp2_with fail
    exact bodyPost_ret (v := .agg #[.int .i64 s, .bool su, .slice A' l'.length cap']) (by simp [results, Tryz.results135, go_sem, hc, k7, k8, k9, q2]) rfl
     ⟨s, su, A', cap', l', rfl, hf.upto kg.out (ze _ _ _ _ _) (jl _ _ _ _ _), jh.grown (jl _ _ _ _ _) jh.size (fun k hk => by injection hk with hk; omega)⟩
 ·
  by_cases a1 : l1.length = 0
  ·
   have a2 : ¬ l2.length = 0 := fun h => hs ⟨a1, h⟩
   rw [decide_eq_true a1] at qm
   rw [decide_eq_false a2] at HS2
   clear hsz1 hsz2 hs a1 a2
   go_enter Tryz.func135, Tryz.ntmps135
   go_wp2_with fail
   obtain ⟨n1, n2, n3, hsz, hw0⟩ := nu w (.cells #[.int .i64 s1, .bool dw, .slice A1 l1.length c1] 72) (.cells #[.int .i64 s2, .bool ek, .slice A2 l2.length c2] 72) (.cells #[.int .i64 0, .bool false, .slice none 0 0] 72)
   generalize (((w.alloc (.cells #[.int .i64 s1, .bool dw, .slice A1 l1.length c1] 72)).alloc (.cells #[.int .i64 s2, .bool ek, .slice A2 l2.length c2] 72)).alloc (.cells #[.int .i64 0, .bool false, .slice none 0 0] 72)) = W0 at *
   have k1 := ah n1 0
   have k2 := ah n1 1
   have k3 := ah n1 2
   simp only [Array.getElem?_eq_getElem, jw, jr, jq] at k1 k2 k3
   have k4 := ah n2 0
   have k5 := ah n2 1
   have k6 := ah n2 2
   simp only [Array.getElem?_eq_getElem, jw, jr, jq] at k4 k5 k6
   have q0 : w.heap.size < W0.heap.size := by omega
   have q1 : w.heap.size + 1 < W0.heap.size := by omega
   have q2 : w.heap.size + 1 + 1 < W0.heap.size := by omega
   have k7 := ah n3 0
   have k8 := ah n3 1
   have k9 := ah n3 2
   simp only [Array.getElem?_eq_getElem, jw, jr, jq] at k7 k8 k9
   have f7 := bf n3 0
   have f8 := bf n3 1
   have f9 := bf n3 2
   have N3 := Lib.hid n3
   clear n3
   clear n1 n2
   have G1 := (aa Ep) W0 hw0; have G2 := (aa HG2) W0 hw0; have B1 := (aa HB1) W0 hw0; have B2 := (aa HB2) W0 hw0
   go_region_held3 (fun w' => w'.cell? ⟨w.heap.size, 0, none⟩ = some (.int .i64 s1) ∧ w'.cell? ⟨w.heap.size, 1, none⟩ = some (.bool dw) ∧ w'.cell? ⟨w.heap.size, 2, none⟩ = some (.slice A1 l1.length c1) ∧ w'.cell? ⟨w.heap.size + 1, 0, none⟩ = some (.int .i64 s2) ∧ w'.cell? ⟨w.heap.size + 1, 1, none⟩ = some (.bool ek) ∧ w'.cell? ⟨w.heap.size + 1, 2, none⟩ = some (.slice A2 l2.length c2)) ((first | exact ⟨(hc _ _ q0).trans k1, (hc _ _ q0).trans k2, (hc _ _ q0).trans k3, (hc _ _ q1).trans k4, (hc _ _ q1).trans k5, (hc _ _ q1).trans k6⟩ | exact ⟨k1, k2, k3, k4, k5, k6⟩)) (first | (go_at_call_of 146 (Value.agg #[.int .i64 s1, .bool dw, .slice A1 l1.length c1]); refine ((aa G1) _ bem).mono ?_; rintro e w' ⟨rfl, hb⟩; have hbw := cu (w := W0) bem hb; obtain ⟨hc, hfz⟩ := fu hbw) | (go_at_call_of 146 (Value.agg #[.int .i64 s2, .bool ek, .slice A2 l2.length c2]); refine ((aa G2) _ bem).mono ?_; rintro e w' ⟨rfl, hb⟩; have hbw := cu (w := W0) bem hb; obtain ⟨hc, hfz⟩ := fu hbw))
   go_wp2_with fail
   refine ((aa qm) _).mono ?_
   rintro e w1 ⟨rfl, hw1⟩
   have yf := og (w := W0) bem hw1
   obtain ⟨hc, hfz⟩ := fu yf
   clear hw1
   go_wp2_with fail
   refine ((aa HS2) _).mono ?_
   rintro e w2 ⟨rfl, hw2⟩
   have hbw2 := og (w := W0) bem hw2
   obtain ⟨hc, hfz⟩ := fu hbw2
   clear hw2
   go_wp2_with fail
   go_region_with (first | (go_at_call_of 171 (Value.agg #[.int .i64 s1, .bool dw, .slice A1 l1.length c1]); refine ((aa B1) _ bem).mono ?_; rintro e w' ⟨A5, cap5, l5, rfl, yw, hb⟩; have hbw := cu (w := W0) bem hb; obtain ⟨hc, hfz⟩ := fu hbw) | (go_at_call_of 171 (Value.agg #[.int .i64 s2, .bool ek, .slice A2 l2.length c2]); refine ((aa B2) _ bem).mono ?_; rintro e w' ⟨A6, cap6, l6, rfl, oo, hb⟩; have kz := yw.below hb; have hbw := cu (w := W0) bem hb; obtain ⟨hc, hfz⟩ := fu hbw) | (go_at_call 172; refine (abz A5 A6 cap5 cap6 l5 l6 m1 m2 _ (by exact kz) (by exact oo) ((aa HLEN) _ _ _ _ _ _ _ kz oo)).mono ?_; rintro e w' ⟨A7, Af, l7, rfl, Ae, hb⟩; have hbw := cu (w := W0) bem hb; obtain ⟨hc, hfz⟩ := fu hbw) | (go_at_call 170; refine (Bc ng A7 Af l7 (m1 * m2) _ (by exact Ae)).mono ?_; rw [← HZ.out]; rintro e w' ⟨s, su, A', cap', l', rfl, hf, hb⟩; have hbw := cu (w := W0) bem hb; obtain ⟨hc, hfz⟩ := fu hbw))
   all_goals
    have hblk : w'.heap[w.heap.size + 1 + 1]? = some (.cells #[.int .i64 0, .bool false, .slice none 0 0] 72 (0, 0)) := (hbw.block _ q2).trans N3.out
    have kg := Lib.hid hblk
    have jh : Below w.heap.size w w' := bz hw0 hbw
    clear hblk
    go_wp2_with fail
    exact bodyPost_ret (v := .agg #[.int .i64 s, .bool su, .slice A' l'.length cap']) (by simp [results, Tryz.results135, go_sem, hc, k7, k8, k9, q2]) rfl
     ⟨s, su, A', cap', l', rfl, hf.upto kg.out (ze _ _ _ _ _) (jl _ _ _ _ _), jh.grown (jl _ _ _ _ _) jh.size (fun k hk => by injection hk with hk; omega)⟩
  ·
   skip
   rw [decide_eq_false a1] at qm
   clear hsz1 hsz2 hs a1
   go_enter Tryz.func135, Tryz.ntmps135
   go_wp2_with fail
   obtain ⟨n1, n2, n3, hsz, hw0⟩ := nu w (.cells #[.int .i64 s1, .bool dw, .slice A1 l1.length c1] 72) (.cells #[.int .i64 s2, .bool ek, .slice A2 l2.length c2] 72) (.cells #[.int .i64 0, .bool false, .slice none 0 0] 72)
   generalize (((w.alloc (.cells #[.int .i64 s1, .bool dw, .slice A1 l1.length c1] 72)).alloc (.cells #[.int .i64 s2, .bool ek, .slice A2 l2.length c2] 72)).alloc (.cells #[.int .i64 0, .bool false, .slice none 0 0] 72)) = W0 at *
   have k1 := ah n1 0
   have k2 := ah n1 1
   have k3 := ah n1 2
   simp only [Array.getElem?_eq_getElem, jw, jr, jq] at k1 k2 k3
   have k4 := ah n2 0
   have k5 := ah n2 1
   have k6 := ah n2 2
   simp only [Array.getElem?_eq_getElem, jw, jr, jq] at k4 k5 k6
   have q0 : w.heap.size < W0.heap.size := by omega
   have q1 : w.heap.size + 1 < W0.heap.size := by omega
   have q2 : w.heap.size + 1 + 1 < W0.heap.size := by omega
   have k7 := ah n3 0
   have k8 := ah n3 1
   have k9 := ah n3 2
   simp only [Array.getElem?_eq_getElem, jw, jr, jq] at k7 k8 k9
   have f7 := bf n3 0
   have f8 := bf n3 1
   have f9 := bf n3 2
   have N3 := Lib.hid n3
   clear n3
   clear n1 n2
   have G1 := (aa Ep) W0 hw0; have G2 := (aa HG2) W0 hw0; have B1 := (aa HB1) W0 hw0; have B2 := (aa HB2) W0 hw0
   go_region_held3 (fun w' => w'.cell? ⟨w.heap.size, 0, none⟩ = some (.int .i64 s1) ∧ w'.cell? ⟨w.heap.size, 1, none⟩ = some (.bool dw) ∧ w'.cell? ⟨w.heap.size, 2, none⟩ = some (.slice A1 l1.length c1) ∧ w'.cell? ⟨w.heap.size + 1, 0, none⟩ = some (.int .i64 s2) ∧ w'.cell? ⟨w.heap.size + 1, 1, none⟩ = some (.bool ek) ∧ w'.cell? ⟨w.heap.size + 1, 2, none⟩ = some (.slice A2 l2.length c2)) ((first | exact ⟨(hc _ _ q0).trans k1, (hc _ _ q0).trans k2, (hc _ _ q0).trans k3, (hc _ _ q1).trans k4, (hc _ _ q1).trans k5, (hc _ _ q1).trans k6⟩ | exact ⟨k1, k2, k3, k4, k5, k6⟩)) (first | (go_at_call_of 146 (Value.agg #[.int .i64 s1, .bool dw, .slice A1 l1.length c1]); refine ((aa G1) _ bem).mono ?_; rintro e w' ⟨rfl, hb⟩; have hbw := cu (w := W0) bem hb; obtain ⟨hc, hfz⟩ := fu hbw) | (go_at_call_of 146 (Value.agg #[.int .i64 s2, .bool ek, .slice A2 l2.length c2]); refine ((aa G2) _ bem).mono ?_; rintro e w' ⟨rfl, hb⟩; have hbw := cu (w := W0) bem hb; obtain ⟨hc, hfz⟩ := fu hbw))
   go_wp2_with fail
   refine ((aa qm) _).mono ?_
   rintro e w1 ⟨rfl, hw1⟩
   have yf := og (w := W0) bem hw1
   obtain ⟨hc, hfz⟩ := fu yf
   clear hw1
   go_wp2_with fail
   go_region_with (first | (go_at_call_of 171 (Value.agg #[.int .i64 s1, .bool dw, .slice A1 l1.length c1]); refine ((aa B1) _ bem).mono ?_; rintro e w' ⟨A5, cap5, l5, rfl, yw, hb⟩; have hbw := cu (w := W0) bem hb; obtain ⟨hc, hfz⟩ := fu hbw) | (go_at_call_of 171 (Value.agg #[.int .i64 s2, .bool ek, .slice A2 l2.length c2]); refine ((aa B2) _ bem).mono ?_; rintro e w' ⟨A6, cap6, l6, rfl, oo, hb⟩; have kz := yw.below hb; have hbw := cu (w := W0) bem hb; obtain ⟨hc, hfz⟩ := fu hbw) | (go_at_call 172; refine (abz A5 A6 cap5 cap6 l5 l6 m1 m2 _ (by exact kz) (by exact oo) ((aa HLEN) _ _ _ _ _ _ _ kz oo)).mono ?_; rintro e w' ⟨A7, Af, l7, rfl, Ae, hb⟩; have hbw := cu (w := W0) bem hb; obtain ⟨hc, hfz⟩ := fu hbw) | (go_at_call 170; refine (Bc ng A7 Af l7 (m1 * m2) _ (by exact Ae)).mono ?_; rw [← HZ.out]; rintro e w' ⟨s, su, A', cap', l', rfl, hf, hb⟩; have hbw := cu (w := W0) bem hb; obtain ⟨hc, hfz⟩ := fu hbw))
   all_goals
    have hblk : w'.heap[w.heap.size + 1 + 1]? = some (.cells #[.int .i64 0, .bool false, .slice none 0 0] 72 (0, 0)) := (hbw.block _ q2).trans N3.out
    have kg := Lib.hid hblk
    have jh : Below w.heap.size w w' := bz hw0 hbw
    clear hblk
    go_wp2_with fail
    exact bodyPost_ret (v := .agg #[.int .i64 s, .bool su, .slice A' l'.length cap']) (by simp [results, Tryz.results135, go_sem, hc, k7, k8, k9, q2]) rfl
     ⟨s, su, A', cap', l', rfl, hf.upto kg.out (ze _ _ _ _ _) (jl _ _ _ _ _), jh.grown (jl _ _ _ _ _) jh.size (fun k hk => by injection hk with hk; omega)⟩

end Go.Proofs.YtjdnmdlnaoedoaaGreatDoor
namespace Go.Proofs.YtjdnmdlnaoedoaaGreatDoor
open Go.RowKit

structure Fr (Wp W : World) (b : Nat) : Prop where
 old : Wp.heap.size ≤ b
 zero : W.heap[b]? = some (.cells #[.int .i64 0, .bool false, .slice none 0 0] 72 (0, 0))
theorem lt_of_block {W : World} {b : Nat} {o : Obj} (h : W.heap[b]? = some o) : b < W.heap.size := by
 rcases Nat.lt_or_ge b W.heap.size with hlt | hge
 ·
  exact hlt
 ·
  rw [Array.getElem?_eq_none hge] at h; cases h
theorem Fr.lt {Wp W : World} {b : Nat} (h : Fr Wp W b) : b < W.heap.size := lt_of_block h.zero
theorem Fr.drew {Wp W : World} {b : Nat} (h : Fr Wp W b) : Fr Wp W.drew b := ⟨h.old, h.zero⟩
theorem Fr.drewN {Wp W : World} {b : Nat} {n : Nat} (h : Fr Wp W b) : Fr Wp (W.drewN n) b := ⟨h.old, h.zero⟩
theorem Fr.below {Wp W w' : World} {b : Nat} (h : Fr Wp W b) (hb : Below W.heap.size W w') : Fr Wp w' b := ⟨h.old, (hb.block _ h.lt).trans h.zero⟩
theorem Fr.new {Wp W : World} {b : Nat} (hb : Below Wp.heap.size Wp W) (e : b = W.heap.size) : Fr Wp (W.alloc (.cells #[.int .i64 0, .bool false, .slice none 0 0] 72 (0, 0))) b := by
 subst e; exact ⟨hb.size, heap_alloc_new W _⟩
structure Fr2 (Wp W : World) (b c : Nat) : Prop where
 one : Fr Wp W b
 two : Fr Wp W c
 ne : b ≠ c
theorem Fr2.drew {Wp W : World} {b c : Nat} (h : Fr2 Wp W b c) : Fr2 Wp W.drew b c := ⟨h.one.drew, h.two.drew, h.ne⟩
theorem Fr2.drewN {Wp W : World} {b c n : Nat} (h : Fr2 Wp W b c) : Fr2 Wp (W.drewN n) b c := ⟨h.one.drewN, h.two.drewN, h.ne⟩
theorem Fr2.below {Wp W w' : World} {b c : Nat} (h : Fr2 Wp W b c) (hb : Below W.heap.size W w') : Fr2 Wp w' b c := ⟨h.one.below hb, h.two.below hb, h.ne⟩
def Ni (w : World) (b : Nat) (z : Int) : Prop := ∃ s neg A cap l, w.heap[b]? = some (.cells #[.int .i64 s, .bool neg, .slice A (List.length l) cap] 72 (0, 0)) ∧ ig w s neg A cap l z
theorem Ni.below {w w' : World} {b : Nat} {z : Int} (h : Ni w b z) (hb : Below w.heap.size w w') : Ni w' b z := by
 obtain ⟨s, neg, A, cap, l, h1, h2⟩ := h
 exact ⟨s, neg, A, cap, l, (hb.block _ (lt_of_block h1)).trans h1, h2.below hb⟩
theorem Sv {W : World} {b : Nat} {a0 a1 u0 u1 : Value} {T : TypeId} (h : W.heap[b]? = some (.cells #[a0, a1] T (0, 0))) : ((W.setCell ⟨b, 0, none⟩ u0).setCell ⟨b, 1, none⟩ u1).heap[b]? = some (.cells #[u0, u1] T (0, 0)) := by
 simp [World.setCell, Array.getElem?_modify, h]
theorem alj {W : World} {b : Nat} {a0 a1 a2 u0 u1 u2 : Value} {T : TypeId} (h : W.heap[b]? = some (.cells #[a0, a1, a2] T (0, 0))) : (((W.setCell ⟨b, 0, none⟩ u0).setCell ⟨b, 1, none⟩ u1).setCell ⟨b, 2, none⟩ u2).heap[b]? = some (.cells #[u0, u1, u2] T (0, 0)) := by
 simp [World.setCell, Array.getElem?_modify, h]
theorem Ni.new {W : World} {b : Nat} {s1 : Int} {dw : Bool} {A1 : Option Addr} {c1 : Nat} {l1 : List Nat} {z1 : Int} (h1 : ig W s1 dw A1 c1 l1 z1) (e : b = W.heap.size) : Ni (W.alloc (.cells #[.int .i64 s1, .bool dw, .slice A1 l1.length c1] 72)) b z1 := by
 subst e; exact ⟨s1, dw, A1, c1, l1, heap_alloc_new W _, h1.below ((Below.refl _ _).alloc (Nat.le_refl _) _)⟩
theorem Ni.alloc {W : World} {b : Nat} {z : Int} {o : Obj} (h : Ni W b z) : Ni (W.alloc o) b z := h.below ((Below.refl _ _).alloc (Nat.le_refl _) _)
theorem ig.alloc {W : World} {o : Obj} {s1 : Int} {dw : Bool} {A1 : Option Addr} {c1 : Nat} {l1 : List Nat} {z1 : Int} (h1 : ig W s1 dw A1 c1 l1 z1) : ig (W.alloc o) s1 dw A1 c1 l1 z1 := h1.below ((Below.refl _ _).alloc (Nat.le_refl _) _)
theorem Fr.alloc {Wp W : World} {b : Nat} {o : Obj} (h : Fr Wp W b) : Fr Wp (W.alloc o) b := ⟨h.old, (Below.heap_alloc W _ b h.lt).trans h.zero⟩
theorem awr {Wp W : World} {b : Nat} {s1 : Int} {dw : Bool} {A1 : Option Addr} {c1 : Nat} {l1 : List Nat} {z1 : Int} (h1 : ig W s1 dw A1 c1 l1 z1) (hb : Below Wp.heap.size Wp W) (e : b = W.heap.size) :
  Ni (W.alloc (.cells #[.int .i64 s1, .bool dw, .slice A1 l1.length c1] 72)) b z1 ∧ Below Wp.heap.size Wp (W.alloc (.cells #[.int .i64 s1, .bool dw, .slice A1 l1.length c1] 72)) ∧ Wp.heap.size ≤ b :=
 ⟨Ni.new h1 e, hb.alloc hb.size _, by have := hb.size; omega⟩
theorem jc {W W' : World} (h : Below W.heap.size W W') (o : Obj) : Below W.heap.size W (W'.alloc o) := h.alloc h.size o
theorem bel {P : Prop} (h : P := by (repeat (first | with_reducible exact Below.refl _ _ | with_reducible assumption | with_reducible refine Below.drew ?_ | with_reducible refine jc ?_ _))) : P := h
theorem ib {W W' : World} {b o : Nat} {v : Value} (hB : Below W.heap.size W W') (q : b < W.heap.size) (k : W.cell? ⟨b, o, none⟩ = some v) : W'.cell? ⟨b, o, none⟩ = some v := (hB.cell (p := ⟨b, o, none⟩) q).trans k
def Dh (w : World) (F : Nat) (a b c : Int) : Prop := ∀ (s1 : Int) (dw : Bool) (A1 : Option Addr) (c1 : Nat) (l1 : List Nat) (s2 : Int) (ek : Bool) (A2 : Option Addr) (c2 : Nat) (l2 : List Nat) (W : World), Below w.heap.size w W → ig W s1 dw A1 c1 l1 a → ig W s2 ek A2 c2 l2 b → Calls Tryz.prog F #[(Value.agg #[.int .i64 s1, .bool dw, .slice A1 l1.length c1]), (Value.agg #[.int .i64 s2, .bool ek, .slice A2 l2.length c2])] W fun e w' => En W c e w'
theorem Rm {w : World} {a b c : Int} {K : Nat} (hT : qy w) (ha : Wd.Sz fo K a) (hb : Wd.Sz fo K b) (hK : K ≤ lim) (e : c = ((a.natAbs.gcd b.natAbs : Nat) : Int)) : Dh w 143 a b c := by
 subst e
 exact fun s1 dw A1 c1 l1 s2 ek A2 c2 l2 W hW f1 f2 => auh s1 dw A1 c1 l1 a s2 ek A2 c2 l2 b W f1 f2 (f1.fit ha hK) (f2.fit hb hK) (hT.below hW)
theorem Ev {w : World} {a b c : Int} {K : Nat} (ha : Wd.Sz fo K a) (hb : Wd.Sz fo K b) (hK : K ≤ lim) (h0 : b ≠ 0) (e : c = a.tdiv b) : Dh w 144 a b c := by
 subst e
 exact fun s1 dw A1 c1 l1 s2 ek A2 c2 l2 W hW f1 f2 => auf s1 dw A1 c1 l1 a s2 ek A2 c2 l2 b W f1 f2 (f1.fit ha hK) (f2.fit hb hK) h0
theorem Jy {w : World} {a b c : Int} {K : Nat} (ha : Wd.Sz fo K a) (hb : Wd.Sz fo K b) (hK : K ≤ lim) (e : c = a * b) : Dh w 135 a b c := by
 subst e
 exact fun s1 dw A1 c1 l1 s2 ek A2 c2 l2 W hW f1 f2 => aug s1 dw A1 c1 l1 a s2 ek A2 c2 l2 b W f1 f2 (f1.fit ha hK) (f2.fit hb hK)
theorem apy {w : World} {a b c : Int} {K : Nat} (ha : Wd.Sz fo K a) (hb : Wd.Sz fo K b) (hK : K ≤ lim) (e : c = a + b) : Dh w 145 a b c := by
 subst e
 exact fun s1 dw A1 c1 l1 s2 ek A2 c2 l2 W hW f1 f2 => auj s1 dw A1 c1 l1 a s2 ek A2 c2 l2 b W f1 f2 (f1.fit ha hK) (f2.fit hb hK)

end Go.Proofs.YtjdnmdlnaoedoaaGreatDoor
namespace Go.Proofs.YtjdnmdlnaoedoaaGreatDoor
open Go.RowKit

theorem ath (s1 : Int) (dw : Bool) (A1 : Option Addr) (c1 : Nat) (l1 : List Nat) (z1 : Int) (s2 : Int) (ek : Bool) (A2 : Option Addr) (c2 : Nat) (l2 : List Nat) (z2 : Int) (w : World) (h1 : ig w s1 dw A1 c1 l1 z1) (h2 : ig w s2 ek A2 c2 l2 z2) :
  Calls Tryz.prog 134 #[(Value.agg #[.int .i64 s1, .bool dw, .slice A1 l1.length c1, .int .i64 s2, .bool ek, .slice A2 l2.length c2])] w fun e w' => Hy w (-z1) z2 e w' := by
 have H1 := hide h1
 have H2 := hide h2
 clear h1 h2
 go_enter Tryz.func134, Tryz.ntmps134
 go_wp2_with fail
 obtain ⟨n0, n1, hsz, hw0⟩ := uu w (.cells #[.int .i64 s1, .bool dw, .slice A1 l1.length c1, .int .i64 s2, .bool ek, .slice A2 l2.length c2] 74) (.cells #[.int .i64 0, .bool false, .slice none 0 0, .int .i64 0, .bool false, .slice none 0 0] 74)
 generalize ((w.alloc (.cells #[.int .i64 s1, .bool dw, .slice A1 l1.length c1, .int .i64 s2, .bool ek, .slice A2 l2.length c2] 74)).alloc (.cells #[.int .i64 0, .bool false, .slice none 0 0, .int .i64 0, .bool false, .slice none 0 0] 74)) = W0 at *
 have yc : W0.cell? ⟨w.heap.size, 0, none⟩ = some (.int .i64 s1) := ah n0 0
 have xz : W0.cell? ⟨w.heap.size, 1, none⟩ = some (.bool dw) := ah n0 1
 have Ak : W0.cell? ⟨w.heap.size, 2, none⟩ = some (.slice A1 l1.length c1) := ah n0 2
 have Cc : W0.cell? ⟨w.heap.size, 3, none⟩ = some (.int .i64 s2) := ah n0 3
 have Dv : W0.cell? ⟨w.heap.size, 4, none⟩ = some (.bool ek) := ah n0 4
 have Du : W0.cell? ⟨w.heap.size, 5, none⟩ = some (.slice A2 l2.length c2) := ah n0 5
 have q0 : w.heap.size < W0.heap.size := by omega
 have Ad : W0.cell? ⟨w.heap.size + 1, 0, none⟩ = some (.int .i64 0) := ah n1 0
 have Ac : W0.cell? ⟨w.heap.size + 1, 1, none⟩ = some (.bool false) := ah n1 1
 have El : W0.cell? ⟨w.heap.size + 1, 2, none⟩ = some (.slice none 0 0) := ah n1 2
 have Kz : W0.cell? ⟨w.heap.size + 1, 3, none⟩ = some (.int .i64 0) := ah n1 3
 have Tq : W0.cell? ⟨w.heap.size + 1, 4, none⟩ = some (.bool false) := ah n1 4
 have Tp : W0.cell? ⟨w.heap.size + 1, 5, none⟩ = some (.slice none 0 0) := ah n1 5
 have q1 : w.heap.size + 1 < W0.heap.size := by omega
 have Nh := bf n1 0
 have Ng := bf n1 1
 have ahm := bf n1 2
 have ahl := bf n1 3
 have avg := bf n1 4
 have avf := bf n1 5
 have NR := Lib.hid n1
 clear n0 n1
 go_region_held3 (fun w' => w'.cell? ⟨w.heap.size, 0, none⟩ = some (.int .i64 s1) ∧ w'.cell? ⟨w.heap.size, 1, none⟩ = some (.bool dw) ∧ w'.cell? ⟨w.heap.size, 2, none⟩ = some (.slice A1 l1.length c1) ∧ w'.cell? ⟨w.heap.size, 3, none⟩ = some (.int .i64 s2) ∧ w'.cell? ⟨w.heap.size, 4, none⟩ = some (.bool ek) ∧ w'.cell? ⟨w.heap.size, 5, none⟩ = some (.slice A2 l2.length c2)) ((first | with_reducible exact ⟨(hc _ _ q0).trans yc, (hc _ _ q0).trans xz, (hc _ _ q0).trans Ak, (hc _ _ q0).trans Cc, (hc _ _ q0).trans Dv, (hc _ _ q0).trans Du⟩ | with_reducible exact ⟨yc, xz, Ak, Cc, Dv, Du⟩ | with_reducible exact ⟨(jy _ _ _ _ _ _ _ _ om).trans ((hc _ _ q0).trans yc), (jy _ _ _ _ _ _ _ _ om).trans ((hc _ _ q0).trans xz), (jy _ _ _ _ _ _ _ _ om).trans ((hc _ _ q0).trans Ak), (jy _ _ _ _ _ _ _ _ om).trans ((hc _ _ q0).trans Cc), (jy _ _ _ _ _ _ _ _ om).trans ((hc _ _ q0).trans Dv), (jy _ _ _ _ _ _ _ _ om).trans ((hc _ _ q0).trans Du)⟩ | exact ⟨(hc _ _ q0).trans yc, (hc _ _ q0).trans xz, (hc _ _ q0).trans Ak, (hc _ _ q0).trans Cc, (hc _ _ q0).trans Dv, (hc _ _ q0).trans Du⟩ | exact ⟨yc, xz, Ak, Cc, Dv, Du⟩ | exact ⟨(jy _ _ _ _ _ _ _ _ om).trans ((hc _ _ q0).trans yc), (jy _ _ _ _ _ _ _ _ om).trans ((hc _ _ q0).trans xz), (jy _ _ _ _ _ _ _ _ om).trans ((hc _ _ q0).trans Ak), (jy _ _ _ _ _ _ _ _ om).trans ((hc _ _ q0).trans Cc), (jy _ _ _ _ _ _ _ _ om).trans ((hc _ _ q0).trans Dv), (jy _ _ _ _ _ _ _ _ om).trans ((hc _ _ q0).trans Du)⟩)) (first | (go_at_call_of 147 (Value.agg #[.int .i64 s1, .bool dw, .slice A1 l1.length c1]); refine (Rn s1 dw A1 c1 l1 z1 _ (by exact (aa H1).below (bz hw0 bem))).mono ?_; rintro e w' ⟨s5, Cb, A5, c5, l5, rfl, yx, hb⟩; have hbw := cu (w := W0) bem hb; obtain ⟨hc, hfz⟩ := fu hbw))
 have hblk : w'.heap[w.heap.size + 1]? = some (.cells #[.int .i64 0, .bool false, .slice none 0 0, .int .i64 0, .bool false, .slice none 0 0] 74 (0, 0)) := (hbw.block _ q1).trans NR.out
 have kg := Lib.hid hblk
 have jh : Below w.heap.size w w' := bz hw0 hbw
 clear hblk
 go_wp2_with fail
 exact bodyPost_ret (v := (Value.agg #[.int .i64 s5, .bool Cb, .slice A5 l5.length c5, .int .i64 s2, .bool ek, .slice A2 l2.length c2])) (by simp [results, Tryz.results134, go_sem, hc, Ad, Ac, El, Kz, Tq, Tp, q1]) rfl
  ⟨s5, Cb, A5, c5, l5, s2, ek, A2, c2, l2, rfl, (yx).upto kg.out (Cu _ _ _ _ _ _ _ _ _ _) (uf _ _ _ _ _ _ _ _), ((aa H2).below (bz hw0 hbw)).upto kg.out (Cu _ _ _ _ _ _ _ _ _ _) (uf _ _ _ _ _ _ _ _), jh.grown (uf _ _ _ _ _ _ _ _) jh.size (fun k hk => by injection hk with hk; omega)⟩

end Go.Proofs.YtjdnmdlnaoedoaaGreatDoor
namespace Go.Proofs.YtjdnmdlnaoedoaaGreatDoor
open Go.RowKit

theorem atj (s1 : Int) (dw : Bool) (A1 : Option Addr) (c1 : Nat) (l1 : List Nat) (z1 : Int) (s2 : Int) (ek : Bool) (A2 : Option Addr) (c2 : Nat) (l2 : List Nat) (z2 : Int) (w : World) (h1 : ig w s1 dw A1 c1 l1 z1) (h2 : ig w s2 ek A2 c2 l2 z2) (hz : z1 < 0) :
  Calls Tryz.prog 79 #[(Value.agg #[.int .i64 s1, .bool dw, .slice A1 l1.length c1, .int .i64 s2, .bool ek, .slice A2 l2.length c2])] w fun e w' => Hy w (-z2) (-z1) e w' := by
 have hs : decide (iw z1 < 0) = true := decide_eq_true (by rw [Jk]; exact hz)
 obtain ⟨o1, ho1⟩ : ∃ o, o = iw z1 := ⟨_, rfl⟩
 have HS : Hid (∀ W, Below w.heap.size w W → Calls Tryz.prog 146 #[(Value.agg #[.int .i64 s1, .bool dw, .slice A1 l1.length c1])] W fun e w' => e = .returned (.int .i64 o1) ∧ Below W.heap.size W w') := by rw [ho1]; exact fun W hW => Ap s1 dw A1 c1 l1 z1 W (h1.below hW)
 rw [← ho1] at hs
 clear ho1 hz
 have H1 := hide h1
 have H2 := hide h2
 clear h1 h2
 go_enter Tryz.func79, Tryz.ntmps79
 go_wp2_with fail
 obtain ⟨n0, n1, hsz, hw0⟩ := uu w (.cells #[.int .i64 s1, .bool dw, .slice A1 l1.length c1, .int .i64 s2, .bool ek, .slice A2 l2.length c2] 74) (.cells #[.int .i64 0, .bool false, .slice none 0 0, .int .i64 0, .bool false, .slice none 0 0] 74)
 generalize ((w.alloc (.cells #[.int .i64 s1, .bool dw, .slice A1 l1.length c1, .int .i64 s2, .bool ek, .slice A2 l2.length c2] 74)).alloc (.cells #[.int .i64 0, .bool false, .slice none 0 0, .int .i64 0, .bool false, .slice none 0 0] 74)) = W0 at *
 have yc : W0.cell? ⟨w.heap.size, 0, none⟩ = some (.int .i64 s1) := ah n0 0
 have xz : W0.cell? ⟨w.heap.size, 1, none⟩ = some (.bool dw) := ah n0 1
 have Ak : W0.cell? ⟨w.heap.size, 2, none⟩ = some (.slice A1 l1.length c1) := ah n0 2
 have Cc : W0.cell? ⟨w.heap.size, 3, none⟩ = some (.int .i64 s2) := ah n0 3
 have Dv : W0.cell? ⟨w.heap.size, 4, none⟩ = some (.bool ek) := ah n0 4
 have Du : W0.cell? ⟨w.heap.size, 5, none⟩ = some (.slice A2 l2.length c2) := ah n0 5
 have q0 : w.heap.size < W0.heap.size := by omega
 have Ad : W0.cell? ⟨w.heap.size + 1, 0, none⟩ = some (.int .i64 0) := ah n1 0
 have Ac : W0.cell? ⟨w.heap.size + 1, 1, none⟩ = some (.bool false) := ah n1 1
 have El : W0.cell? ⟨w.heap.size + 1, 2, none⟩ = some (.slice none 0 0) := ah n1 2
 have Kz : W0.cell? ⟨w.heap.size + 1, 3, none⟩ = some (.int .i64 0) := ah n1 3
 have Tq : W0.cell? ⟨w.heap.size + 1, 4, none⟩ = some (.bool false) := ah n1 4
 have Tp : W0.cell? ⟨w.heap.size + 1, 5, none⟩ = some (.slice none 0 0) := ah n1 5
 have q1 : w.heap.size + 1 < W0.heap.size := by omega
 have Nh := bf n1 0
 have Ng := bf n1 1
 have ahm := bf n1 2
 have ahl := bf n1 3
 have avg := bf n1 4
 have avf := bf n1 5
 have NR := Lib.hid n1
 clear n0 n1
 refine ((aa HS) _ (bz hw0 bem)).mono ?_
 rintro e w' ⟨rfl, hb⟩
 have hbw := cu (w := W0) bem hb; obtain ⟨hc, hfz⟩ := fu hbw
 go_wp2_with fail
 go_region_held3 (fun w' => w'.cell? ⟨w.heap.size, 0, none⟩ = some (.int .i64 s1) ∧ w'.cell? ⟨w.heap.size, 1, none⟩ = some (.bool dw) ∧ w'.cell? ⟨w.heap.size, 2, none⟩ = some (.slice A1 l1.length c1) ∧ w'.cell? ⟨w.heap.size, 3, none⟩ = some (.int .i64 s2) ∧ w'.cell? ⟨w.heap.size, 4, none⟩ = some (.bool ek) ∧ w'.cell? ⟨w.heap.size, 5, none⟩ = some (.slice A2 l2.length c2)) ((first | with_reducible exact ⟨(hc _ _ q0).trans yc, (hc _ _ q0).trans xz, (hc _ _ q0).trans Ak, (hc _ _ q0).trans Cc, (hc _ _ q0).trans Dv, (hc _ _ q0).trans Du⟩ | with_reducible exact ⟨yc, xz, Ak, Cc, Dv, Du⟩ | with_reducible exact ⟨(jy _ _ _ _ _ _ _ _ om).trans ((hc _ _ q0).trans yc), (jy _ _ _ _ _ _ _ _ om).trans ((hc _ _ q0).trans xz), (jy _ _ _ _ _ _ _ _ om).trans ((hc _ _ q0).trans Ak), (jy _ _ _ _ _ _ _ _ om).trans ((hc _ _ q0).trans Cc), (jy _ _ _ _ _ _ _ _ om).trans ((hc _ _ q0).trans Dv), (jy _ _ _ _ _ _ _ _ om).trans ((hc _ _ q0).trans Du)⟩ | exact ⟨(hc _ _ q0).trans yc, (hc _ _ q0).trans xz, (hc _ _ q0).trans Ak, (hc _ _ q0).trans Cc, (hc _ _ q0).trans Dv, (hc _ _ q0).trans Du⟩ | exact ⟨yc, xz, Ak, Cc, Dv, Du⟩ | exact ⟨(jy _ _ _ _ _ _ _ _ om).trans ((hc _ _ q0).trans yc), (jy _ _ _ _ _ _ _ _ om).trans ((hc _ _ q0).trans xz), (jy _ _ _ _ _ _ _ _ om).trans ((hc _ _ q0).trans Ak), (jy _ _ _ _ _ _ _ _ om).trans ((hc _ _ q0).trans Cc), (jy _ _ _ _ _ _ _ _ om).trans ((hc _ _ q0).trans Dv), (jy _ _ _ _ _ _ _ _ om).trans ((hc _ _ q0).trans Du)⟩)) (first | (go_at_call_of 147 (Value.agg #[.int .i64 s2, .bool ek, .slice A2 l2.length c2]); refine (Rn s2 ek A2 c2 l2 z2 _ (by exact (aa H2).below (bz hw0 bem))).mono ?_; rintro e w' ⟨s5, Cb, A5, c5, l5, rfl, yx, hb⟩; have hbw := cu (w := W0) bem hb; obtain ⟨hc, hfz⟩ := fu hbw) | (go_at_call_of 147 (Value.agg #[.int .i64 s1, .bool dw, .slice A1 l1.length c1]); refine (Rn s1 dw A1 c1 l1 z1 _ (by exact (aa H1).below (bz hw0 bem))).mono ?_; rintro e w' ⟨s6, Pf, A6, c6, l6, rfl, Cr, hb⟩; have yx := yx.below hb; have hbw := cu (w := W0) bem hb; obtain ⟨hc, hfz⟩ := fu hbw))
 have hblk : w'.heap[w.heap.size + 1]? = some (.cells #[.int .i64 0, .bool false, .slice none 0 0, .int .i64 0, .bool false, .slice none 0 0] 74 (0, 0)) := (hbw.block _ q1).trans NR.out
 have kg := Lib.hid hblk
 have jh : Below w.heap.size w w' := bz hw0 hbw
 clear hblk
 go_wp2_with fail
 exact bodyPost_ret (v := (Value.agg #[.int .i64 s5, .bool Cb, .slice A5 l5.length c5, .int .i64 s6, .bool Pf, .slice A6 l6.length c6])) (by simp [results, Tryz.results79, go_sem, hc, Ad, Ac, El, Kz, Tq, Tp, q1]) rfl
  ⟨s5, Cb, A5, c5, l5, s6, Pf, A6, c6, l6, rfl, (yx).upto kg.out (Cu _ _ _ _ _ _ _ _ _ _) (uf _ _ _ _ _ _ _ _), (Cr).upto kg.out (Cu _ _ _ _ _ _ _ _ _ _) (uf _ _ _ _ _ _ _ _), jh.grown (uf _ _ _ _ _ _ _ _) jh.size (fun k hk => by injection hk with hk; omega)⟩
theorem ati (s1 : Int) (dw : Bool) (A1 : Option Addr) (c1 : Nat) (l1 : List Nat) (z1 : Int) (s2 : Int) (ek : Bool) (A2 : Option Addr) (c2 : Nat) (l2 : List Nat) (z2 : Int) (w : World) (h1 : ig w s1 dw A1 c1 l1 z1) (h2 : ig w s2 ek A2 c2 l2 z2) (hz : ¬ z1 < 0) :
  Calls Tryz.prog 79 #[(Value.agg #[.int .i64 s1, .bool dw, .slice A1 l1.length c1, .int .i64 s2, .bool ek, .slice A2 l2.length c2])] w fun e w' => Hy w z2 z1 e w' := by
 have hs : decide (iw z1 < 0) = false := decide_eq_false (by rw [Jk]; exact hz)
 obtain ⟨o1, ho1⟩ : ∃ o, o = iw z1 := ⟨_, rfl⟩
 have HS : Hid (∀ W, Below w.heap.size w W → Calls Tryz.prog 146 #[(Value.agg #[.int .i64 s1, .bool dw, .slice A1 l1.length c1])] W fun e w' => e = .returned (.int .i64 o1) ∧ Below W.heap.size W w') := by rw [ho1]; exact fun W hW => Ap s1 dw A1 c1 l1 z1 W (h1.below hW)
 rw [← ho1] at hs
 clear ho1 hz
 have H1 := hide h1
 have H2 := hide h2
 clear h1 h2
 go_enter Tryz.func79, Tryz.ntmps79
 go_wp2_with fail
 obtain ⟨n0, n1, hsz, hw0⟩ := uu w (.cells #[.int .i64 s1, .bool dw, .slice A1 l1.length c1, .int .i64 s2, .bool ek, .slice A2 l2.length c2] 74) (.cells #[.int .i64 0, .bool false, .slice none 0 0, .int .i64 0, .bool false, .slice none 0 0] 74)
 generalize ((w.alloc (.cells #[.int .i64 s1, .bool dw, .slice A1 l1.length c1, .int .i64 s2, .bool ek, .slice A2 l2.length c2] 74)).alloc (.cells #[.int .i64 0, .bool false, .slice none 0 0, .int .i64 0, .bool false, .slice none 0 0] 74)) = W0 at *
 have yc : W0.cell? ⟨w.heap.size, 0, none⟩ = some (.int .i64 s1) := ah n0 0
 have xz : W0.cell? ⟨w.heap.size, 1, none⟩ = some (.bool dw) := ah n0 1
 have Ak : W0.cell? ⟨w.heap.size, 2, none⟩ = some (.slice A1 l1.length c1) := ah n0 2
 have Cc : W0.cell? ⟨w.heap.size, 3, none⟩ = some (.int .i64 s2) := ah n0 3
 have Dv : W0.cell? ⟨w.heap.size, 4, none⟩ = some (.bool ek) := ah n0 4
 have Du : W0.cell? ⟨w.heap.size, 5, none⟩ = some (.slice A2 l2.length c2) := ah n0 5
 have q0 : w.heap.size < W0.heap.size := by omega
 have Ad : W0.cell? ⟨w.heap.size + 1, 0, none⟩ = some (.int .i64 0) := ah n1 0
 have Ac : W0.cell? ⟨w.heap.size + 1, 1, none⟩ = some (.bool false) := ah n1 1
 have El : W0.cell? ⟨w.heap.size + 1, 2, none⟩ = some (.slice none 0 0) := ah n1 2
 have Kz : W0.cell? ⟨w.heap.size + 1, 3, none⟩ = some (.int .i64 0) := ah n1 3
 have Tq : W0.cell? ⟨w.heap.size + 1, 4, none⟩ = some (.bool false) := ah n1 4
 have Tp : W0.cell? ⟨w.heap.size + 1, 5, none⟩ = some (.slice none 0 0) := ah n1 5
 have q1 : w.heap.size + 1 < W0.heap.size := by omega
 have Nh := bf n1 0
 have Ng := bf n1 1
 have ahm := bf n1 2
 have ahl := bf n1 3
 have avg := bf n1 4
 have avf := bf n1 5
 have NR := Lib.hid n1
 clear n0 n1
 refine ((aa HS) _ (bz hw0 bem)).mono ?_
 rintro e w' ⟨rfl, hb⟩
 have hbw := cu (w := W0) bem hb; obtain ⟨hc, hfz⟩ := fu hbw
 have hblk : w'.heap[w.heap.size + 1]? = some (.cells #[.int .i64 0, .bool false, .slice none 0 0, .int .i64 0, .bool false, .slice none 0 0] 74 (0, 0)) := (hbw.block _ q1).trans NR.out
 have kg := Lib.hid hblk
 have jh : Below w.heap.size w w' := bz hw0 hbw
 clear hblk
 go_wp2_with fail
 exact bodyPost_ret (v := (Value.agg #[.int .i64 s2, .bool ek, .slice A2 l2.length c2, .int .i64 s1, .bool dw, .slice A1 l1.length c1])) (by simp [results, Tryz.results79, go_sem, hc, Ad, Ac, El, Kz, Tq, Tp, q1]) rfl
  ⟨s2, ek, A2, c2, l2, s1, dw, A1, c1, l1, rfl, ((aa H2).below (bz hw0 hbw)).upto kg.out (Cu _ _ _ _ _ _ _ _ _ _) (uf _ _ _ _ _ _ _ _), ((aa H1).below (bz hw0 hbw)).upto kg.out (Cu _ _ _ _ _ _ _ _ _ _) (uf _ _ _ _ _ _ _ _), jh.grown (uf _ _ _ _ _ _ _ _) jh.size (fun k hk => by injection hk with hk; omega)⟩

end Go.Proofs.YtjdnmdlnaoedoaaGreatDoor
namespace Go.Proofs.YtjdnmdlnaoedoaaGreatDoor
open Go.RowKit

def Uh (w : World) (F : Nat) (x q : Rat) : Prop := ∀ (s1 : Int) (dw : Bool) (A1 : Option Addr) (c1 : Nat) (l1 : List Nat) (s2 : Int) (ek : Bool) (A2 : Option Addr) (c2 : Nat) (l2 : List Nat) (W : World), Below w.heap.size w W → ig W s1 dw A1 c1 l1 x.num → ig W s2 ek A2 c2 l2 (x.den : Int) → Calls Tryz.prog F #[(Value.agg #[.int .i64 s1, .bool dw, .slice A1 l1.length c1, .int .i64 s2, .bool ek, .slice A2 l2.length c2])] W fun e w' => Hy W q.num (q.den : Int) e w'
def Le (w : World) (F : Nat) (x y q : Rat) : Prop := ∀ (s1 : Int) (dw : Bool) (A1 : Option Addr) (c1 : Nat) (l1 : List Nat) (s2 : Int) (ek : Bool) (A2 : Option Addr) (c2 : Nat) (l2 : List Nat) (s3 : Int) (Dm : Bool) (A3 : Option Addr) (c3 : Nat) (l3 : List Nat) (s4 : Int) (Dt : Bool) (A4 : Option Addr) (c4 : Nat) (l4 : List Nat) (W : World), Below w.heap.size w W → ig W s1 dw A1 c1 l1 x.num → ig W s2 ek A2 c2 l2 (x.den : Int) → ig W s3 Dm A3 c3 l3 y.num → ig W s4 Dt A4 c4 l4 (y.den : Int) → Calls Tryz.prog F #[(Value.agg #[.int .i64 s1, .bool dw, .slice A1 l1.length c1, .int .i64 s2, .bool ek, .slice A2 l2.length c2]), (Value.agg #[.int .i64 s3, .bool Dm, .slice A3 l3.length c3, .int .i64 s4, .bool Dt, .slice A4 l4.length c4])] W fun e w' => Hy W q.num (q.den : Int) e w'
theorem Uh.mono {w w' : World} {F : Nat} {x q : Rat} (h : Uh w F x q) (hb : Below w.heap.size w w') : Uh w' F x q := fun _ _ _ _ _ _ _ _ _ _ W hW => h _ _ _ _ _ _ _ _ _ _ W (bz hb hW)
theorem Le.mono {w w' : World} {F : Nat} {x y q : Rat} (h : Le w F x y q) (hb : Below w.heap.size w w') : Le w' F x y q := fun _ _ _ _ _ _ _ _ _ _ _ _ _ _ _ _ _ _ _ _ W hW => h _ _ _ _ _ _ _ _ _ _ _ _ _ _ _ _ _ _ _ _ W (bz hb hW)

def Ag (K : Nat) (q : Rat) : Prop := Wd.Sz fo K q.num ∧ Wd.Sz fo K (q.den : Int)
theorem Ag.mono {K L : Nat} {q : Rat} (h : Ag K q) (hk : K ≤ L) : Ag L q := ⟨h.1.mono qj hk, h.2.mono qj hk⟩
theorem Ag.neg {K : Nat} {q : Rat} (h : Ag K q) : Ag K (-q) := ⟨by rw [Rat.neg_num]; exact h.1.neg, by rw [Rat.neg_den]; exact h.2⟩

theorem aze (w : World) (x : Rat) : Uh w 134 x (-x) := fun s1 dw A1 c1 l1 s2 ek A2 c2 l2 W _ f1 f2 => by
 rw [Rat.neg_num, Rat.neg_den]
 exact ath s1 dw A1 c1 l1 _ s2 ek A2 c2 l2 _ W f1 f2
theorem azf (w : World) (x : Rat) (h : x.num ≠ 0) : Uh w 79 x (x⁻¹) := fun s1 dw A1 c1 l1 s2 ek A2 c2 l2 W _ f1 f2 => by
 have hp := Wd.Vk x h
 by_cases hn : x.num < 0
 ·
  rw [(hp.1 hn).1, (hp.1 hn).2]
  exact atj s1 dw A1 c1 l1 _ s2 ek A2 c2 l2 _ W f1 f2 hn
 ·
  rw [(hp.2 hn).1, (hp.2 hn).2]
  exact ati s1 dw A1 c1 l1 _ s2 ek A2 c2 l2 _ W f1 f2 hn
theorem Ag.inv {K : Nat} {q : Rat} (h : Ag K q) (h0 : q.num ≠ 0) : Ag K (q⁻¹) := by
 have hp := Wd.Vk q h0
 by_cases hn : q.num < 0
 ·
  exact ⟨by rw [(hp.1 hn).1]; exact h.2.neg, by rw [(hp.1 hn).2]; exact h.1.neg⟩
 ·
  exact ⟨by rw [(hp.2 hn).1]; exact h.2, by rw [(hp.2 hn).2]; exact h.1⟩
end Go.Proofs.YtjdnmdlnaoedoaaGreatDoor
namespace Go.Proofs.YtjdnmdlnaoedoaaGreatDoor
open Go.RowKit

def gm : World → World → Prop := fun w w' => Below w.heap.size w w'
theorem gm.drew (w : World) : gm w w.drew := (Below.refl _ _).drew
theorem Gf {P : Program} {F : Nat} {fn : Func} (h : P.funcs[F]? = some fn) (hn : (!(fn.name == "runtime.NumGoroutine") && fn.body.isSome) = true) (vs : Array Value) (w : World) : (callFunc F vs).run P w = .ok (.enter F vs) w := by
 simp only [Bool.and_eq_true, Bool.not_eq_true', beq_eq_false_iff_ne] at hn
 have h2 : ¬ fn.body = none := by intro e; rw [e] at hn; exact absurd hn.2 (by simp)
 unfold callFunc
 simp [go_sem, h]
 rw [if_neg hn.1, if_neg h2]
theorem Ov {P : Program} {F : Nat} (hF : ∀ (vs : Array Value) (w : World), (callFunc F vs).run P w = .ok (.enter F vs) w) {a : Act} {w : World} {d : Option Tmp} {xs : Array Operand} {ats : Array TypeId} {ty : TypeId} {pos : String} {af : Array Edge} {gd : Option (Nat × Bool)} :
  (execOp a.eval { dst := d, op := .call { callee := .value (.func F), args := xs, argTypes := ats }, type := ty, pos := pos, after := af, guard := gd }).run P w = .ok (.enter F (xs.map a.eval)) w := by
 have h := hF (#[] ++ xs.map a.eval ++ #[]) w
 rw [Array.empty_append, Array.append_empty] at h
 rw [← h]
 simp only [execOp, resolve, Act.eval, Deferred.ofValue, invoke]
 simp only [pure_bind, Array.empty_append, Array.append_empty]
theorem ayw {P : Program} {a : Act} {w : World} {d : Option Tmp} {x : Operand} {i : Nat} {ty : TypeId} {pos : String} {af : Array Edge} {gd : Option (Nat × Bool)} {vs : Array Value} {u : Value} (h : a.eval x = .tuple vs) (hu : vs[i]? = some u) :
  (execOp a.eval { dst := d, op := .extract x i, type := ty, pos := pos, after := af, guard := gd }).run P w = .ok (.value u) w := by
 simp only [execOp, h]
 simp [go_sem, hu]
theorem pz {P : Program} {o : Oper} {a : Act} {w w' : World} {v : Value} {K : Act → World → Prop} {Q : Exit → Act → World → Prop} (h : (execOp a.eval o).run P w = .ok (.value v) w') (hK : K (a.put o.dst v) w') : o.wp P a w K Q := by
 unfold Oper.wp; rw [h]; exact hK
theorem Iz {P : Program} {o : Oper} {a : Act} {w w' : World} {F : Nat} {vs : Array Value} {K : Act → World → Prop} {Q : Exit → Act → World → Prop} (h : (execOp a.eval o).run P w = .ok (.enter F vs) w') (hK : Calls P F vs w' (fun e w'' => ∃ v, e = .returned v ∧ K (a.put o.dst v) w'')) : o.wp P a w K Q := by
 unfold Oper.wp; rw [h]
 refine hK.mono ?_
 rintro e w'' ⟨v, rfl, h⟩; exact h
theorem ajn {P : Program} {Q : Exit → Act → World → Prop} {l : List Oper} {n : Nat} {T : Nat → World → Value → Prop} {G : World → Prop} {al : List Nat} {a0 : Act} {k F d : Nat} {fn : Func}  {ats : Array TypeId} {ty : TypeId} {pos : String} {af : Array Edge} {gd : Option (Nat × Bool)}
  (hF : P.funcs[F]? = some fn) (hn : (!(fn.name == "runtime.NumGoroutine") && fn.body.isSome) = true) (hal : al.contains k = false) (Ik : ∀ W W', G W → gm W W' → G W') 
  (hc : ∀ (W : World) , G W → Calls P F #[] W fun e w' => ∃ u, e = .returned u ∧ gm W w' ∧ T k w' u) :
  Rg.Step P Q l n T G gm al a0 k { dst := some d, op := .call { callee := .value (.func F), args := #[], argTypes := ats }, type := ty, pos := pos, after := af, guard := gd } := by
 intro a w hG hO hN
 refine Iz (Ov (Gf hF hn)) ?_
 simp only [List.map_toArray, List.map_cons, List.map_nil]
 refine (hc w  hG ).mono ?_
 rintro e w' ⟨u, rfl, hb, ht⟩
 exact ⟨u, rfl, u, rfl, Ik _ _ hG hb, hb, ht, fun h => by rw [hal] at h; cases h⟩
theorem wh {P : Program} {Q : Exit → Act → World → Prop} {l : List Oper} {n : Nat} {T : Nat → World → Value → Prop} {G : World → Prop} {al : List Nat} {a0 : Act} {k F d : Nat} {fn : Func} {x1 : Operand} {A1 : World → Value → Prop} {ats : Array TypeId} {ty : TypeId} {pos : String} {af : Array Edge} {gd : Option (Nat × Bool)}
  (hF : P.funcs[F]? = some fn) (hn : (!(fn.name == "runtime.NumGoroutine") && fn.body.isSome) = true) (hal : al.contains k = false) (Ik : ∀ W W', G W → gm W W' → G W') (h1 : Rg.ji l n T a0 k x1 A1)
  (hc : ∀ (W : World) (v1 : Value), G W → A1 W v1 → Calls P F #[v1] W fun e w' => ∃ u, e = .returned u ∧ gm W w' ∧ T k w' u) :
  Rg.Step P Q l n T G gm al a0 k { dst := some d, op := .call { callee := .value (.func F), args := #[x1], argTypes := ats }, type := ty, pos := pos, after := af, guard := gd } := by
 intro a w hG hO hN
 refine Iz (Ov (Gf hF hn)) ?_
 simp only [List.map_toArray, List.map_cons, List.map_nil]
 refine (hc w (a.eval x1) hG (h1 a w hO hN)).mono ?_
 rintro e w' ⟨u, rfl, hb, ht⟩
 exact ⟨u, rfl, u, rfl, Ik _ _ hG hb, hb, ht, fun h => by rw [hal] at h; cases h⟩
theorem yu {P : Program} {Q : Exit → Act → World → Prop} {l : List Oper} {n : Nat} {T : Nat → World → Value → Prop} {G : World → Prop} {al : List Nat} {a0 : Act} {k F d : Nat} {fn : Func} {x1 x2 : Operand} {A1 A2 : World → Value → Prop} {ats : Array TypeId} {ty : TypeId} {pos : String} {af : Array Edge} {gd : Option (Nat × Bool)}
  (hF : P.funcs[F]? = some fn) (hn : (!(fn.name == "runtime.NumGoroutine") && fn.body.isSome) = true) (hal : al.contains k = false) (Ik : ∀ W W', G W → gm W W' → G W') (h1 : Rg.ji l n T a0 k x1 A1) (h2 : Rg.ji l n T a0 k x2 A2)
  (hc : ∀ (W : World) (v1 v2 : Value), G W → A1 W v1 → A2 W v2 → Calls P F #[v1, v2] W fun e w' => ∃ u, e = .returned u ∧ gm W w' ∧ T k w' u) :
  Rg.Step P Q l n T G gm al a0 k { dst := some d, op := .call { callee := .value (.func F), args := #[x1, x2], argTypes := ats }, type := ty, pos := pos, after := af, guard := gd } := by
 intro a w hG hO hN
 refine Iz (Ov (Gf hF hn)) ?_
 simp only [List.map_toArray, List.map_cons, List.map_nil]
 refine (hc w (a.eval x1) (a.eval x2) hG (h1 a w hO hN) (h2 a w hO hN)).mono ?_
 rintro e w' ⟨u, rfl, hb, ht⟩
 exact ⟨u, rfl, u, rfl, Ik _ _ hG hb, hb, ht, fun h => by rw [hal] at h; cases h⟩
theorem ayp {P : Program} {Q : Exit → Act → World → Prop} {l : List Oper} {n : Nat} {T : Nat → World → Value → Prop} {G : World → Prop} {al : List Nat} {a0 : Act} {k F d : Nat} {fn : Func} {x1 x2 x3 : Operand} {A1 A2 A3 : World → Value → Prop} {ats : Array TypeId} {ty : TypeId} {pos : String} {af : Array Edge} {gd : Option (Nat × Bool)}
  (hF : P.funcs[F]? = some fn) (hn : (!(fn.name == "runtime.NumGoroutine") && fn.body.isSome) = true) (hal : al.contains k = false) (Ik : ∀ W W', G W → gm W W' → G W') (h1 : Rg.ji l n T a0 k x1 A1) (h2 : Rg.ji l n T a0 k x2 A2) (h3 : Rg.ji l n T a0 k x3 A3)
  (hc : ∀ (W : World) (v1 v2 v3 : Value), G W → A1 W v1 → A2 W v2 → A3 W v3 → Calls P F #[v1, v2, v3] W fun e w' => ∃ u, e = .returned u ∧ gm W w' ∧ T k w' u) :
  Rg.Step P Q l n T G gm al a0 k { dst := some d, op := .call { callee := .value (.func F), args := #[x1, x2, x3], argTypes := ats }, type := ty, pos := pos, after := af, guard := gd } := by
 intro a w hG hO hN
 refine Iz (Ov (Gf hF hn)) ?_
 simp only [List.map_toArray, List.map_cons, List.map_nil]
 refine (hc w (a.eval x1) (a.eval x2) (a.eval x3) hG (h1 a w hO hN) (h2 a w hO hN) (h3 a w hO hN)).mono ?_
 rintro e w' ⟨u, rfl, hb, ht⟩
 exact ⟨u, rfl, u, rfl, Ik _ _ hG hb, hb, ht, fun h => by rw [hal] at h; cases h⟩
theorem ayo {P : Program} {Q : Exit → Act → World → Prop} {l : List Oper} {n : Nat} {T : Nat → World → Value → Prop} {G : World → Prop} {al : List Nat} {a0 : Act} {k F d : Nat} {fn : Func} {x1 x2 x3 x4 : Operand} {A1 A2 A3 A4 : World → Value → Prop} {ats : Array TypeId} {ty : TypeId} {pos : String} {af : Array Edge} {gd : Option (Nat × Bool)}
  (hF : P.funcs[F]? = some fn) (hn : (!(fn.name == "runtime.NumGoroutine") && fn.body.isSome) = true) (hal : al.contains k = false) (Ik : ∀ W W', G W → gm W W' → G W') (h1 : Rg.ji l n T a0 k x1 A1) (h2 : Rg.ji l n T a0 k x2 A2) (h3 : Rg.ji l n T a0 k x3 A3) (h4 : Rg.ji l n T a0 k x4 A4)
  (hc : ∀ (W : World) (v1 v2 v3 v4 : Value), G W → A1 W v1 → A2 W v2 → A3 W v3 → A4 W v4 → Calls P F #[v1, v2, v3, v4] W fun e w' => ∃ u, e = .returned u ∧ gm W w' ∧ T k w' u) :
  Rg.Step P Q l n T G gm al a0 k { dst := some d, op := .call { callee := .value (.func F), args := #[x1, x2, x3, x4], argTypes := ats }, type := ty, pos := pos, after := af, guard := gd } := by
 intro a w hG hO hN
 refine Iz (Ov (Gf hF hn)) ?_
 simp only [List.map_toArray, List.map_cons, List.map_nil]
 refine (hc w (a.eval x1) (a.eval x2) (a.eval x3) (a.eval x4) hG (h1 a w hO hN) (h2 a w hO hN) (h3 a w hO hN) (h4 a w hO hN)).mono ?_
 rintro e w' ⟨u, rfl, hb, ht⟩
 exact ⟨u, rfl, u, rfl, Ik _ _ hG hb, hb, ht, fun h => by rw [hal] at h; cases h⟩
theorem dm {P : Program} {Q : Exit → Act → World → Prop} {l : List Oper} {n : Nat} {T : Nat → World → Value → Prop} {G : World → Prop} {al : List Nat} {a0 : Act} {k d : Nat} {x : Operand} {ty : TypeId} {pos : String} {af : Array Edge} {gd : Option (Nat × Bool)}
  (hal : al.contains k = false) (hx : Rg.ji l n T a0 k x (T k)) : Rg.Step P Q l n T G gm al a0 k { dst := some d, op := .move x, type := ty, pos := pos, after := af, guard := gd } := by
 intro a w hG hO hN
 exact pz (v := a.eval x) (w' := w) rfl ⟨_, rfl, hG, Below.refl _ _, hx a w hO hN, fun h => by rw [hal] at h; cases h⟩
theorem nz {P : Program} {Q : Exit → Act → World → Prop} {l : List Oper} {n : Nat} {T : Nat → World → Value → Prop} {G : World → Prop} {al : List Nat} {a0 : Act} {k d : Nat} {x : Operand} {ty : TypeId} {pos : String} {af : Array Edge} {gd : Option (Nat × Bool)}
  (hal : al.contains k = false) (hx : Rg.ji l n T a0 k x (T k)) : Rg.Step P Q l n T G gm al a0 k { dst := some d, op := .assign x, type := ty, pos := pos, after := af, guard := gd } := by
 intro a w hG hO hN
 exact pz (v := a.eval x) (w' := w) rfl ⟨_, rfl, hG, Below.refl _ _, hx a w hO hN, fun h => by rw [hal] at h; cases h⟩
theorem bfy {P : Program} {Q : Exit → Act → World → Prop} {l : List Oper} {n : Nat} {T : Nat → World → Value → Prop} {G : World → Prop} {al : List Nat} {a0 : Act} {k d i : Nat} {x : Operand} {A : World → Value → Prop} {ty : TypeId} {pos : String} {af : Array Edge} {gd : Option (Nat × Bool)}
  (hal : al.contains k = false) (hx : Rg.ji l n T a0 k x A) (hi : ∀ W v, A W v → ∃ vs, v = .tuple vs ∧ ∃ u, vs[i]? = some u ∧ T k W u) : Rg.Step P Q l n T G gm al a0 k { dst := some d, op := .extract x i, type := ty, pos := pos, after := af, guard := gd } := by
 intro a w hG hO hN
 obtain ⟨vs, h1, u, h2, h3⟩ := hi _ _ (hx a w hO hN)
 exact pz (ayw h1 h2) ⟨_, rfl, hG, Below.refl _ _, h3, fun h => by rw [hal] at h; cases h⟩
theorem afi {P : Program} {a : Act} {w : World} {d : Option Tmp} {c x y : Operand} {b : Bool} {ty : TypeId} {pos : String} {af : Array Edge} {gd : Option (Nat × Bool)} (h : a.eval c = .bool b) :
  (execOp a.eval { dst := d, op := .pick c x y, type := ty, pos := pos, after := af, guard := gd }).run P w = .ok (.value (if b then a.eval x else a.eval y)) w := by
 simp only [execOp, h]
 cases b <;> simp [go_sem]
theorem mr {P : Program} {Q : Exit → Act → World → Prop} {l : List Oper} {n : Nat} {T : Nat → World → Value → Prop} {G : World → Prop} {al : List Nat} {a0 : Act} {k d : Nat} {c x y : Operand} {ty : TypeId} {pos : String} {af : Array Edge} {gd : Option (Nat × Bool)}
  (hal : al.contains k = false) (hc : Rg.ji l n T a0 k c (Rg.ax (.bool true))) (hx : Rg.ji l n T a0 k x (T k)) : Rg.Step P Q l n T G gm al a0 k { dst := some d, op := .pick c x y, type := ty, pos := pos, after := af, guard := gd } := by
 intro a w hG hO hN
 exact pz (afi (hc a w hO hN)) ⟨_, rfl, hG, Below.refl _ _, hx a w hO hN, fun h => by rw [hal] at h; cases h⟩
theorem qi {P : Program} {Q : Exit → Act → World → Prop} {l : List Oper} {n : Nat} {T : Nat → World → Value → Prop} {G : World → Prop} {al : List Nat} {a0 : Act} {k d : Nat} {c x y : Operand} {ty : TypeId} {pos : String} {af : Array Edge} {gd : Option (Nat × Bool)}
  (hal : al.contains k = false) (hc : Rg.ji l n T a0 k c (Rg.ax (.bool false))) (hy : Rg.ji l n T a0 k y (T k)) : Rg.Step P Q l n T G gm al a0 k { dst := some d, op := .pick c x y, type := ty, pos := pos, after := af, guard := gd } := by
 intro a w hG hO hN
 exact pz (afi (hc a w hO hN)) ⟨_, rfl, hG, Below.refl _ _, hy a w hO hN, fun h => by rw [hal] at h; cases h⟩
theorem ayq {P : Program} {a : Act} {w : World} {d : Option Tmp} {x : Operand} {b : Bool} {tb ty : TypeId} {pos : String} {af : Array Edge} {gd : Option (Nat × Bool)} (h : a.eval x = .bool b) :
  (execOp a.eval { dst := d, op := .unOp .not tb x, type := ty, pos := pos, after := af, guard := gd }).run P w = .ok (.value (.bool (!b))) w := by
 simp only [execOp, h]
 simp [go_sem]
theorem Bh {P : Program} {Q : Exit → Act → World → Prop} {l : List Oper} {n : Nat} {T : Nat → World → Value → Prop} {G : World → Prop} {al : List Nat} {a0 : Act} {k d : Nat} {x : Operand} {b c : Bool} {tb ty : TypeId} {pos : String} {af : Array Edge} {gd : Option (Nat × Bool)}
  (hal : al.contains k = false) (hx : Rg.ji l n T a0 k x (Rg.ax (.bool b))) (hT : T k = Rg.ax (.bool c)) (hb : (!b) = c) : Rg.Step P Q l n T G gm al a0 k { dst := some d, op := .unOp .not tb x, type := ty, pos := pos, after := af, guard := gd } := by
 intro a w hG hO hN
 exact pz (ayq (hx a w hO hN)) ⟨_, rfl, hG, Below.refl _ _, by rw [hT, ← hb]; rfl, fun h => by rw [hal] at h; cases h⟩
theorem ays {ρ : Operand → Value} {w : World} {d : Option Tmp} {x y : Operand} {o z : Int} {ty : TypeId} {pos : String} {af : Array Edge} {gd : Option (Nat × Bool)} (h : ρ x = .int .i64 o) (h' : ρ y = .int .i64 z) :
  (execOp ρ { dst := d, op := .binOp .leq 3 x y 3, type := ty, pos := pos, after := af, guard := gd }).run Tryz.prog w = .ok (.value (.bool (decide (o ≤ z)))) w := by
 simp only [execOp, h, h']
 simp [go_sem, Tryz.underlying3]
theorem Li {Q : Exit → Act → World → Prop} {l : List Oper} {n : Nat} {T : Nat → World → Value → Prop} {G : World → Prop} {al : List Nat} {a0 : Act} {k d : Nat} {x y : Operand} {o z : Int} {ty : TypeId} {pos : String} {af : Array Edge} {gd : Option (Nat × Bool)} {b : Bool}
  (hal : al.contains k = false) (hx : Rg.ji l n T a0 k x (Rg.ax (.int .i64 o))) (hy : Rg.ji l n T a0 k y (Rg.ax (.int .i64 z))) (hT : T k = Rg.ax (.bool b)) (hb : (decide (o ≤ z)) = b) : Rg.Step Tryz.prog Q l n T G gm al a0 k { dst := some d, op := .binOp .leq 3 x y 3, type := ty, pos := pos, after := af, guard := gd } := by
 intro a w hG hO hN
 exact pz (P := Tryz.prog) (ays (hx a w hO hN) (hy a w hO hN)) ⟨_, rfl, hG, Below.refl _ _, by rw [hT, hb]; rfl, fun h => by rw [hal] at h; cases h⟩
theorem ayr {ρ : Operand → Value} {w : World} {d : Option Tmp} {x y : Operand} {o z : Int} {ty : TypeId} {pos : String} {af : Array Edge} {gd : Option (Nat × Bool)} (h : ρ x = .int .i64 o) (h' : ρ y = .int .i64 z) :
  (execOp ρ { dst := d, op := .binOp .lss 3 x y 3, type := ty, pos := pos, after := af, guard := gd }).run Tryz.prog w = .ok (.value (.bool (decide (o < z)))) w := by
 simp only [execOp, h, h']
 simp [go_sem, Tryz.underlying3]
theorem Aq {Q : Exit → Act → World → Prop} {l : List Oper} {n : Nat} {T : Nat → World → Value → Prop} {G : World → Prop} {al : List Nat} {a0 : Act} {k d : Nat} {x y : Operand} {o z : Int} {ty : TypeId} {pos : String} {af : Array Edge} {gd : Option (Nat × Bool)} {b : Bool}
  (hal : al.contains k = false) (hx : Rg.ji l n T a0 k x (Rg.ax (.int .i64 o))) (hy : Rg.ji l n T a0 k y (Rg.ax (.int .i64 z))) (hT : T k = Rg.ax (.bool b)) (hb : (decide (o < z)) = b) : Rg.Step Tryz.prog Q l n T G gm al a0 k { dst := some d, op := .binOp .lss 3 x y 3, type := ty, pos := pos, after := af, guard := gd } := by
 intro a w hG hO hN
 exact pz (P := Tryz.prog) (ayr (hx a w hO hN) (hy a w hO hN)) ⟨_, rfl, hG, Below.refl _ _, by rw [hT, hb]; rfl, fun h => by rw [hal] at h; cases h⟩
theorem ayu {ρ : Operand → Value} {w : World} {d : Option Tmp} {x y : Operand} {o z : Int} {ty : TypeId} {pos : String} {af : Array Edge} {gd : Option (Nat × Bool)} (h : ρ x = .int .i64 o) (h' : ρ y = .int .i64 z) :
  (execOp ρ { dst := d, op := .binOp .gtr 3 x y 3, type := ty, pos := pos, after := af, guard := gd }).run Tryz.prog w = .ok (.value (.bool (decide (z < o)))) w := by
 simp only [execOp, h, h']
 simp [go_sem, Tryz.underlying3]
theorem Bj {Q : Exit → Act → World → Prop} {l : List Oper} {n : Nat} {T : Nat → World → Value → Prop} {G : World → Prop} {al : List Nat} {a0 : Act} {k d : Nat} {x y : Operand} {o z : Int} {ty : TypeId} {pos : String} {af : Array Edge} {gd : Option (Nat × Bool)} {b : Bool}
  (hal : al.contains k = false) (hx : Rg.ji l n T a0 k x (Rg.ax (.int .i64 o))) (hy : Rg.ji l n T a0 k y (Rg.ax (.int .i64 z))) (hT : T k = Rg.ax (.bool b)) (hb : (decide (z < o)) = b) : Rg.Step Tryz.prog Q l n T G gm al a0 k { dst := some d, op := .binOp .gtr 3 x y 3, type := ty, pos := pos, after := af, guard := gd } := by
 intro a w hG hO hN
 exact pz (P := Tryz.prog) (ayu (hx a w hO hN) (hy a w hO hN)) ⟨_, rfl, hG, Below.refl _ _, by rw [hT, hb]; rfl, fun h => by rw [hal] at h; cases h⟩
theorem ayx {ρ : Operand → Value} {w : World} {d : Option Tmp} {x y : Operand} {o z : Int} {ty : TypeId} {pos : String} {af : Array Edge} {gd : Option (Nat × Bool)} (h : ρ x = .int .i64 o) (h' : ρ y = .int .i64 z) :
  (execOp ρ { dst := d, op := .binOp .eql 3 x y 3, type := ty, pos := pos, after := af, guard := gd }).run Tryz.prog w = .ok (.value (.bool ((o == z)))) w := by
 simp only [execOp, h, h']
 simp [go_sem, Tryz.underlying3]
theorem alk {Q : Exit → Act → World → Prop} {l : List Oper} {n : Nat} {T : Nat → World → Value → Prop} {G : World → Prop} {al : List Nat} {a0 : Act} {k d : Nat} {x y : Operand} {o z : Int} {ty : TypeId} {pos : String} {af : Array Edge} {gd : Option (Nat × Bool)} {b : Bool}
  (hal : al.contains k = false) (hx : Rg.ji l n T a0 k x (Rg.ax (.int .i64 o))) (hy : Rg.ji l n T a0 k y (Rg.ax (.int .i64 z))) (hT : T k = Rg.ax (.bool b)) (hb : ((o == z)) = b) : Rg.Step Tryz.prog Q l n T G gm al a0 k { dst := some d, op := .binOp .eql 3 x y 3, type := ty, pos := pos, after := af, guard := gd } := by
 intro a w hG hO hN
 exact pz (P := Tryz.prog) (ayx (hx a w hO hN) (hy a w hO hN)) ⟨_, rfl, hG, Below.refl _ _, by rw [hT, hb]; rfl, fun h => by rw [hal] at h; cases h⟩
theorem ayv {ρ : Operand → Value} {w : World} {d : Option Tmp} {x y : Operand} {o z : Int} {ty : TypeId} {pos : String} {af : Array Edge} {gd : Option (Nat × Bool)} (h : ρ x = .int .i64 o) (h' : ρ y = .int .i64 z) :
  (execOp ρ { dst := d, op := .binOp .geq 3 x y 3, type := ty, pos := pos, after := af, guard := gd }).run Tryz.prog w = .ok (.value (.bool (decide (z ≤ o)))) w := by
 simp only [execOp, h, h']
 simp [go_sem, Tryz.underlying3]
theorem awp {Q : Exit → Act → World → Prop} {l : List Oper} {n : Nat} {T : Nat → World → Value → Prop} {G : World → Prop} {al : List Nat} {a0 : Act} {k d : Nat} {x y : Operand} {o z : Int} {ty : TypeId} {pos : String} {af : Array Edge} {gd : Option (Nat × Bool)} {b : Bool}
  (hal : al.contains k = false) (hx : Rg.ji l n T a0 k x (Rg.ax (.int .i64 o))) (hy : Rg.ji l n T a0 k y (Rg.ax (.int .i64 z))) (hT : T k = Rg.ax (.bool b)) (hb : (decide (z ≤ o)) = b) : Rg.Step Tryz.prog Q l n T G gm al a0 k { dst := some d, op := .binOp .geq 3 x y 3, type := ty, pos := pos, after := af, guard := gd } := by
 intro a w hG hO hN
 exact pz (P := Tryz.prog) (ayv (hx a w hO hN) (hy a w hO hN)) ⟨_, rfl, hG, Below.refl _ _, by rw [hT, hb]; rfl, fun h => by rw [hal] at h; cases h⟩
theorem awn {P : Program} {Q : Exit → Act → World → Prop} {l : List Oper} {n : Nat} {T : Nat → World → Value → Prop} {G : World → Prop} {al : List Nat} {a0 : Act} {k B : Nat} {o : Oper} {N : Nat → World → Value → Prop} (hnew : ∀ (a : Act) (w : World), ∃ X : World, gm w X ∧ (B ≤ w.heap.size → N B X (.pointer (some ⟨w.heap.size, 0, none⟩))) ∧ (execOp a.eval o).run P w = .ok (.value (.pointer (some ⟨w.heap.size, 0, none⟩))) X)
  (Ik : ∀ W W', G W → gm W W' → G W') (hB : ∀ W, G W → B ≤ W.heap.size) (hT : T k = N B) (hlt : ∀ j W u, al.contains j = true → T j W u → ∃ b, u = .pointer (some ⟨b, 0, none⟩) ∧ b < W.heap.size) :
  Rg.Step P Q l n T G gm al a0 k o := by
 intro a w hG hO hN
 obtain ⟨X, hb, hbx, hr⟩ := hnew a w
 have hT2 : T k X (.pointer (some ⟨w.heap.size, 0, none⟩)) := by rw [hT]; exact hbx (hB w hG)
 have hG2 := Ik _ _ hG hb
 have hne : al.contains k = true → ∀ j u, al.contains j = true → T j w u → u ≠ .pointer (some ⟨w.heap.size, 0, none⟩) := fun _ j u hj ht he => by
  obtain ⟨b, h1, h2⟩ := hlt j w u hj ht
  rw [h1] at he
  have h3 : b = w.heap.size := by first | (simp at he; done) | (simp at he; exact he)
  omega
 exact pz hr ⟨_, rfl, hG2, hb, hT2, hne⟩
def il (T : World → Value → Prop) (w : World) (e : Ending) (w' : World) : Prop := ∃ u, e = .returned u ∧ gm w w' ∧ T w' u
end Go.Proofs.YtjdnmdlnaoedoaaGreatDoor
namespace Go.Proofs.YtjdnmdlnaoedoaaGreatDoor
open Go.RowKit

theorem aox (s1 : Int) (dw : Bool) (A1 : Option Addr) (c1 : Nat) (l1 : List Nat) (z1 : Int) (s2 : Int) (ek : Bool) (A2 : Option Addr) (c2 : Nat) (l2 : List Nat) (z2 : Int) (w : World) (h1 : ig w s1 dw A1 c1 l1 z1) (h2 : ig w s2 ek A2 c2 l2 z2) (a1 : ¬ l1.length = 0) :
  Calls Tryz.prog 59 #[(Value.agg #[.int .i64 s1, .bool dw, .slice A1 l1.length c1, .int .i64 s2, .bool ek, .slice A2 l2.length c2])] w fun e w' => e = .returned (.tuple #[.agg #[.int .i64 0, .int .i64 0], .int .i64 3]) ∧ Below w.heap.size w w' := by
 have qm := hide (fun W => Bt s1 dw A1 c1 l1.length W)
 have HS2 := hide (fun W => Bt s2 ek A2 c2 l2.length W)
 rw [decide_eq_false a1] at qm
 obtain ⟨B2, hB2⟩ : ∃ b, b = decide (l2.length = 0) := ⟨_, rfl⟩
 rw [← hB2] at HS2
 clear hB2
 clear a1 h1 h2
 go_enter Tryz.func59, Tryz.ntmps59
 go_wp2_with fail
 obtain ⟨n0, n1, hsz, hw0⟩ := uu w (.cells #[.int .i64 s1, .bool dw, .slice A1 l1.length c1, .int .i64 s2, .bool ek, .slice A2 l2.length c2] 74) (.cells #[.int .i64 0, .int .i64 0] 23)
 generalize ((w.alloc (.cells #[.int .i64 s1, .bool dw, .slice A1 l1.length c1, .int .i64 s2, .bool ek, .slice A2 l2.length c2] 74)).alloc (.cells #[.int .i64 0, .int .i64 0] 23)) = W0 at *
 have yc : W0.cell? ⟨w.heap.size, 0, none⟩ = some (.int .i64 s1) := ah n0 0
 have xz : W0.cell? ⟨w.heap.size, 1, none⟩ = some (.bool dw) := ah n0 1
 have Ak : W0.cell? ⟨w.heap.size, 2, none⟩ = some (.slice A1 l1.length c1) := ah n0 2
 have Cc : W0.cell? ⟨w.heap.size, 3, none⟩ = some (.int .i64 s2) := ah n0 3
 have Dv : W0.cell? ⟨w.heap.size, 4, none⟩ = some (.bool ek) := ah n0 4
 have Du : W0.cell? ⟨w.heap.size, 5, none⟩ = some (.slice A2 l2.length c2) := ah n0 5
 have q0 : w.heap.size < W0.heap.size := by omega
 have Ad : W0.cell? ⟨w.heap.size + 1, 0, none⟩ = some (.int .i64 0) := ah n1 0
 have Ac : W0.cell? ⟨w.heap.size + 1, 1, none⟩ = some (.int .i64 0) := ah n1 1
 have q1 : w.heap.size + 1 < W0.heap.size := by omega
 have Nh := bf n1 0
 have Ng := bf n1 1
 have NR := Lib.hid n1
 clear n0 n1
 refine ((aa qm) _).mono ?_
 rintro e w3 ⟨rfl, hb⟩
 have hbw := cu (w := W0) bem hb
 obtain ⟨hc, hfz⟩ := fu hbw
 go_wp2_with fail
 refine ((aa HS2) _).mono ?_
 rintro e w4 ⟨rfl, hb⟩
 have hbw := cu (w := W0) bem hb
 obtain ⟨hc, hfz⟩ := fu hbw
 have jh : Below w.heap.size w w4 := bz hw0 hbw
 go_wp2_with fail
 exact bodyPost_ret (v := .tuple #[.agg #[.int .i64 0, .int .i64 0], .int .i64 3]) (by simp [results, Tryz.results59, go_sem, hc, Ad, Ac, q1]) rfl
  ⟨rfl, jh.grown (lg _ _ _ _) jh.size (fun k hk => by injection hk with hk; omega)⟩
theorem aow (s1 : Int) (dw : Bool) (A1 : Option Addr) (c1 : Nat) (l1 : List Nat) (z1 : Int) (s2 : Int) (ek : Bool) (A2 : Option Addr) (c2 : Nat) (l2 : List Nat) (z2 : Int) (w : World) (h1 : ig w s1 dw A1 c1 l1 z1) (h2 : ig w s2 ek A2 c2 l2 z2) (a1 : l1.length = 0) (a2 : ¬ l2.length = 0) :
  Calls Tryz.prog 59 #[(Value.agg #[.int .i64 s1, .bool dw, .slice A1 l1.length c1, .int .i64 s2, .bool ek, .slice A2 l2.length c2])] w fun e w' => e = .returned (.tuple #[.agg #[.int .i64 0, .int .i64 0], .int .i64 3]) ∧ Below w.heap.size w w' := by
 have qm := hide (fun W => Bt s1 dw A1 c1 l1.length W)
 have HS2 := hide (fun W => Bt s2 ek A2 c2 l2.length W)
 rw [decide_eq_true a1] at qm
 rw [decide_eq_false a2] at HS2
 clear a1 a2 h1 h2
 go_enter Tryz.func59, Tryz.ntmps59
 go_wp2_with fail
 obtain ⟨n0, n1, hsz, hw0⟩ := uu w (.cells #[.int .i64 s1, .bool dw, .slice A1 l1.length c1, .int .i64 s2, .bool ek, .slice A2 l2.length c2] 74) (.cells #[.int .i64 0, .int .i64 0] 23)
 generalize ((w.alloc (.cells #[.int .i64 s1, .bool dw, .slice A1 l1.length c1, .int .i64 s2, .bool ek, .slice A2 l2.length c2] 74)).alloc (.cells #[.int .i64 0, .int .i64 0] 23)) = W0 at *
 have yc : W0.cell? ⟨w.heap.size, 0, none⟩ = some (.int .i64 s1) := ah n0 0
 have xz : W0.cell? ⟨w.heap.size, 1, none⟩ = some (.bool dw) := ah n0 1
 have Ak : W0.cell? ⟨w.heap.size, 2, none⟩ = some (.slice A1 l1.length c1) := ah n0 2
 have Cc : W0.cell? ⟨w.heap.size, 3, none⟩ = some (.int .i64 s2) := ah n0 3
 have Dv : W0.cell? ⟨w.heap.size, 4, none⟩ = some (.bool ek) := ah n0 4
 have Du : W0.cell? ⟨w.heap.size, 5, none⟩ = some (.slice A2 l2.length c2) := ah n0 5
 have q0 : w.heap.size < W0.heap.size := by omega
 have Ad : W0.cell? ⟨w.heap.size + 1, 0, none⟩ = some (.int .i64 0) := ah n1 0
 have Ac : W0.cell? ⟨w.heap.size + 1, 1, none⟩ = some (.int .i64 0) := ah n1 1
 have q1 : w.heap.size + 1 < W0.heap.size := by omega
 have Nh := bf n1 0
 have Ng := bf n1 1
 have NR := Lib.hid n1
 clear n0 n1
 refine ((aa qm) _).mono ?_
 rintro e w3 ⟨rfl, hb⟩
 have hbw := cu (w := W0) bem hb
 obtain ⟨hc, hfz⟩ := fu hbw
 go_wp2_with fail
 refine ((aa HS2) _).mono ?_
 rintro e w4 ⟨rfl, hb⟩
 have hbw := cu (w := W0) bem hb
 obtain ⟨hc, hfz⟩ := fu hbw
 have jh : Below w.heap.size w w4 := bz hw0 hbw
 go_wp2_with fail
 exact bodyPost_ret (v := .tuple #[.agg #[.int .i64 0, .int .i64 0], .int .i64 3]) (by simp [results, Tryz.results59, go_sem, hc, Ad, Ac, q1]) rfl
  ⟨rfl, jh.grown (lg _ _ _ _) jh.size (fun k hk => by injection hk with hk; omega)⟩
theorem ayz (s1 : Int) (dw : Bool) (A1 : Option Addr) (c1 : Nat) (l1 : List Nat) (z1 : Int) (s2 : Int) (ek : Bool) (A2 : Option Addr) (c2 : Nat) (l2 : List Nat) (z2 : Int) (w : World) (h1 : ig w s1 dw A1 c1 l1 z1) (h2 : ig w s2 ek A2 c2 l2 z2) (a1 : l1.length = 0) (a2 : l2.length = 0) (g1 : s1 < -1000000000000) :
  Calls Tryz.prog 59 #[(Value.agg #[.int .i64 s1, .bool dw, .slice A1 l1.length c1, .int .i64 s2, .bool ek, .slice A2 l2.length c2])] w fun e w' => e = .returned (.tuple #[.agg #[.int .i64 0, .int .i64 0], .int .i64 3]) ∧ Below w.heap.size w w' := by
 have qm := hide (fun W => Bt s1 dw A1 c1 l1.length W)
 have HS2 := hide (fun W => Bt s2 ek A2 c2 l2.length W)
 rw [decide_eq_true a1] at qm
 rw [decide_eq_true a2] at HS2
 have d1 : decide (s1 < -1000000000000) = true := decide_eq_true om
 clear a1 a2 h1 h2 g1
 go_enter Tryz.func59, Tryz.ntmps59
 go_wp2_with fail
 obtain ⟨n0, n1, hsz, hw0⟩ := uu w (.cells #[.int .i64 s1, .bool dw, .slice A1 l1.length c1, .int .i64 s2, .bool ek, .slice A2 l2.length c2] 74) (.cells #[.int .i64 0, .int .i64 0] 23)
 generalize ((w.alloc (.cells #[.int .i64 s1, .bool dw, .slice A1 l1.length c1, .int .i64 s2, .bool ek, .slice A2 l2.length c2] 74)).alloc (.cells #[.int .i64 0, .int .i64 0] 23)) = W0 at *
 have yc : W0.cell? ⟨w.heap.size, 0, none⟩ = some (.int .i64 s1) := ah n0 0
 have xz : W0.cell? ⟨w.heap.size, 1, none⟩ = some (.bool dw) := ah n0 1
 have Ak : W0.cell? ⟨w.heap.size, 2, none⟩ = some (.slice A1 l1.length c1) := ah n0 2
 have Cc : W0.cell? ⟨w.heap.size, 3, none⟩ = some (.int .i64 s2) := ah n0 3
 have Dv : W0.cell? ⟨w.heap.size, 4, none⟩ = some (.bool ek) := ah n0 4
 have Du : W0.cell? ⟨w.heap.size, 5, none⟩ = some (.slice A2 l2.length c2) := ah n0 5
 have q0 : w.heap.size < W0.heap.size := by omega
 have Ad : W0.cell? ⟨w.heap.size + 1, 0, none⟩ = some (.int .i64 0) := ah n1 0
 have Ac : W0.cell? ⟨w.heap.size + 1, 1, none⟩ = some (.int .i64 0) := ah n1 1
 have q1 : w.heap.size + 1 < W0.heap.size := by omega
 have Nh := bf n1 0
 have Ng := bf n1 1
 have NR := Lib.hid n1
 clear n0 n1
 refine ((aa qm) _).mono ?_
 rintro e w3 ⟨rfl, hb⟩
 have hbw := cu (w := W0) bem hb
 obtain ⟨hc, hfz⟩ := fu hbw
 go_wp2_with fail
 refine ((aa HS2) _).mono ?_
 rintro e w4 ⟨rfl, hb⟩
 have hbw := cu (w := W0) bem hb
 obtain ⟨hc, hfz⟩ := fu hbw
 have jh : Below w.heap.size w w4 := bz hw0 hbw
 go_wp2_with fail
 exact bodyPost_ret (v := .tuple #[.agg #[.int .i64 0, .int .i64 0], .int .i64 3]) (by simp [results, Tryz.results59, go_sem, hc, Ad, Ac, q1]) rfl
  ⟨rfl, jh.grown (lg _ _ _ _) jh.size (fun k hk => by injection hk with hk; omega)⟩
theorem aza (s1 : Int) (dw : Bool) (A1 : Option Addr) (c1 : Nat) (l1 : List Nat) (z1 : Int) (s2 : Int) (ek : Bool) (A2 : Option Addr) (c2 : Nat) (l2 : List Nat) (z2 : Int) (w : World) (h1 : ig w s1 dw A1 c1 l1 z1) (h2 : ig w s2 ek A2 c2 l2 z2) (a1 : l1.length = 0) (a2 : l2.length = 0) (g1 : 1000000000000 < s1) :
  Calls Tryz.prog 59 #[(Value.agg #[.int .i64 s1, .bool dw, .slice A1 l1.length c1, .int .i64 s2, .bool ek, .slice A2 l2.length c2])] w fun e w' => e = .returned (.tuple #[.agg #[.int .i64 0, .int .i64 0], .int .i64 3]) ∧ Below w.heap.size w w' := by
 have qm := hide (fun W => Bt s1 dw A1 c1 l1.length W)
 have HS2 := hide (fun W => Bt s2 ek A2 c2 l2.length W)
 rw [decide_eq_true a1] at qm
 rw [decide_eq_true a2] at HS2
 have d1 : decide (s1 < -1000000000000) = false := decide_eq_false om
 have d2 : decide (1000000000000 < s1) = true := decide_eq_true om
 clear a1 a2 h1 h2 g1
 go_enter Tryz.func59, Tryz.ntmps59
 go_wp2_with fail
 obtain ⟨n0, n1, hsz, hw0⟩ := uu w (.cells #[.int .i64 s1, .bool dw, .slice A1 l1.length c1, .int .i64 s2, .bool ek, .slice A2 l2.length c2] 74) (.cells #[.int .i64 0, .int .i64 0] 23)
 generalize ((w.alloc (.cells #[.int .i64 s1, .bool dw, .slice A1 l1.length c1, .int .i64 s2, .bool ek, .slice A2 l2.length c2] 74)).alloc (.cells #[.int .i64 0, .int .i64 0] 23)) = W0 at *
 have yc : W0.cell? ⟨w.heap.size, 0, none⟩ = some (.int .i64 s1) := ah n0 0
 have xz : W0.cell? ⟨w.heap.size, 1, none⟩ = some (.bool dw) := ah n0 1
 have Ak : W0.cell? ⟨w.heap.size, 2, none⟩ = some (.slice A1 l1.length c1) := ah n0 2
 have Cc : W0.cell? ⟨w.heap.size, 3, none⟩ = some (.int .i64 s2) := ah n0 3
 have Dv : W0.cell? ⟨w.heap.size, 4, none⟩ = some (.bool ek) := ah n0 4
 have Du : W0.cell? ⟨w.heap.size, 5, none⟩ = some (.slice A2 l2.length c2) := ah n0 5
 have q0 : w.heap.size < W0.heap.size := by omega
 have Ad : W0.cell? ⟨w.heap.size + 1, 0, none⟩ = some (.int .i64 0) := ah n1 0
 have Ac : W0.cell? ⟨w.heap.size + 1, 1, none⟩ = some (.int .i64 0) := ah n1 1
 have q1 : w.heap.size + 1 < W0.heap.size := by omega
 have Nh := bf n1 0
 have Ng := bf n1 1
 have NR := Lib.hid n1
 clear n0 n1
 refine ((aa qm) _).mono ?_
 rintro e w3 ⟨rfl, hb⟩
 have hbw := cu (w := W0) bem hb
 obtain ⟨hc, hfz⟩ := fu hbw
 go_wp2_with fail
 refine ((aa HS2) _).mono ?_
 rintro e w4 ⟨rfl, hb⟩
 have hbw := cu (w := W0) bem hb
 obtain ⟨hc, hfz⟩ := fu hbw
 have jh : Below w.heap.size w w4 := bz hw0 hbw
 go_wp2_with fail
 exact bodyPost_ret (v := .tuple #[.agg #[.int .i64 0, .int .i64 0], .int .i64 3]) (by simp [results, Tryz.results59, go_sem, hc, Ad, Ac, q1]) rfl
  ⟨rfl, jh.grown (lg _ _ _ _) jh.size (fun k hk => by injection hk with hk; omega)⟩
theorem atf (s1 : Int) (dw : Bool) (A1 : Option Addr) (c1 : Nat) (l1 : List Nat) (z1 : Int) (s2 : Int) (ek : Bool) (A2 : Option Addr) (c2 : Nat) (l2 : List Nat) (z2 : Int) (w : World) (h1 : ig w s1 dw A1 c1 l1 z1) (h2 : ig w s2 ek A2 c2 l2 z2) (a1 : l1.length = 0) (a2 : l2.length = 0) (g1 : ¬ s1 < -1000000000000) (g2 : ¬ 1000000000000 < s1) (g3 : 1000000000000 < s2) :
  Calls Tryz.prog 59 #[(Value.agg #[.int .i64 s1, .bool dw, .slice A1 l1.length c1, .int .i64 s2, .bool ek, .slice A2 l2.length c2])] w fun e w' => e = .returned (.tuple #[.agg #[.int .i64 0, .int .i64 0], .int .i64 3]) ∧ Below w.heap.size w w' := by
 have qm := hide (fun W => Bt s1 dw A1 c1 l1.length W)
 have HS2 := hide (fun W => Bt s2 ek A2 c2 l2.length W)
 rw [decide_eq_true a1] at qm
 rw [decide_eq_true a2] at HS2
 have d1 : decide (s1 < -1000000000000) = false := decide_eq_false om
 have d2 : decide (1000000000000 < s1) = false := decide_eq_false om
 have d3 : decide (1000000000000 < s2) = true := decide_eq_true om
 clear a1 a2 h1 h2 g1 g2 g3
 go_enter Tryz.func59, Tryz.ntmps59
 go_wp2_with fail
 obtain ⟨n0, n1, hsz, hw0⟩ := uu w (.cells #[.int .i64 s1, .bool dw, .slice A1 l1.length c1, .int .i64 s2, .bool ek, .slice A2 l2.length c2] 74) (.cells #[.int .i64 0, .int .i64 0] 23)
 generalize ((w.alloc (.cells #[.int .i64 s1, .bool dw, .slice A1 l1.length c1, .int .i64 s2, .bool ek, .slice A2 l2.length c2] 74)).alloc (.cells #[.int .i64 0, .int .i64 0] 23)) = W0 at *
 have yc : W0.cell? ⟨w.heap.size, 0, none⟩ = some (.int .i64 s1) := ah n0 0
 have xz : W0.cell? ⟨w.heap.size, 1, none⟩ = some (.bool dw) := ah n0 1
 have Ak : W0.cell? ⟨w.heap.size, 2, none⟩ = some (.slice A1 l1.length c1) := ah n0 2
 have Cc : W0.cell? ⟨w.heap.size, 3, none⟩ = some (.int .i64 s2) := ah n0 3
 have Dv : W0.cell? ⟨w.heap.size, 4, none⟩ = some (.bool ek) := ah n0 4
 have Du : W0.cell? ⟨w.heap.size, 5, none⟩ = some (.slice A2 l2.length c2) := ah n0 5
 have q0 : w.heap.size < W0.heap.size := by omega
 have Ad : W0.cell? ⟨w.heap.size + 1, 0, none⟩ = some (.int .i64 0) := ah n1 0
 have Ac : W0.cell? ⟨w.heap.size + 1, 1, none⟩ = some (.int .i64 0) := ah n1 1
 have q1 : w.heap.size + 1 < W0.heap.size := by omega
 have Nh := bf n1 0
 have Ng := bf n1 1
 have NR := Lib.hid n1
 clear n0 n1
 refine ((aa qm) _).mono ?_
 rintro e w3 ⟨rfl, hb⟩
 have hbw := cu (w := W0) bem hb
 obtain ⟨hc, hfz⟩ := fu hbw
 go_wp2_with fail
 refine ((aa HS2) _).mono ?_
 rintro e w4 ⟨rfl, hb⟩
 have hbw := cu (w := W0) bem hb
 obtain ⟨hc, hfz⟩ := fu hbw
 have jh : Below w.heap.size w w4 := bz hw0 hbw
 go_wp2_with fail
 exact bodyPost_ret (v := .tuple #[.agg #[.int .i64 0, .int .i64 0], .int .i64 3]) (by simp [results, Tryz.results59, go_sem, hc, Ad, Ac, q1]) rfl
  ⟨rfl, jh.grown (lg _ _ _ _) jh.size (fun k hk => by injection hk with hk; omega)⟩
theorem ayy (s1 : Int) (dw : Bool) (A1 : Option Addr) (c1 : Nat) (l1 : List Nat) (z1 : Int) (s2 : Int) (ek : Bool) (A2 : Option Addr) (c2 : Nat) (l2 : List Nat) (z2 : Int) (w : World) (h1 : ig w s1 dw A1 c1 l1 z1) (h2 : ig w s2 ek A2 c2 l2 z2) (a1 : l1.length = 0) (a2 : l2.length = 0) (g1 : ¬ s1 < -1000000000000) (g2 : ¬ 1000000000000 < s1) (g3 : ¬ 1000000000000 < s2) :
  Calls Tryz.prog 59 #[(Value.agg #[.int .i64 s1, .bool dw, .slice A1 l1.length c1, .int .i64 s2, .bool ek, .slice A2 l2.length c2])] w fun e w' => e = .returned (.tuple #[.agg #[.int .i64 s1, .int .i64 s2], .int .i64 0]) ∧ Below w.heap.size w w' := by
 have qm := hide (fun W => Bt s1 dw A1 c1 l1.length W)
 have HS2 := hide (fun W => Bt s2 ek A2 c2 l2.length W)
 rw [decide_eq_true a1] at qm
 rw [decide_eq_true a2] at HS2
 have d1 : decide (s1 < -1000000000000) = false := decide_eq_false om
 have d2 : decide (1000000000000 < s1) = false := decide_eq_false om
 have d3 : decide (1000000000000 < s2) = false := decide_eq_false om
 clear a1 a2 h1 h2 g1 g2 g3
 go_enter Tryz.func59, Tryz.ntmps59
 go_wp2_with fail
 obtain ⟨n0, n1, hsz, hw0⟩ := uu w (.cells #[.int .i64 s1, .bool dw, .slice A1 l1.length c1, .int .i64 s2, .bool ek, .slice A2 l2.length c2] 74) (.cells #[.int .i64 0, .int .i64 0] 23)
 generalize ((w.alloc (.cells #[.int .i64 s1, .bool dw, .slice A1 l1.length c1, .int .i64 s2, .bool ek, .slice A2 l2.length c2] 74)).alloc (.cells #[.int .i64 0, .int .i64 0] 23)) = W0 at *
 have yc : W0.cell? ⟨w.heap.size, 0, none⟩ = some (.int .i64 s1) := ah n0 0
 have xz : W0.cell? ⟨w.heap.size, 1, none⟩ = some (.bool dw) := ah n0 1
 have Ak : W0.cell? ⟨w.heap.size, 2, none⟩ = some (.slice A1 l1.length c1) := ah n0 2
 have Cc : W0.cell? ⟨w.heap.size, 3, none⟩ = some (.int .i64 s2) := ah n0 3
 have Dv : W0.cell? ⟨w.heap.size, 4, none⟩ = some (.bool ek) := ah n0 4
 have Du : W0.cell? ⟨w.heap.size, 5, none⟩ = some (.slice A2 l2.length c2) := ah n0 5
 have q0 : w.heap.size < W0.heap.size := by omega
 have Ad : W0.cell? ⟨w.heap.size + 1, 0, none⟩ = some (.int .i64 0) := ah n1 0
 have Ac : W0.cell? ⟨w.heap.size + 1, 1, none⟩ = some (.int .i64 0) := ah n1 1
 have q1 : w.heap.size + 1 < W0.heap.size := by omega
 have Nh := bf n1 0
 have Ng := bf n1 1
 have NR := Lib.hid n1
 clear n0 n1
 refine ((aa qm) _).mono ?_
 rintro e w3 ⟨rfl, hb⟩
 have hbw := cu (w := W0) bem hb
 obtain ⟨hc, hfz⟩ := fu hbw
 go_wp2_with fail
 refine ((aa HS2) _).mono ?_
 rintro e w4 ⟨rfl, hb⟩
 have hbw := cu (w := W0) bem hb
 obtain ⟨hc, hfz⟩ := fu hbw
 have jh : Below w.heap.size w w4 := bz hw0 hbw
 go_wp2_with fail
 exact bodyPost_ret (v := .tuple #[.agg #[.int .i64 s1, .int .i64 s2], .int .i64 0]) (by simp [results, Tryz.results59, go_sem, hc, Ad, Ac, q1]) rfl
  ⟨rfl, jh.grown (lg _ _ _ _) jh.size (fun k hk => by injection hk with hk; omega)⟩

theorem atg (s1 : Int) (dw : Bool) (A1 : Option Addr) (c1 : Nat) (l1 : List Nat) (z1 : Int) (s2 : Int) (ek : Bool) (A2 : Option Addr) (c2 : Nat) (l2 : List Nat) (z2 : Int) (w : World) (h1 : ig w s1 dw A1 c1 l1 z1) (h2 : ig w s2 ek A2 c2 l2 z2) (q : Rat) (e1 : z1 = q.num) (e2 : z2 = (q.den : Int)) :
  Calls Tryz.prog 59 #[(Value.agg #[.int .i64 s1, .bool dw, .slice A1 l1.length c1, .int .i64 s2, .bool ek, .slice A2 l2.length c2])] w fun e w' => e = .returned (.tuple #[.agg #[.int .i64 (Wd.told q).n, .int .i64 (Wd.told q).d], .int .i64 (Wd.told q).e]) ∧ Below w.heap.size w w' := by
 have hden := q.den_pos
 have big : ∀ (l : List Nat) (s : Int) (neg : Bool) (A : Option Addr) (c : Nat) (z : Int), ig w s neg A c l z → ¬ l.length = 0 → 9223372036854775808 ≤ z.natAbs := fun l s neg A c z h a => by
  rcases h.form with ⟨x, _⟩ | ⟨_, _, _, _, x⟩
  ·
   exact absurd x a
  ·
   rwa [zn] at x
 have large : ∀ P : Prop, ¬ Wd.fits q → (Wd.told q) = ⟨0, 0, 3⟩ := fun _ h => by unfold Wd.told; rw [if_neg h]
 by_cases a1 : l1.length = 0
 ·
  obtain ⟨x1, _, _⟩ := h1.Bl a1
  by_cases a2 : l2.length = 0
  ·
   obtain ⟨x2, _, _⟩ := h2.Bl a2
   by_cases g1 : s1 < -1000000000000
   ·
    rw [large True (fun hf => by have := hf.1; rw [Wd.Xq] at this; omega)]; exact ayz s1 dw A1 c1 l1 z1 s2 ek A2 c2 l2 z2 w h1 h2 a1 a2 g1
   by_cases g2 : 1000000000000 < s1
   ·
    rw [large True (fun hf => by have := hf.1; rw [Wd.Xq] at this; omega)]; exact aza s1 dw A1 c1 l1 z1 s2 ek A2 c2 l2 z2 w h1 h2 a1 a2 g2
   by_cases g3 : 1000000000000 < s2
   ·
    rw [large True (fun hf => by have := hf.2; rw [Wd.Xq] at this; omega)]; exact atf s1 dw A1 c1 l1 z1 s2 ek A2 c2 l2 z2 w h1 h2 a1 a2 g1 g2 g3
   have hf : Wd.fits q := by unfold Wd.fits; rw [Wd.Xq]; omega
   have ht : Wd.told q = ⟨s1, s2, 0⟩ := by unfold Wd.told; rw [if_pos hf, x1, x2, e1, e2]
   rw [ht]
   exact ayy s1 dw A1 c1 l1 z1 s2 ek A2 c2 l2 z2 w h1 h2 a1 a2 g1 g2 g3
  ·
   have := big _ _ _ _ _ _ h2 a2
   rw [large True (fun hf => by have := hf.2; rw [Wd.Xq] at this; omega)]; exact aow s1 dw A1 c1 l1 z1 s2 ek A2 c2 l2 z2 w h1 h2 a1 a2
 ·
  have := big _ _ _ _ _ _ h1 a1
  rw [large True (fun hf => by have := hf.1; rw [Wd.Xq] at this; omega)]; exact aox s1 dw A1 c1 l1 z1 s2 ek A2 c2 l2 z2 w h1 h2 a1

end Go.Proofs.YtjdnmdlnaoedoaaGreatDoor
