/- Texts beneath a law of layer 1. -/
import Derived.Test.YtfgeaakhlcaibaaGreatDoorDa5
import Derived.IntWalk
import Derived.Deep.DeepCutAuto
import Derived.Deep.CutBlock
set_option maxRecDepth 100000
set_option maxHeartbeats 16000000
namespace Go.Proofs.YtfgeaakhlcaibaaGreatDoor
open Go.RowKit

theorem ari (s1 : Int) (cz : Bool) (A1 : Option Addr) (c1 : Nat) (l1 : List Nat) (z1 : Int) (s2 : Int) (cu : Bool) (A2 : Option Addr) (c2 : Nat) (l2 : List Nat) (z2 : Int) (w : World)
  (h1 : fw w s1 cz A1 c1 l1 z1) (h2 : fw w s2 cu A2 c2 l2 z2) (hl1 : l1.length ≤ lim) (hl2 : l2.length ≤ lim) (a1 : l1.length = 0) (a2 : l2.length = 0) (hz : Iq ≤ (z1 + z2).natAbs) :
  Calls Tryz.prog 166 #[.agg #[.int .i64 s1, .bool cz, .slice A1 l1.length c1], .agg #[.int .i64 s2, .bool cu, .slice A2 l2.length c2]] w fun e w' => Be w (z1 + z2) e w' := by
 have HLEN := hide (fun (W : World) (A5 : Option Addr) (c5 : Nat) (l5 : List Nat) (_ : Unit) (g : jy W A5 c5 l5 z1.natAbs) => h1.Hl hl1 g)
 have Cj := hide (fun (W : World) (A5 : Option Addr) (c5 : Nat) (l5 : List Nat) (_ : Unit) (g : jy W A5 c5 l5 z2.natAbs) => h2.Hl hl2 g)
 have G1 : ∀ W0, Below w.heap.size w W0 → Hid (∀ W, Below W0.heap.size W0 W → Calls Tryz.prog 159 #[.agg #[.int .i64 s1, .bool cz, .slice A1 l1.length c1]] W fun e w' => e = .returned (.int .i64 (qi z1)) ∧ Below W.heap.size W w') := fun W0 h0 W hW => zg s1 cz A1 c1 l1 z1 W (fw.below h1 (ay h0 hW))
 have G2 : ∀ W0, Below w.heap.size w W0 → Hid (∀ W, Below W0.heap.size W0 W → Calls Tryz.prog 159 #[.agg #[.int .i64 s2, .bool cu, .slice A2 l2.length c2]] W fun e w' => e = .returned (.int .i64 (qi z2)) ∧ Below W.heap.size W w') := fun W0 h0 W hW => zg s2 cu A2 c2 l2 z2 W (fw.below h2 (ay h0 hW))
 have B1 : ∀ W0, Below w.heap.size w W0 → Hid (∀ W, Below W0.heap.size W0 W → Calls Tryz.prog 191 #[.agg #[.int .i64 s1, .bool cz, .slice A1 l1.length c1]] W fun e w' => Es W z1.natAbs e w') := fun W0 h0 W hW => Du s1 cz A1 c1 l1 z1 W (fw.below h1 (ay h0 hW))
 have B2 : ∀ W0, Below w.heap.size w W0 → Hid (∀ W, Below W0.heap.size W0 W → Calls Tryz.prog 191 #[.agg #[.int .i64 s2, .bool cu, .slice A2 l2.length c2]] W fun e w' => Es W z2.natAbs e w') := fun W0 h0 W hW => Du s2 cu A2 c2 l2 z2 W (fw.below h2 (ay h0 hW))
 obtain ⟨m1, hm1⟩ : ∃ o, o = z1.natAbs := ⟨_, rfl⟩
 obtain ⟨m2, hm2⟩ : ∃ o, o = z2.natAbs := ⟨_, rfl⟩
 obtain ⟨o1, ho1⟩ : ∃ o, o = qi z1 := ⟨_, rfl⟩
 obtain ⟨o2, ho2⟩ : ∃ o, o = qi z2 := ⟨_, rfl⟩
 obtain ⟨Z, hZ⟩ : ∃ o, o = z1 + z2 := ⟨_, rfl⟩
 have hs1 : (o1 < 0) ↔ z1 < 0 := by rw [ho1]; exact Gy z1
 have hs2 : (o2 < 0) ↔ z2 < 0 := by rw [ho2]; exact Gy z2
 have nz := hide (fun W => qh s1 cz A1 c1 l1.length W)
 have HS2 := hide (fun W => qh s2 cu A2 c2 l2.length W)
 rw [← ho1] at G1
 rw [← ho2] at G2
 rw [← hm1] at B1 HLEN
 rw [← hm2] at B2 Cj
 rw [← hZ]
 have Ff := hide G1; have HG2 := hide G2; have HB1 := hide B1; have HB2 := hide B2
 clear G1 G2 B1 B2
 rw [decide_eq_true a1] at nz
 rw [decide_eq_true a2] at HS2
 obtain ⟨e1, en1, b1⟩ := h1.Ae a1
 obtain ⟨e2, en2, b2⟩ := h2.Ae a2
 clear en1 en2
 subst e1 e2
 rw [uf] at b1 b2 hz
 obtain ⟨T, hT⟩ : ∃ o, o = wrap64 (s1 + s2) := ⟨_, rfl⟩
 have w2 : wrap64 (s1 + s2) = T := hT.symm
 have w1 : IntKind.i64.wrap (s1 + s2) = T := by rw [hT]; exact IntWalk.i64_left _
 have hT2 : T = (s1 + s2 + 9223372036854775808) % 18446744073709551616 - 9223372036854775808 := by rw [hT, ← IntWalk.i64_left]; exact IntKind.wrap_i64 _
 by_cases hp : 0 < s2
 ·
  have d1 : decide (s1 < T) = false := decide_eq_false (by rw [hT2]; omega)
  have d2 : decide (0 < s2) = true := decide_eq_true hp
  have D1 : decide (o1 < 0) = false := decide_eq_false (by rw [hs1]; omega)
  have D2 : decide (o2 < 0) = false := decide_eq_false (by rw [hs2]; omega)
  have Qe := hide (fun (W : World) (A : Option Addr) (c : Nat) (l : List Nat) (g : jy W A c l (m1 + m2)) => (show Calls Tryz.prog 190 #[.bool (false), .slice A l.length c] W fun e w' => Be W Z e w' by
   have := xg (false) A c l (m1 + m2) W g
   rw [show (if (false) = true then -(((m1 + m2) : Nat) : Int) else (((m1 + m2) : Nat) : Int)) = Z by rw [if_neg Bool.false_ne_true, hZ, hm1, hm2]; omega] at this
   exact this))
  clear h1 h2 hl1 hl2 a1 a2 hz hZ b1 b2 hp hm1 hm2 ho1 ho2 hs1 hs2 hT hT2
  go_enter Tryz.func166, Tryz.ntmps166
  go_wp2_with fail
  obtain ⟨n1, n2, n3, hsz, hw0⟩ := ni w (.cells #[.int .i64 s1, .bool cz, .slice A1 l1.length c1] 77) (.cells #[.int .i64 s2, .bool cu, .slice A2 l2.length c2] 77) (.cells #[.int .i64 0, .bool false, .slice none 0 0] 77)
  generalize (((w.alloc (.cells #[.int .i64 s1, .bool cz, .slice A1 l1.length c1] 77)).alloc (.cells #[.int .i64 s2, .bool cu, .slice A2 l2.length c2] 77)).alloc (.cells #[.int .i64 0, .bool false, .slice none 0 0] 77)) = W0 at *
  have k1 := ag n1 0
  have k2 := ag n1 1
  have k3 := ag n1 2
  simp only [Array.getElem?_eq_getElem, ji, jh, jg] at k1 k2 k3
  have k4 := ag n2 0
  have k5 := ag n2 1
  have k6 := ag n2 2
  simp only [Array.getElem?_eq_getElem, ji, jh, jg] at k4 k5 k6
  have q0 : w.heap.size < W0.heap.size := by omega
  have q1 : w.heap.size + 1 < W0.heap.size := by omega
  have q2 : w.heap.size + 1 + 1 < W0.heap.size := by omega
  have k7 := ag n3 0
  have k8 := ag n3 1
  have k9 := ag n3 2
  simp only [Array.getElem?_eq_getElem, ji, jh, jg] at k7 k8 k9
  have f7 := ai n3 0
  have f8 := ai n3 1
  have f9 := ai n3 2
  have N3 := Lib.hid n3
  clear n3
  clear n1 n2
  refine ((aa nz) _).mono ?_
  rintro e w1 ⟨rfl, hw1⟩
  have rf := ma (w := W0) bem hw1
  obtain ⟨hc, hfz⟩ := fe rf
  clear hw1
  go_wp2_with fail
  refine ((aa HS2) _).mono ?_
  rintro e w2 ⟨rfl, hw2⟩
  have hbw2 := ma (w := W0) bem hw2
  obtain ⟨hc, hfz⟩ := fe hbw2
  clear hw2
  go_wp2_with fail
  have B1 := (aa HB1) W0 hw0; have B2 := (aa HB2) W0 hw0; have G1 := (aa Ff) W0 hw0; have G2 := (aa HG2) W0 hw0
  go_region_held3 (fun w' => w'.cell? ⟨w.heap.size, 0, none⟩ = some (.int .i64 s1) ∧ w'.cell? ⟨w.heap.size, 1, none⟩ = some (.bool cz) ∧ w'.cell? ⟨w.heap.size, 2, none⟩ = some (.slice A1 l1.length c1) ∧ w'.cell? ⟨w.heap.size + 1, 0, none⟩ = some (.int .i64 s2) ∧ w'.cell? ⟨w.heap.size + 1, 1, none⟩ = some (.bool cu) ∧ w'.cell? ⟨w.heap.size + 1, 2, none⟩ = some (.slice A2 l2.length c2)) ((first | with_reducible exact ⟨(hc _ _ q0).trans k1, (hc _ _ q0).trans k2, (hc _ _ q0).trans k3, (hc _ _ q1).trans k4, (hc _ _ q1).trans k5, (hc _ _ q1).trans k6⟩ | with_reducible exact ⟨k1, k2, k3, k4, k5, k6⟩ | with_reducible exact ⟨(gp _ _ _ _ _ om).trans ((hc _ _ q0).trans k1), (gp _ _ _ _ _ om).trans ((hc _ _ q0).trans k2), (gp _ _ _ _ _ om).trans ((hc _ _ q0).trans k3), (gp _ _ _ _ _ om).trans ((hc _ _ q1).trans k4), (gp _ _ _ _ _ om).trans ((hc _ _ q1).trans k5), (gp _ _ _ _ _ om).trans ((hc _ _ q1).trans k6)⟩ | exact ⟨(hc _ _ q0).trans k1, (hc _ _ q0).trans k2, (hc _ _ q0).trans k3, (hc _ _ q1).trans k4, (hc _ _ q1).trans k5, (hc _ _ q1).trans k6⟩ | exact ⟨k1, k2, k3, k4, k5, k6⟩)) (first | (go_at_call_of 191 (Value.agg #[.int .i64 s1, .bool cz, .slice A1 l1.length c1]); refine ((aa B1) _ bem).mono ?_; rintro e w' ⟨A5, cap5, l5, rfl, Ah, hb⟩; have hbw := bz (w := W0) bem hb; obtain ⟨hc, hfz⟩ := fe hbw) | (go_at_call_of 191 (Value.agg #[.int .i64 s2, .bool cu, .slice A2 l2.length c2]); refine ((aa B2) _ bem).mono ?_; rintro e w' ⟨A6, cap6, l6, rfl, mg, hb⟩; have jo := Ah.below hb; have hbw := bz (w := W0) bem hb; obtain ⟨hc, hfz⟩ := fe hbw))
  go_wp2_with fail
  refine ((aa G1) _ bem).mono ?_
  rintro e w6 ⟨rfl, hb⟩
  replace jo := jo.below hb
  replace mg := mg.below hb
  have hbw := bz (w := W0) bem hb
  obtain ⟨hc, hfz⟩ := fe hbw
  go_wp2_with fail
  refine ((aa G2) _ bem).mono ?_
  rintro e w7 ⟨rfl, hb⟩
  replace jo := jo.below hb
  replace mg := mg.below hb
  have hbw := bz (w := W0) bem hb
  obtain ⟨hc, hfz⟩ := fe hbw
  go_wp2_with fail
  refine (Qa A5 A6 cap5 cap6 l5 l6 m1 m2 _ (by exact jo) (by exact mg) ((aa HLEN) _ _ _ _ () jo).1 ((aa Cj) _ _ _ _ () mg).1).mono ?_
  rintro e w8 ⟨A7, uq, l7, rfl, uo, hb⟩
  have hbw := bz (w := W0) bem hb
  obtain ⟨hc, hfz⟩ := fe hbw
  go_wp2_with fail
  refine ((aa Qe) _ A7 uq l7 uo).mono ?_
  rintro e w' ⟨s, ny, A', cap', l', rfl, hf, hb⟩
  have hbw := bz (w := W0) bem hb
  obtain ⟨hc, hfz⟩ := fe hbw
  have hblk : w'.heap[w.heap.size + 1 + 1]? = some (.cells #[.int .i64 0, .bool false, .slice none 0 0] 77 (0, 0)) := (hbw.block _ q2).trans N3.out
  have ky := Lib.hid hblk
  have jq : Below w.heap.size w w' := ay hw0 hbw
  clear hblk
  go_wp2_with fail
  exact bodyPost_ret (v := .agg #[.int .i64 s, .bool ny, .slice A' l'.length cap']) (by simp [results, Tryz.results166, go_sem, hc, k7, k8, k9, q2]) rfl
   ⟨s, ny, A', cap', l', rfl, hf.upto ky.out (qw _ _ _ _ _) (il _ _ _ _ _), jq.grown (il _ _ _ _ _) jq.size (fun k hk => by injection hk with hk; omega)⟩
 ·
  have d2 : decide (0 < s2) = false := decide_eq_false hp
  have D1 : decide (o1 < 0) = true := decide_eq_true (by rw [hs1]; omega)
  have D2 : decide (o2 < 0) = true := decide_eq_true (by rw [hs2]; omega)
  have Qe := hide (fun (W : World) (A : Option Addr) (c : Nat) (l : List Nat) (g : jy W A c l (m1 + m2)) => (show Calls Tryz.prog 190 #[.bool (true), .slice A l.length c] W fun e w' => Be W Z e w' by
   have := xg (true) A c l (m1 + m2) W g
   rw [show (if (true) = true then -(((m1 + m2) : Nat) : Int) else (((m1 + m2) : Nat) : Int)) = Z by rw [if_pos rfl, hZ, hm1, hm2]; omega] at this
   exact this))
  by_cases hq : s1 < T
  ·
   have d1 : decide (s1 < T) = true := decide_eq_true hq
   clear h1 h2 hl1 hl2 a1 a2 hz hZ b1 b2 hp hq hm1 hm2 ho1 ho2 hs1 hs2 hT hT2
   go_enter Tryz.func166, Tryz.ntmps166
   go_wp2_with fail
   obtain ⟨n1, n2, n3, hsz, hw0⟩ := ni w (.cells #[.int .i64 s1, .bool cz, .slice A1 l1.length c1] 77) (.cells #[.int .i64 s2, .bool cu, .slice A2 l2.length c2] 77) (.cells #[.int .i64 0, .bool false, .slice none 0 0] 77)
   generalize (((w.alloc (.cells #[.int .i64 s1, .bool cz, .slice A1 l1.length c1] 77)).alloc (.cells #[.int .i64 s2, .bool cu, .slice A2 l2.length c2] 77)).alloc (.cells #[.int .i64 0, .bool false, .slice none 0 0] 77)) = W0 at *
   have k1 := ag n1 0
   have k2 := ag n1 1
   have k3 := ag n1 2
   simp only [Array.getElem?_eq_getElem, ji, jh, jg] at k1 k2 k3
   have k4 := ag n2 0
   have k5 := ag n2 1
   have k6 := ag n2 2
   simp only [Array.getElem?_eq_getElem, ji, jh, jg] at k4 k5 k6
   have q0 : w.heap.size < W0.heap.size := by omega
   have q1 : w.heap.size + 1 < W0.heap.size := by omega
   have q2 : w.heap.size + 1 + 1 < W0.heap.size := by omega
   have k7 := ag n3 0
   have k8 := ag n3 1
   have k9 := ag n3 2
   simp only [Array.getElem?_eq_getElem, ji, jh, jg] at k7 k8 k9
   have f7 := ai n3 0
   have f8 := ai n3 1
   have f9 := ai n3 2
   have N3 := Lib.hid n3
   clear n3
   clear n1 n2
   refine ((aa nz) _).mono ?_
   rintro e w1 ⟨rfl, hw1⟩
   have rf := ma (w := W0) bem hw1
   obtain ⟨hc, hfz⟩ := fe rf
   clear hw1
   go_wp2_with fail
   refine ((aa HS2) _).mono ?_
   rintro e w2 ⟨rfl, hw2⟩
   have hbw2 := ma (w := W0) bem hw2
   obtain ⟨hc, hfz⟩ := fe hbw2
   clear hw2
   go_wp2_with fail
   have B1 := (aa HB1) W0 hw0; have B2 := (aa HB2) W0 hw0; have G1 := (aa Ff) W0 hw0; have G2 := (aa HG2) W0 hw0
   go_region_held3 (fun w' => w'.cell? ⟨w.heap.size, 0, none⟩ = some (.int .i64 s1) ∧ w'.cell? ⟨w.heap.size, 1, none⟩ = some (.bool cz) ∧ w'.cell? ⟨w.heap.size, 2, none⟩ = some (.slice A1 l1.length c1) ∧ w'.cell? ⟨w.heap.size + 1, 0, none⟩ = some (.int .i64 s2) ∧ w'.cell? ⟨w.heap.size + 1, 1, none⟩ = some (.bool cu) ∧ w'.cell? ⟨w.heap.size + 1, 2, none⟩ = some (.slice A2 l2.length c2)) ((first | with_reducible exact ⟨(hc _ _ q0).trans k1, (hc _ _ q0).trans k2, (hc _ _ q0).trans k3, (hc _ _ q1).trans k4, (hc _ _ q1).trans k5, (hc _ _ q1).trans k6⟩ | with_reducible exact ⟨k1, k2, k3, k4, k5, k6⟩ | with_reducible exact ⟨(gp _ _ _ _ _ om).trans ((hc _ _ q0).trans k1), (gp _ _ _ _ _ om).trans ((hc _ _ q0).trans k2), (gp _ _ _ _ _ om).trans ((hc _ _ q0).trans k3), (gp _ _ _ _ _ om).trans ((hc _ _ q1).trans k4), (gp _ _ _ _ _ om).trans ((hc _ _ q1).trans k5), (gp _ _ _ _ _ om).trans ((hc _ _ q1).trans k6)⟩ | exact ⟨(hc _ _ q0).trans k1, (hc _ _ q0).trans k2, (hc _ _ q0).trans k3, (hc _ _ q1).trans k4, (hc _ _ q1).trans k5, (hc _ _ q1).trans k6⟩ | exact ⟨k1, k2, k3, k4, k5, k6⟩)) (first | (go_at_call_of 191 (Value.agg #[.int .i64 s1, .bool cz, .slice A1 l1.length c1]); refine ((aa B1) _ bem).mono ?_; rintro e w' ⟨A5, cap5, l5, rfl, Ah, hb⟩; have hbw := bz (w := W0) bem hb; obtain ⟨hc, hfz⟩ := fe hbw) | (go_at_call_of 191 (Value.agg #[.int .i64 s2, .bool cu, .slice A2 l2.length c2]); refine ((aa B2) _ bem).mono ?_; rintro e w' ⟨A6, cap6, l6, rfl, mg, hb⟩; have jo := Ah.below hb; have hbw := bz (w := W0) bem hb; obtain ⟨hc, hfz⟩ := fe hbw))
   go_wp2_with fail
   refine ((aa G1) _ bem).mono ?_
   rintro e w6 ⟨rfl, hb⟩
   replace jo := jo.below hb
   replace mg := mg.below hb
   have hbw := bz (w := W0) bem hb
   obtain ⟨hc, hfz⟩ := fe hbw
   go_wp2_with fail
   refine ((aa G2) _ bem).mono ?_
   rintro e w7 ⟨rfl, hb⟩
   replace jo := jo.below hb
   replace mg := mg.below hb
   have hbw := bz (w := W0) bem hb
   obtain ⟨hc, hfz⟩ := fe hbw
   go_wp2_with fail
   refine (Qa A5 A6 cap5 cap6 l5 l6 m1 m2 _ (by exact jo) (by exact mg) ((aa HLEN) _ _ _ _ () jo).1 ((aa Cj) _ _ _ _ () mg).1).mono ?_
   rintro e w8 ⟨A7, uq, l7, rfl, uo, hb⟩
   have hbw := bz (w := W0) bem hb
   obtain ⟨hc, hfz⟩ := fe hbw
   go_wp2_with fail
   refine ((aa Qe) _ A7 uq l7 uo).mono ?_
   rintro e w' ⟨s, ny, A', cap', l', rfl, hf, hb⟩
   have hbw := bz (w := W0) bem hb
   obtain ⟨hc, hfz⟩ := fe hbw
   have hblk : w'.heap[w.heap.size + 1 + 1]? = some (.cells #[.int .i64 0, .bool false, .slice none 0 0] 77 (0, 0)) := (hbw.block _ q2).trans N3.out
   have ky := Lib.hid hblk
   have jq : Below w.heap.size w w' := ay hw0 hbw
   clear hblk
   go_wp2_with fail
   exact bodyPost_ret (v := .agg #[.int .i64 s, .bool ny, .slice A' l'.length cap']) (by simp [results, Tryz.results166, go_sem, hc, k7, k8, k9, q2]) rfl
    ⟨s, ny, A', cap', l', rfl, hf.upto ky.out (qw _ _ _ _ _) (il _ _ _ _ _), jq.grown (il _ _ _ _ _) jq.size (fun k hk => by injection hk with hk; omega)⟩
  ·
   have d1 : decide (s1 < T) = false := decide_eq_false hq
   have n1 : (T == -9223372036854775808) = true := beq_iff_eq.2 (by rw [hT2] at hq ⊢; omega)
   have n2 : (T != -9223372036854775808) = false := by simp [bne, n1]
   clear h1 h2 hl1 hl2 a1 a2 hz hZ b1 b2 hp hq hm1 hm2 ho1 ho2 hs1 hs2 hT hT2
   go_enter Tryz.func166, Tryz.ntmps166
   go_wp2_with fail
   obtain ⟨n1, n2, n3, hsz, hw0⟩ := ni w (.cells #[.int .i64 s1, .bool cz, .slice A1 l1.length c1] 77) (.cells #[.int .i64 s2, .bool cu, .slice A2 l2.length c2] 77) (.cells #[.int .i64 0, .bool false, .slice none 0 0] 77)
   generalize (((w.alloc (.cells #[.int .i64 s1, .bool cz, .slice A1 l1.length c1] 77)).alloc (.cells #[.int .i64 s2, .bool cu, .slice A2 l2.length c2] 77)).alloc (.cells #[.int .i64 0, .bool false, .slice none 0 0] 77)) = W0 at *
   have k1 := ag n1 0
   have k2 := ag n1 1
   have k3 := ag n1 2
   simp only [Array.getElem?_eq_getElem, ji, jh, jg] at k1 k2 k3
   have k4 := ag n2 0
   have k5 := ag n2 1
   have k6 := ag n2 2
   simp only [Array.getElem?_eq_getElem, ji, jh, jg] at k4 k5 k6
   have q0 : w.heap.size < W0.heap.size := by omega
   have q1 : w.heap.size + 1 < W0.heap.size := by omega
   have q2 : w.heap.size + 1 + 1 < W0.heap.size := by omega
   have k7 := ag n3 0
   have k8 := ag n3 1
   have k9 := ag n3 2
   simp only [Array.getElem?_eq_getElem, ji, jh, jg] at k7 k8 k9
   have f7 := ai n3 0
   have f8 := ai n3 1
   have f9 := ai n3 2
   have N3 := Lib.hid n3
   clear n3
   clear n1 n2
   refine ((aa nz) _).mono ?_
   rintro e w1 ⟨rfl, hw1⟩
   have rf := ma (w := W0) bem hw1
   obtain ⟨hc, hfz⟩ := fe rf
   clear hw1
   go_wp2_with fail
   refine ((aa HS2) _).mono ?_
   rintro e w2 ⟨rfl, hw2⟩
   have hbw2 := ma (w := W0) bem hw2
   obtain ⟨hc, hfz⟩ := fe hbw2
   clear hw2
   go_wp2_with fail
   have B1 := (aa HB1) W0 hw0; have B2 := (aa HB2) W0 hw0; have G1 := (aa Ff) W0 hw0; have G2 := (aa HG2) W0 hw0
   go_region_held3 (fun w' => w'.cell? ⟨w.heap.size, 0, none⟩ = some (.int .i64 s1) ∧ w'.cell? ⟨w.heap.size, 1, none⟩ = some (.bool cz) ∧ w'.cell? ⟨w.heap.size, 2, none⟩ = some (.slice A1 l1.length c1) ∧ w'.cell? ⟨w.heap.size + 1, 0, none⟩ = some (.int .i64 s2) ∧ w'.cell? ⟨w.heap.size + 1, 1, none⟩ = some (.bool cu) ∧ w'.cell? ⟨w.heap.size + 1, 2, none⟩ = some (.slice A2 l2.length c2)) ((first | with_reducible exact ⟨(hc _ _ q0).trans k1, (hc _ _ q0).trans k2, (hc _ _ q0).trans k3, (hc _ _ q1).trans k4, (hc _ _ q1).trans k5, (hc _ _ q1).trans k6⟩ | with_reducible exact ⟨k1, k2, k3, k4, k5, k6⟩ | with_reducible exact ⟨(gp _ _ _ _ _ om).trans ((hc _ _ q0).trans k1), (gp _ _ _ _ _ om).trans ((hc _ _ q0).trans k2), (gp _ _ _ _ _ om).trans ((hc _ _ q0).trans k3), (gp _ _ _ _ _ om).trans ((hc _ _ q1).trans k4), (gp _ _ _ _ _ om).trans ((hc _ _ q1).trans k5), (gp _ _ _ _ _ om).trans ((hc _ _ q1).trans k6)⟩ | exact ⟨(hc _ _ q0).trans k1, (hc _ _ q0).trans k2, (hc _ _ q0).trans k3, (hc _ _ q1).trans k4, (hc _ _ q1).trans k5, (hc _ _ q1).trans k6⟩ | exact ⟨k1, k2, k3, k4, k5, k6⟩)) (first | (go_at_call_of 191 (Value.agg #[.int .i64 s1, .bool cz, .slice A1 l1.length c1]); refine ((aa B1) _ bem).mono ?_; rintro e w' ⟨A5, cap5, l5, rfl, Ah, hb⟩; have hbw := bz (w := W0) bem hb; obtain ⟨hc, hfz⟩ := fe hbw) | (go_at_call_of 191 (Value.agg #[.int .i64 s2, .bool cu, .slice A2 l2.length c2]); refine ((aa B2) _ bem).mono ?_; rintro e w' ⟨A6, cap6, l6, rfl, mg, hb⟩; have jo := Ah.below hb; have hbw := bz (w := W0) bem hb; obtain ⟨hc, hfz⟩ := fe hbw))
   go_wp2_with fail
   refine ((aa G1) _ bem).mono ?_
   rintro e w6 ⟨rfl, hb⟩
   replace jo := jo.below hb
   replace mg := mg.below hb
   have hbw := bz (w := W0) bem hb
   obtain ⟨hc, hfz⟩ := fe hbw
   go_wp2_with fail
   refine ((aa G2) _ bem).mono ?_
   rintro e w7 ⟨rfl, hb⟩
   replace jo := jo.below hb
   replace mg := mg.below hb
   have hbw := bz (w := W0) bem hb
   obtain ⟨hc, hfz⟩ := fe hbw
   go_wp2_with fail
   refine (Qa A5 A6 cap5 cap6 l5 l6 m1 m2 _ (by exact jo) (by exact mg) ((aa HLEN) _ _ _ _ () jo).1 ((aa Cj) _ _ _ _ () mg).1).mono ?_
   rintro e w8 ⟨A7, uq, l7, rfl, uo, hb⟩
   have hbw := bz (w := W0) bem hb
   obtain ⟨hc, hfz⟩ := fe hbw
   go_wp2_with fail
   refine ((aa Qe) _ A7 uq l7 uo).mono ?_
   rintro e w' ⟨s, ny, A', cap', l', rfl, hf, hb⟩
   have hbw := bz (w := W0) bem hb
   obtain ⟨hc, hfz⟩ := fe hbw
   have hblk : w'.heap[w.heap.size + 1 + 1]? = some (.cells #[.int .i64 0, .bool false, .slice none 0 0] 77 (0, 0)) := (hbw.block _ q2).trans N3.out
   have ky := Lib.hid hblk
   have jq : Below w.heap.size w w' := ay hw0 hbw
   clear hblk
   go_wp2_with fail
   exact bodyPost_ret (v := .agg #[.int .i64 s, .bool ny, .slice A' l'.length cap']) (by simp [results, Tryz.results166, go_sem, hc, k7, k8, k9, q2]) rfl
    ⟨s, ny, A', cap', l', rfl, hf.upto ky.out (qw _ _ _ _ _) (il _ _ _ _ _), jq.grown (il _ _ _ _ _) jq.size (fun k hk => by injection hk with hk; omega)⟩


theorem avl (s1 : Int) (cz : Bool) (A1 : Option Addr) (c1 : Nat) (l1 : List Nat) (z1 : Int) (s2 : Int) (cu : Bool) (A2 : Option Addr) (c2 : Nat) (l2 : List Nat) (z2 : Int) (w : World)
  (h1 : fw w s1 cz A1 c1 l1 z1) (h2 : fw w s2 cu A2 c2 l2 z2) (hl1 : l1.length ≤ lim) (hl2 : l2.length ≤ lim) (a : ¬ (l1.length = 0 ∧ l2.length = 0)) :
  Calls Tryz.prog 166 #[.agg #[.int .i64 s1, .bool cz, .slice A1 l1.length c1], .agg #[.int .i64 s2, .bool cu, .slice A2 l2.length c2]] w fun e w' => Be w (z1 + z2) e w' := by
 have HLEN := hide (fun (W : World) (A5 : Option Addr) (c5 : Nat) (l5 : List Nat) (_ : Unit) (g : jy W A5 c5 l5 z1.natAbs) => h1.Hl hl1 g)
 have Cj := hide (fun (W : World) (A5 : Option Addr) (c5 : Nat) (l5 : List Nat) (_ : Unit) (g : jy W A5 c5 l5 z2.natAbs) => h2.Hl hl2 g)
 have G1 : ∀ W0, Below w.heap.size w W0 → Hid (∀ W, Below W0.heap.size W0 W → Calls Tryz.prog 159 #[.agg #[.int .i64 s1, .bool cz, .slice A1 l1.length c1]] W fun e w' => e = .returned (.int .i64 (qi z1)) ∧ Below W.heap.size W w') := fun W0 h0 W hW => zg s1 cz A1 c1 l1 z1 W (fw.below h1 (ay h0 hW))
 have G2 : ∀ W0, Below w.heap.size w W0 → Hid (∀ W, Below W0.heap.size W0 W → Calls Tryz.prog 159 #[.agg #[.int .i64 s2, .bool cu, .slice A2 l2.length c2]] W fun e w' => e = .returned (.int .i64 (qi z2)) ∧ Below W.heap.size W w') := fun W0 h0 W hW => zg s2 cu A2 c2 l2 z2 W (fw.below h2 (ay h0 hW))
 have B1 : ∀ W0, Below w.heap.size w W0 → Hid (∀ W, Below W0.heap.size W0 W → Calls Tryz.prog 191 #[.agg #[.int .i64 s1, .bool cz, .slice A1 l1.length c1]] W fun e w' => Es W z1.natAbs e w') := fun W0 h0 W hW => Du s1 cz A1 c1 l1 z1 W (fw.below h1 (ay h0 hW))
 have B2 : ∀ W0, Below w.heap.size w W0 → Hid (∀ W, Below W0.heap.size W0 W → Calls Tryz.prog 191 #[.agg #[.int .i64 s2, .bool cu, .slice A2 l2.length c2]] W fun e w' => Es W z2.natAbs e w') := fun W0 h0 W hW => Du s2 cu A2 c2 l2 z2 W (fw.below h2 (ay h0 hW))
 obtain ⟨m1, hm1⟩ : ∃ o, o = z1.natAbs := ⟨_, rfl⟩
 obtain ⟨m2, hm2⟩ : ∃ o, o = z2.natAbs := ⟨_, rfl⟩
 obtain ⟨o1, ho1⟩ : ∃ o, o = qi z1 := ⟨_, rfl⟩
 obtain ⟨o2, ho2⟩ : ∃ o, o = qi z2 := ⟨_, rfl⟩
 obtain ⟨Z, hZ⟩ : ∃ o, o = z1 + z2 := ⟨_, rfl⟩
 have hs1 : (o1 < 0) ↔ z1 < 0 := by rw [ho1]; exact Gy z1
 have hs2 : (o2 < 0) ↔ z2 < 0 := by rw [ho2]; exact Gy z2
 have nz := hide (fun W => qh s1 cz A1 c1 l1.length W)
 have HS2 := hide (fun W => qh s2 cu A2 c2 l2.length W)
 rw [← ho1] at G1
 rw [← ho2] at G2
 rw [← hm1] at B1 HLEN
 rw [← hm2] at B2 Cj
 rw [← hZ]
 have Ff := hide G1; have HG2 := hide G2; have HB1 := hide B1; have HB2 := hide B2
 clear G1 G2 B1 B2
 obtain ⟨n1, hn1⟩ : ∃ b, b = decide (o1 < 0) := ⟨_, rfl⟩
 obtain ⟨n2, hn2⟩ : ∃ b, b = decide (o2 < 0) := ⟨_, rfl⟩
 have D1 := hn1.symm
 have D2 := hn2.symm
 have q1 : n1 = true ↔ z1 < 0 := by rw [hn1, decide_eq_true_iff, hs1]
 have q2 : n2 = true ↔ z2 < 0 := by rw [hn2, decide_eq_true_iff, hs2]
 obtain ⟨od, hod⟩ : ∃ o, o = xu m1 m2 := ⟨_, rfl⟩
 have HOD := Lib.hid hod
 have hcase : (l1.length = 0 ∧ ¬ l2.length = 0) ∨ ¬ l1.length = 0 := by omega
 clear hs1 hs2 ho1 ho2 hn1 hn2 h1 h2 hl1 hl2
 by_cases he : n1 = n2
 ·
  have EQ : (n1 == n2) = true := beq_iff_eq.2 he
  have Qe := hide (fun (W : World) (A : Option Addr) (c : Nat) (l : List Nat) (g : jy W A c l (m1 + m2)) => (show Calls Tryz.prog 190 #[.bool (n1), .slice A l.length c] W fun e w' => Be W Z e w' by
   have := xg (n1) A c l (m1 + m2) W g
   rw [show (if (n1) = true then -(((m1 + m2) : Nat) : Int) else (((m1 + m2) : Nat) : Int)) = Z by cases n1 <;> cases n2 <;> simp at he q1 q2 ⊢ <;> omega] at this
   exact this))
  clear hod he q1 q2 hZ hm1 hm2
  rcases hcase with ⟨a1, a2⟩ | a1
  ·
   rw [decide_eq_true a1] at nz
   rw [decide_eq_false a2] at HS2
   clear a a1 a2
   go_enter Tryz.func166, Tryz.ntmps166
   go_wp2_with fail
   obtain ⟨n1, n2, n3, hsz, hw0⟩ := ni w (.cells #[.int .i64 s1, .bool cz, .slice A1 l1.length c1] 77) (.cells #[.int .i64 s2, .bool cu, .slice A2 l2.length c2] 77) (.cells #[.int .i64 0, .bool false, .slice none 0 0] 77)
   generalize (((w.alloc (.cells #[.int .i64 s1, .bool cz, .slice A1 l1.length c1] 77)).alloc (.cells #[.int .i64 s2, .bool cu, .slice A2 l2.length c2] 77)).alloc (.cells #[.int .i64 0, .bool false, .slice none 0 0] 77)) = W0 at *
   have k1 := ag n1 0
   have k2 := ag n1 1
   have k3 := ag n1 2
   simp only [Array.getElem?_eq_getElem, ji, jh, jg] at k1 k2 k3
   have k4 := ag n2 0
   have k5 := ag n2 1
   have k6 := ag n2 2
   simp only [Array.getElem?_eq_getElem, ji, jh, jg] at k4 k5 k6
   have q0 : w.heap.size < W0.heap.size := by omega
   have q1 : w.heap.size + 1 < W0.heap.size := by omega
   have q2 : w.heap.size + 1 + 1 < W0.heap.size := by omega
   have k7 := ag n3 0
   have k8 := ag n3 1
   have k9 := ag n3 2
   simp only [Array.getElem?_eq_getElem, ji, jh, jg] at k7 k8 k9
   have f7 := ai n3 0
   have f8 := ai n3 1
   have f9 := ai n3 2
   have N3 := Lib.hid n3
   clear n3
   clear n1 n2
   refine ((aa nz) _).mono ?_
   rintro e w1 ⟨rfl, hw1⟩
   have rf := ma (w := W0) bem hw1
   obtain ⟨hc, hfz⟩ := fe rf
   clear hw1
   go_wp2_with fail
   refine ((aa HS2) _).mono ?_
   rintro e w2 ⟨rfl, hw2⟩
   have hbw2 := ma (w := W0) bem hw2
   obtain ⟨hc, hfz⟩ := fe hbw2
   clear hw2
   go_wp2_with fail
   have B1 := (aa HB1) W0 hw0; have B2 := (aa HB2) W0 hw0; have G1 := (aa Ff) W0 hw0; have G2 := (aa HG2) W0 hw0
   go_region_held3 (fun w' => w'.cell? ⟨w.heap.size, 0, none⟩ = some (.int .i64 s1) ∧ w'.cell? ⟨w.heap.size, 1, none⟩ = some (.bool cz) ∧ w'.cell? ⟨w.heap.size, 2, none⟩ = some (.slice A1 l1.length c1) ∧ w'.cell? ⟨w.heap.size + 1, 0, none⟩ = some (.int .i64 s2) ∧ w'.cell? ⟨w.heap.size + 1, 1, none⟩ = some (.bool cu) ∧ w'.cell? ⟨w.heap.size + 1, 2, none⟩ = some (.slice A2 l2.length c2)) ((first | with_reducible exact ⟨(hc _ _ q0).trans k1, (hc _ _ q0).trans k2, (hc _ _ q0).trans k3, (hc _ _ q1).trans k4, (hc _ _ q1).trans k5, (hc _ _ q1).trans k6⟩ | with_reducible exact ⟨k1, k2, k3, k4, k5, k6⟩ | with_reducible exact ⟨(gp _ _ _ _ _ om).trans ((hc _ _ q0).trans k1), (gp _ _ _ _ _ om).trans ((hc _ _ q0).trans k2), (gp _ _ _ _ _ om).trans ((hc _ _ q0).trans k3), (gp _ _ _ _ _ om).trans ((hc _ _ q1).trans k4), (gp _ _ _ _ _ om).trans ((hc _ _ q1).trans k5), (gp _ _ _ _ _ om).trans ((hc _ _ q1).trans k6)⟩ | exact ⟨(hc _ _ q0).trans k1, (hc _ _ q0).trans k2, (hc _ _ q0).trans k3, (hc _ _ q1).trans k4, (hc _ _ q1).trans k5, (hc _ _ q1).trans k6⟩ | exact ⟨k1, k2, k3, k4, k5, k6⟩)) (first | (go_at_call_of 191 (Value.agg #[.int .i64 s1, .bool cz, .slice A1 l1.length c1]); refine ((aa B1) _ bem).mono ?_; rintro e w' ⟨A5, cap5, l5, rfl, Ah, hb⟩; have hbw := bz (w := W0) bem hb; obtain ⟨hc, hfz⟩ := fe hbw) | (go_at_call_of 191 (Value.agg #[.int .i64 s2, .bool cu, .slice A2 l2.length c2]); refine ((aa B2) _ bem).mono ?_; rintro e w' ⟨A6, cap6, l6, rfl, mg, hb⟩; have jo := Ah.below hb; have hbw := bz (w := W0) bem hb; obtain ⟨hc, hfz⟩ := fe hbw))
   go_wp2_with fail
   refine ((aa G1) _ bem).mono ?_
   rintro e w6 ⟨rfl, hb⟩
   replace jo := jo.below hb
   replace mg := mg.below hb
   have hbw := bz (w := W0) bem hb
   obtain ⟨hc, hfz⟩ := fe hbw
   go_wp2_with fail
   refine ((aa G2) _ bem).mono ?_
   rintro e w7 ⟨rfl, hb⟩
   replace jo := jo.below hb
   replace mg := mg.below hb
   have hbw := bz (w := W0) bem hb
   obtain ⟨hc, hfz⟩ := fe hbw
   go_wp2_with fail
   refine (Qa A5 A6 cap5 cap6 l5 l6 m1 m2 _ (by exact jo) (by exact mg) ((aa HLEN) _ _ _ _ () jo).1 ((aa Cj) _ _ _ _ () mg).1).mono ?_
   rintro e w8 ⟨A7, uq, l7, rfl, uo, hb⟩
   have hbw := bz (w := W0) bem hb
   obtain ⟨hc, hfz⟩ := fe hbw
   go_wp2_with fail
   refine ((aa Qe) _ A7 uq l7 uo).mono ?_
   rintro e w' ⟨s, ny, A', cap', l', rfl, hf, hb⟩
   have hbw := bz (w := W0) bem hb
   obtain ⟨hc, hfz⟩ := fe hbw
   have hblk : w'.heap[w.heap.size + 1 + 1]? = some (.cells #[.int .i64 0, .bool false, .slice none 0 0] 77 (0, 0)) := (hbw.block _ q2).trans N3.out
   have ky := Lib.hid hblk
   have jq : Below w.heap.size w w' := ay hw0 hbw
   clear hblk
   go_wp2_with fail
   exact bodyPost_ret (v := .agg #[.int .i64 s, .bool ny, .slice A' l'.length cap']) (by simp [results, Tryz.results166, go_sem, hc, k7, k8, k9, q2]) rfl
    ⟨s, ny, A', cap', l', rfl, hf.upto ky.out (qw _ _ _ _ _) (il _ _ _ _ _), jq.grown (il _ _ _ _ _) jq.size (fun k hk => by injection hk with hk; omega)⟩
  ·
   rw [decide_eq_false a1] at nz
   clear a a1
   go_enter Tryz.func166, Tryz.ntmps166
   go_wp2_with fail
   obtain ⟨n1, n2, n3, hsz, hw0⟩ := ni w (.cells #[.int .i64 s1, .bool cz, .slice A1 l1.length c1] 77) (.cells #[.int .i64 s2, .bool cu, .slice A2 l2.length c2] 77) (.cells #[.int .i64 0, .bool false, .slice none 0 0] 77)
   generalize (((w.alloc (.cells #[.int .i64 s1, .bool cz, .slice A1 l1.length c1] 77)).alloc (.cells #[.int .i64 s2, .bool cu, .slice A2 l2.length c2] 77)).alloc (.cells #[.int .i64 0, .bool false, .slice none 0 0] 77)) = W0 at *
   have k1 := ag n1 0
   have k2 := ag n1 1
   have k3 := ag n1 2
   simp only [Array.getElem?_eq_getElem, ji, jh, jg] at k1 k2 k3
   have k4 := ag n2 0
   have k5 := ag n2 1
   have k6 := ag n2 2
   simp only [Array.getElem?_eq_getElem, ji, jh, jg] at k4 k5 k6
   have q0 : w.heap.size < W0.heap.size := by omega
   have q1 : w.heap.size + 1 < W0.heap.size := by omega
   have q2 : w.heap.size + 1 + 1 < W0.heap.size := by omega
   have k7 := ag n3 0
   have k8 := ag n3 1
   have k9 := ag n3 2
   simp only [Array.getElem?_eq_getElem, ji, jh, jg] at k7 k8 k9
   have f7 := ai n3 0
   have f8 := ai n3 1
   have f9 := ai n3 2
   have N3 := Lib.hid n3
   clear n3
   clear n1 n2
   refine ((aa nz) _).mono ?_
   rintro e w1 ⟨rfl, hw1⟩
   have rf := ma (w := W0) bem hw1
   obtain ⟨hc, hfz⟩ := fe rf
   clear hw1
   go_wp2_with fail
   have B1 := (aa HB1) W0 hw0; have B2 := (aa HB2) W0 hw0; have G1 := (aa Ff) W0 hw0; have G2 := (aa HG2) W0 hw0
   go_region_held3 (fun w' => w'.cell? ⟨w.heap.size, 0, none⟩ = some (.int .i64 s1) ∧ w'.cell? ⟨w.heap.size, 1, none⟩ = some (.bool cz) ∧ w'.cell? ⟨w.heap.size, 2, none⟩ = some (.slice A1 l1.length c1) ∧ w'.cell? ⟨w.heap.size + 1, 0, none⟩ = some (.int .i64 s2) ∧ w'.cell? ⟨w.heap.size + 1, 1, none⟩ = some (.bool cu) ∧ w'.cell? ⟨w.heap.size + 1, 2, none⟩ = some (.slice A2 l2.length c2)) ((first | with_reducible exact ⟨(hc _ _ q0).trans k1, (hc _ _ q0).trans k2, (hc _ _ q0).trans k3, (hc _ _ q1).trans k4, (hc _ _ q1).trans k5, (hc _ _ q1).trans k6⟩ | with_reducible exact ⟨k1, k2, k3, k4, k5, k6⟩ | with_reducible exact ⟨(gp _ _ _ _ _ om).trans ((hc _ _ q0).trans k1), (gp _ _ _ _ _ om).trans ((hc _ _ q0).trans k2), (gp _ _ _ _ _ om).trans ((hc _ _ q0).trans k3), (gp _ _ _ _ _ om).trans ((hc _ _ q1).trans k4), (gp _ _ _ _ _ om).trans ((hc _ _ q1).trans k5), (gp _ _ _ _ _ om).trans ((hc _ _ q1).trans k6)⟩ | exact ⟨(hc _ _ q0).trans k1, (hc _ _ q0).trans k2, (hc _ _ q0).trans k3, (hc _ _ q1).trans k4, (hc _ _ q1).trans k5, (hc _ _ q1).trans k6⟩ | exact ⟨k1, k2, k3, k4, k5, k6⟩)) (first | (go_at_call_of 191 (Value.agg #[.int .i64 s1, .bool cz, .slice A1 l1.length c1]); refine ((aa B1) _ bem).mono ?_; rintro e w' ⟨A5, cap5, l5, rfl, Ah, hb⟩; have hbw := bz (w := W0) bem hb; obtain ⟨hc, hfz⟩ := fe hbw) | (go_at_call_of 191 (Value.agg #[.int .i64 s2, .bool cu, .slice A2 l2.length c2]); refine ((aa B2) _ bem).mono ?_; rintro e w' ⟨A6, cap6, l6, rfl, mg, hb⟩; have jo := Ah.below hb; have hbw := bz (w := W0) bem hb; obtain ⟨hc, hfz⟩ := fe hbw))
   go_wp2_with fail
   refine ((aa G1) _ bem).mono ?_
   rintro e w6 ⟨rfl, hb⟩
   replace jo := jo.below hb
   replace mg := mg.below hb
   have hbw := bz (w := W0) bem hb
   obtain ⟨hc, hfz⟩ := fe hbw
   go_wp2_with fail
   refine ((aa G2) _ bem).mono ?_
   rintro e w7 ⟨rfl, hb⟩
   replace jo := jo.below hb
   replace mg := mg.below hb
   have hbw := bz (w := W0) bem hb
   obtain ⟨hc, hfz⟩ := fe hbw
   go_wp2_with fail
   refine (Qa A5 A6 cap5 cap6 l5 l6 m1 m2 _ (by exact jo) (by exact mg) ((aa HLEN) _ _ _ _ () jo).1 ((aa Cj) _ _ _ _ () mg).1).mono ?_
   rintro e w8 ⟨A7, uq, l7, rfl, uo, hb⟩
   have hbw := bz (w := W0) bem hb
   obtain ⟨hc, hfz⟩ := fe hbw
   go_wp2_with fail
   refine ((aa Qe) _ A7 uq l7 uo).mono ?_
   rintro e w' ⟨s, ny, A', cap', l', rfl, hf, hb⟩
   have hbw := bz (w := W0) bem hb
   obtain ⟨hc, hfz⟩ := fe hbw
   have hblk : w'.heap[w.heap.size + 1 + 1]? = some (.cells #[.int .i64 0, .bool false, .slice none 0 0] 77 (0, 0)) := (hbw.block _ q2).trans N3.out
   have ky := Lib.hid hblk
   have jq : Below w.heap.size w w' := ay hw0 hbw
   clear hblk
   go_wp2_with fail
   exact bodyPost_ret (v := .agg #[.int .i64 s, .bool ny, .slice A' l'.length cap']) (by simp [results, Tryz.results166, go_sem, hc, k7, k8, k9, q2]) rfl
    ⟨s, ny, A', cap', l', rfl, hf.upto ky.out (qw _ _ _ _ _) (il _ _ _ _ _), jq.grown (il _ _ _ _ _) jq.size (fun k hk => by injection hk with hk; omega)⟩
 ·
  have EQ : (n1 == n2) = false := beq_eq_false_iff_ne.2 he
  by_cases hlt : m1 < m2
  ·
   have d9 : decide (od < 0) = true := decide_eq_true (by rw [hod]; unfold xu; rw [if_pos hlt]; omega)
   have HLE := hide (Nat.le_of_lt hlt)
   have Qe := hide (fun (W : World) (A : Option Addr) (c : Nat) (l : List Nat) (g : jy W A c l (m2 - m1)) => (show Calls Tryz.prog 190 #[.bool (!n1), .slice A l.length c] W fun e w' => Be W Z e w' by
    have := xg (!n1) A c l (m2 - m1) W g
    rw [show (if (!n1) = true then -(((m2 - m1) : Nat) : Int) else (((m2 - m1) : Nat) : Int)) = Z by cases n1 <;> cases n2 <;> simp at he q1 q2 ⊢ <;> omega] at this
    exact this))
   clear hod he q1 q2 hZ hm1 hm2 hlt
   rcases hcase with ⟨a1, a2⟩ | a1
   ·
    rw [decide_eq_true a1] at nz
    rw [decide_eq_false a2] at HS2
    clear a a1 a2
    go_enter Tryz.func166, Tryz.ntmps166
    go_wp2_with fail
    obtain ⟨n1, n2, n3, hsz, hw0⟩ := ni w (.cells #[.int .i64 s1, .bool cz, .slice A1 l1.length c1] 77) (.cells #[.int .i64 s2, .bool cu, .slice A2 l2.length c2] 77) (.cells #[.int .i64 0, .bool false, .slice none 0 0] 77)
    generalize (((w.alloc (.cells #[.int .i64 s1, .bool cz, .slice A1 l1.length c1] 77)).alloc (.cells #[.int .i64 s2, .bool cu, .slice A2 l2.length c2] 77)).alloc (.cells #[.int .i64 0, .bool false, .slice none 0 0] 77)) = W0 at *
    have k1 := ag n1 0
    have k2 := ag n1 1
    have k3 := ag n1 2
    simp only [Array.getElem?_eq_getElem, ji, jh, jg] at k1 k2 k3
    have k4 := ag n2 0
    have k5 := ag n2 1
    have k6 := ag n2 2
    simp only [Array.getElem?_eq_getElem, ji, jh, jg] at k4 k5 k6
    have q0 : w.heap.size < W0.heap.size := by omega
    have q1 : w.heap.size + 1 < W0.heap.size := by omega
    have q2 : w.heap.size + 1 + 1 < W0.heap.size := by omega
    have k7 := ag n3 0
    have k8 := ag n3 1
    have k9 := ag n3 2
    simp only [Array.getElem?_eq_getElem, ji, jh, jg] at k7 k8 k9
    have f7 := ai n3 0
    have f8 := ai n3 1
    have f9 := ai n3 2
    have N3 := Lib.hid n3
    clear n3
    clear n1 n2
    refine ((aa nz) _).mono ?_
    rintro e w1 ⟨rfl, hw1⟩
    have rf := ma (w := W0) bem hw1
    obtain ⟨hc, hfz⟩ := fe rf
    clear hw1
    go_wp2_with fail
    refine ((aa HS2) _).mono ?_
    rintro e w2 ⟨rfl, hw2⟩
    have hbw2 := ma (w := W0) bem hw2
    obtain ⟨hc, hfz⟩ := fe hbw2
    clear hw2
    go_wp2_with fail
    have B1 := (aa HB1) W0 hw0; have B2 := (aa HB2) W0 hw0; have G1 := (aa Ff) W0 hw0; have G2 := (aa HG2) W0 hw0
    go_region_held3 (fun w' => w'.cell? ⟨w.heap.size, 0, none⟩ = some (.int .i64 s1) ∧ w'.cell? ⟨w.heap.size, 1, none⟩ = some (.bool cz) ∧ w'.cell? ⟨w.heap.size, 2, none⟩ = some (.slice A1 l1.length c1) ∧ w'.cell? ⟨w.heap.size + 1, 0, none⟩ = some (.int .i64 s2) ∧ w'.cell? ⟨w.heap.size + 1, 1, none⟩ = some (.bool cu) ∧ w'.cell? ⟨w.heap.size + 1, 2, none⟩ = some (.slice A2 l2.length c2)) ((first | with_reducible exact ⟨(hc _ _ q0).trans k1, (hc _ _ q0).trans k2, (hc _ _ q0).trans k3, (hc _ _ q1).trans k4, (hc _ _ q1).trans k5, (hc _ _ q1).trans k6⟩ | with_reducible exact ⟨k1, k2, k3, k4, k5, k6⟩ | with_reducible exact ⟨(gp _ _ _ _ _ om).trans ((hc _ _ q0).trans k1), (gp _ _ _ _ _ om).trans ((hc _ _ q0).trans k2), (gp _ _ _ _ _ om).trans ((hc _ _ q0).trans k3), (gp _ _ _ _ _ om).trans ((hc _ _ q1).trans k4), (gp _ _ _ _ _ om).trans ((hc _ _ q1).trans k5), (gp _ _ _ _ _ om).trans ((hc _ _ q1).trans k6)⟩ | exact ⟨(hc _ _ q0).trans k1, (hc _ _ q0).trans k2, (hc _ _ q0).trans k3, (hc _ _ q1).trans k4, (hc _ _ q1).trans k5, (hc _ _ q1).trans k6⟩ | exact ⟨k1, k2, k3, k4, k5, k6⟩)) (first | (go_at_call_of 191 (Value.agg #[.int .i64 s1, .bool cz, .slice A1 l1.length c1]); refine ((aa B1) _ bem).mono ?_; rintro e w' ⟨A5, cap5, l5, rfl, Ah, hb⟩; have hbw := bz (w := W0) bem hb; obtain ⟨hc, hfz⟩ := fe hbw) | (go_at_call_of 191 (Value.agg #[.int .i64 s2, .bool cu, .slice A2 l2.length c2]); refine ((aa B2) _ bem).mono ?_; rintro e w' ⟨A6, cap6, l6, rfl, mg, hb⟩; have jo := Ah.below hb; have hbw := bz (w := W0) bem hb; obtain ⟨hc, hfz⟩ := fe hbw))
    go_wp2_with fail
    refine ((aa G1) _ bem).mono ?_
    rintro e w6 ⟨rfl, hb⟩
    replace jo := jo.below hb
    replace mg := mg.below hb
    have hbw := bz (w := W0) bem hb
    obtain ⟨hc, hfz⟩ := fe hbw
    go_wp2_with fail
    refine ((aa G2) _ bem).mono ?_
    rintro e w7 ⟨rfl, hb⟩
    replace jo := jo.below hb
    replace mg := mg.below hb
    have hbw := bz (w := W0) bem hb
    obtain ⟨hc, hfz⟩ := fe hbw
    go_wp2_with fail
    refine (Py A5 A6 cap5 cap6 l5 l6 m1 m2 _ (by exact jo) (by exact mg)).mono ?_
    rintro e w8 ⟨rfl, kd, hw8⟩
    subst hw8
    rw [← HOD.out]
    replace jo := jo.below (mi (Below.refl _ _) kd)
    replace mg := mg.below (mi (Below.refl _ _) kd)
    have hbw := mi hbw kd
    obtain ⟨hc, hfz⟩ := fe hbw
    go_wp2_with fail
    refine (Uy A6 A5 cap6 cap5 l6 l5 m2 m1 _ (by exact mg) (by exact jo) ((aa HLE)) (Nat.le_trans (Nat.le_succ _) ((aa Cj) _ _ _ _ () mg).2)).mono ?_
    rintro e w9 ⟨A7, uq, l7, rfl, uo, hb⟩
    have hbw := bz (w := W0) bem hb
    obtain ⟨hc, hfz⟩ := fe hbw
    go_wp2_with fail
    refine ((aa Qe) _ A7 uq l7 uo).mono ?_
    rintro e w' ⟨s, ny, A', cap', l', rfl, hf, hb⟩
    have hbw := bz (w := W0) bem hb
    obtain ⟨hc, hfz⟩ := fe hbw
    have hblk : w'.heap[w.heap.size + 1 + 1]? = some (.cells #[.int .i64 0, .bool false, .slice none 0 0] 77 (0, 0)) := (hbw.block _ q2).trans N3.out
    have ky := Lib.hid hblk
    have jq : Below w.heap.size w w' := ay hw0 hbw
    clear hblk
    go_wp2_with fail
    exact bodyPost_ret (v := .agg #[.int .i64 s, .bool ny, .slice A' l'.length cap']) (by simp [results, Tryz.results166, go_sem, hc, k7, k8, k9, q2]) rfl
     ⟨s, ny, A', cap', l', rfl, hf.upto ky.out (qw _ _ _ _ _) (il _ _ _ _ _), jq.grown (il _ _ _ _ _) jq.size (fun k hk => by injection hk with hk; omega)⟩
   ·
    rw [decide_eq_false a1] at nz
    clear a a1
    go_enter Tryz.func166, Tryz.ntmps166
    go_wp2_with fail
    obtain ⟨n1, n2, n3, hsz, hw0⟩ := ni w (.cells #[.int .i64 s1, .bool cz, .slice A1 l1.length c1] 77) (.cells #[.int .i64 s2, .bool cu, .slice A2 l2.length c2] 77) (.cells #[.int .i64 0, .bool false, .slice none 0 0] 77)
    generalize (((w.alloc (.cells #[.int .i64 s1, .bool cz, .slice A1 l1.length c1] 77)).alloc (.cells #[.int .i64 s2, .bool cu, .slice A2 l2.length c2] 77)).alloc (.cells #[.int .i64 0, .bool false, .slice none 0 0] 77)) = W0 at *
    have k1 := ag n1 0
    have k2 := ag n1 1
    have k3 := ag n1 2
    simp only [Array.getElem?_eq_getElem, ji, jh, jg] at k1 k2 k3
    have k4 := ag n2 0
    have k5 := ag n2 1
    have k6 := ag n2 2
    simp only [Array.getElem?_eq_getElem, ji, jh, jg] at k4 k5 k6
    have q0 : w.heap.size < W0.heap.size := by omega
    have q1 : w.heap.size + 1 < W0.heap.size := by omega
    have q2 : w.heap.size + 1 + 1 < W0.heap.size := by omega
    have k7 := ag n3 0
    have k8 := ag n3 1
    have k9 := ag n3 2
    simp only [Array.getElem?_eq_getElem, ji, jh, jg] at k7 k8 k9
    have f7 := ai n3 0
    have f8 := ai n3 1
    have f9 := ai n3 2
    have N3 := Lib.hid n3
    clear n3
    clear n1 n2
    refine ((aa nz) _).mono ?_
    rintro e w1 ⟨rfl, hw1⟩
    have rf := ma (w := W0) bem hw1
    obtain ⟨hc, hfz⟩ := fe rf
    clear hw1
    go_wp2_with fail
    have B1 := (aa HB1) W0 hw0; have B2 := (aa HB2) W0 hw0; have G1 := (aa Ff) W0 hw0; have G2 := (aa HG2) W0 hw0
    go_region_held3 (fun w' => w'.cell? ⟨w.heap.size, 0, none⟩ = some (.int .i64 s1) ∧ w'.cell? ⟨w.heap.size, 1, none⟩ = some (.bool cz) ∧ w'.cell? ⟨w.heap.size, 2, none⟩ = some (.slice A1 l1.length c1) ∧ w'.cell? ⟨w.heap.size + 1, 0, none⟩ = some (.int .i64 s2) ∧ w'.cell? ⟨w.heap.size + 1, 1, none⟩ = some (.bool cu) ∧ w'.cell? ⟨w.heap.size + 1, 2, none⟩ = some (.slice A2 l2.length c2)) ((first | with_reducible exact ⟨(hc _ _ q0).trans k1, (hc _ _ q0).trans k2, (hc _ _ q0).trans k3, (hc _ _ q1).trans k4, (hc _ _ q1).trans k5, (hc _ _ q1).trans k6⟩ | with_reducible exact ⟨k1, k2, k3, k4, k5, k6⟩ | with_reducible exact ⟨(gp _ _ _ _ _ om).trans ((hc _ _ q0).trans k1), (gp _ _ _ _ _ om).trans ((hc _ _ q0).trans k2), (gp _ _ _ _ _ om).trans ((hc _ _ q0).trans k3), (gp _ _ _ _ _ om).trans ((hc _ _ q1).trans k4), (gp _ _ _ _ _ om).trans ((hc _ _ q1).trans k5), (gp _ _ _ _ _ om).trans ((hc _ _ q1).trans k6)⟩ | exact ⟨(hc _ _ q0).trans k1, (hc _ _ q0).trans k2, (hc _ _ q0).trans k3, (hc _ _ q1).trans k4, (hc _ _ q1).trans k5, (hc _ _ q1).trans k6⟩ | exact ⟨k1, k2, k3, k4, k5, k6⟩)) (first | (go_at_call_of 191 (Value.agg #[.int .i64 s1, .bool cz, .slice A1 l1.length c1]); refine ((aa B1) _ bem).mono ?_; rintro e w' ⟨A5, cap5, l5, rfl, Ah, hb⟩; have hbw := bz (w := W0) bem hb; obtain ⟨hc, hfz⟩ := fe hbw) | (go_at_call_of 191 (Value.agg #[.int .i64 s2, .bool cu, .slice A2 l2.length c2]); refine ((aa B2) _ bem).mono ?_; rintro e w' ⟨A6, cap6, l6, rfl, mg, hb⟩; have jo := Ah.below hb; have hbw := bz (w := W0) bem hb; obtain ⟨hc, hfz⟩ := fe hbw))
    go_wp2_with fail
    refine ((aa G1) _ bem).mono ?_
    rintro e w6 ⟨rfl, hb⟩
    replace jo := jo.below hb
    replace mg := mg.below hb
    have hbw := bz (w := W0) bem hb
    obtain ⟨hc, hfz⟩ := fe hbw
    go_wp2_with fail
    refine ((aa G2) _ bem).mono ?_
    rintro e w7 ⟨rfl, hb⟩
    replace jo := jo.below hb
    replace mg := mg.below hb
    have hbw := bz (w := W0) bem hb
    obtain ⟨hc, hfz⟩ := fe hbw
    go_wp2_with fail
    refine (Py A5 A6 cap5 cap6 l5 l6 m1 m2 _ (by exact jo) (by exact mg)).mono ?_
    rintro e w8 ⟨rfl, kd, hw8⟩
    subst hw8
    rw [← HOD.out]
    replace jo := jo.below (mi (Below.refl _ _) kd)
    replace mg := mg.below (mi (Below.refl _ _) kd)
    have hbw := mi hbw kd
    obtain ⟨hc, hfz⟩ := fe hbw
    go_wp2_with fail
    refine (Uy A6 A5 cap6 cap5 l6 l5 m2 m1 _ (by exact mg) (by exact jo) ((aa HLE)) (Nat.le_trans (Nat.le_succ _) ((aa Cj) _ _ _ _ () mg).2)).mono ?_
    rintro e w9 ⟨A7, uq, l7, rfl, uo, hb⟩
    have hbw := bz (w := W0) bem hb
    obtain ⟨hc, hfz⟩ := fe hbw
    go_wp2_with fail
    refine ((aa Qe) _ A7 uq l7 uo).mono ?_
    rintro e w' ⟨s, ny, A', cap', l', rfl, hf, hb⟩
    have hbw := bz (w := W0) bem hb
    obtain ⟨hc, hfz⟩ := fe hbw
    have hblk : w'.heap[w.heap.size + 1 + 1]? = some (.cells #[.int .i64 0, .bool false, .slice none 0 0] 77 (0, 0)) := (hbw.block _ q2).trans N3.out
    have ky := Lib.hid hblk
    have jq : Below w.heap.size w w' := ay hw0 hbw
    clear hblk
    go_wp2_with fail
    exact bodyPost_ret (v := .agg #[.int .i64 s, .bool ny, .slice A' l'.length cap']) (by simp [results, Tryz.results166, go_sem, hc, k7, k8, k9, q2]) rfl
     ⟨s, ny, A', cap', l', rfl, hf.upto ky.out (qw _ _ _ _ _) (il _ _ _ _ _), jq.grown (il _ _ _ _ _) jq.size (fun k hk => by injection hk with hk; omega)⟩
  ·
   have d9 : decide (od < 0) = false := decide_eq_false (by rw [hod]; unfold xu; rw [if_neg hlt]; split <;> omega)
   have HLE := hide (Nat.le_of_not_lt hlt)
   have Qe := hide (fun (W : World) (A : Option Addr) (c : Nat) (l : List Nat) (g : jy W A c l (m1 - m2)) => (show Calls Tryz.prog 190 #[.bool (n1), .slice A l.length c] W fun e w' => Be W Z e w' by
    have := xg (n1) A c l (m1 - m2) W g
    rw [show (if (n1) = true then -(((m1 - m2) : Nat) : Int) else (((m1 - m2) : Nat) : Int)) = Z by cases n1 <;> cases n2 <;> simp at he q1 q2 ⊢ <;> omega] at this
    exact this))
   clear hod he q1 q2 hZ hm1 hm2 hlt
   rcases hcase with ⟨a1, a2⟩ | a1
   ·
    rw [decide_eq_true a1] at nz
    rw [decide_eq_false a2] at HS2
    clear a a1 a2
    go_enter Tryz.func166, Tryz.ntmps166
    go_wp2_with fail
    obtain ⟨n1, n2, n3, hsz, hw0⟩ := ni w (.cells #[.int .i64 s1, .bool cz, .slice A1 l1.length c1] 77) (.cells #[.int .i64 s2, .bool cu, .slice A2 l2.length c2] 77) (.cells #[.int .i64 0, .bool false, .slice none 0 0] 77)
    generalize (((w.alloc (.cells #[.int .i64 s1, .bool cz, .slice A1 l1.length c1] 77)).alloc (.cells #[.int .i64 s2, .bool cu, .slice A2 l2.length c2] 77)).alloc (.cells #[.int .i64 0, .bool false, .slice none 0 0] 77)) = W0 at *
    have k1 := ag n1 0
    have k2 := ag n1 1
    have k3 := ag n1 2
    simp only [Array.getElem?_eq_getElem, ji, jh, jg] at k1 k2 k3
    have k4 := ag n2 0
    have k5 := ag n2 1
    have k6 := ag n2 2
    simp only [Array.getElem?_eq_getElem, ji, jh, jg] at k4 k5 k6
    have q0 : w.heap.size < W0.heap.size := by omega
    have q1 : w.heap.size + 1 < W0.heap.size := by omega
    have q2 : w.heap.size + 1 + 1 < W0.heap.size := by omega
    have k7 := ag n3 0
    have k8 := ag n3 1
    have k9 := ag n3 2
    simp only [Array.getElem?_eq_getElem, ji, jh, jg] at k7 k8 k9
    have f7 := ai n3 0
    have f8 := ai n3 1
    have f9 := ai n3 2
    have N3 := Lib.hid n3
    clear n3
    clear n1 n2
    refine ((aa nz) _).mono ?_
    rintro e w1 ⟨rfl, hw1⟩
    have rf := ma (w := W0) bem hw1
    obtain ⟨hc, hfz⟩ := fe rf
    clear hw1
    go_wp2_with fail
    refine ((aa HS2) _).mono ?_
    rintro e w2 ⟨rfl, hw2⟩
    have hbw2 := ma (w := W0) bem hw2
    obtain ⟨hc, hfz⟩ := fe hbw2
    clear hw2
    go_wp2_with fail
    have B1 := (aa HB1) W0 hw0; have B2 := (aa HB2) W0 hw0; have G1 := (aa Ff) W0 hw0; have G2 := (aa HG2) W0 hw0
    go_region_held3 (fun w' => w'.cell? ⟨w.heap.size, 0, none⟩ = some (.int .i64 s1) ∧ w'.cell? ⟨w.heap.size, 1, none⟩ = some (.bool cz) ∧ w'.cell? ⟨w.heap.size, 2, none⟩ = some (.slice A1 l1.length c1) ∧ w'.cell? ⟨w.heap.size + 1, 0, none⟩ = some (.int .i64 s2) ∧ w'.cell? ⟨w.heap.size + 1, 1, none⟩ = some (.bool cu) ∧ w'.cell? ⟨w.heap.size + 1, 2, none⟩ = some (.slice A2 l2.length c2)) ((first | with_reducible exact ⟨(hc _ _ q0).trans k1, (hc _ _ q0).trans k2, (hc _ _ q0).trans k3, (hc _ _ q1).trans k4, (hc _ _ q1).trans k5, (hc _ _ q1).trans k6⟩ | with_reducible exact ⟨k1, k2, k3, k4, k5, k6⟩ | with_reducible exact ⟨(gp _ _ _ _ _ om).trans ((hc _ _ q0).trans k1), (gp _ _ _ _ _ om).trans ((hc _ _ q0).trans k2), (gp _ _ _ _ _ om).trans ((hc _ _ q0).trans k3), (gp _ _ _ _ _ om).trans ((hc _ _ q1).trans k4), (gp _ _ _ _ _ om).trans ((hc _ _ q1).trans k5), (gp _ _ _ _ _ om).trans ((hc _ _ q1).trans k6)⟩ | exact ⟨(hc _ _ q0).trans k1, (hc _ _ q0).trans k2, (hc _ _ q0).trans k3, (hc _ _ q1).trans k4, (hc _ _ q1).trans k5, (hc _ _ q1).trans k6⟩ | exact ⟨k1, k2, k3, k4, k5, k6⟩)) (first | (go_at_call_of 191 (Value.agg #[.int .i64 s1, .bool cz, .slice A1 l1.length c1]); refine ((aa B1) _ bem).mono ?_; rintro e w' ⟨A5, cap5, l5, rfl, Ah, hb⟩; have hbw := bz (w := W0) bem hb; obtain ⟨hc, hfz⟩ := fe hbw) | (go_at_call_of 191 (Value.agg #[.int .i64 s2, .bool cu, .slice A2 l2.length c2]); refine ((aa B2) _ bem).mono ?_; rintro e w' ⟨A6, cap6, l6, rfl, mg, hb⟩; have jo := Ah.below hb; have hbw := bz (w := W0) bem hb; obtain ⟨hc, hfz⟩ := fe hbw))
    go_wp2_with fail
    refine ((aa G1) _ bem).mono ?_
    rintro e w6 ⟨rfl, hb⟩
    replace jo := jo.below hb
    replace mg := mg.below hb
    have hbw := bz (w := W0) bem hb
    obtain ⟨hc, hfz⟩ := fe hbw
    go_wp2_with fail
    refine ((aa G2) _ bem).mono ?_
    rintro e w7 ⟨rfl, hb⟩
    replace jo := jo.below hb
    replace mg := mg.below hb
    have hbw := bz (w := W0) bem hb
    obtain ⟨hc, hfz⟩ := fe hbw
    go_wp2_with fail
    refine (Py A5 A6 cap5 cap6 l5 l6 m1 m2 _ (by exact jo) (by exact mg)).mono ?_
    rintro e w8 ⟨rfl, kd, hw8⟩
    subst hw8
    rw [← HOD.out]
    replace jo := jo.below (mi (Below.refl _ _) kd)
    replace mg := mg.below (mi (Below.refl _ _) kd)
    have hbw := mi hbw kd
    obtain ⟨hc, hfz⟩ := fe hbw
    go_wp2_with fail
    refine (Uy A5 A6 cap5 cap6 l5 l6 m1 m2 _ (by exact jo) (by exact mg) ((aa HLE)) (Nat.le_trans (Nat.le_succ _) ((aa HLEN) _ _ _ _ () jo).2)).mono ?_
    rintro e w9 ⟨A7, uq, l7, rfl, uo, hb⟩
    have hbw := bz (w := W0) bem hb
    obtain ⟨hc, hfz⟩ := fe hbw
    go_wp2_with fail
    refine ((aa Qe) _ A7 uq l7 uo).mono ?_
    rintro e w' ⟨s, ny, A', cap', l', rfl, hf, hb⟩
    have hbw := bz (w := W0) bem hb
    obtain ⟨hc, hfz⟩ := fe hbw
    have hblk : w'.heap[w.heap.size + 1 + 1]? = some (.cells #[.int .i64 0, .bool false, .slice none 0 0] 77 (0, 0)) := (hbw.block _ q2).trans N3.out
    have ky := Lib.hid hblk
    have jq : Below w.heap.size w w' := ay hw0 hbw
    clear hblk
    go_wp2_with fail
    exact bodyPost_ret (v := .agg #[.int .i64 s, .bool ny, .slice A' l'.length cap']) (by simp [results, Tryz.results166, go_sem, hc, k7, k8, k9, q2]) rfl
     ⟨s, ny, A', cap', l', rfl, hf.upto ky.out (qw _ _ _ _ _) (il _ _ _ _ _), jq.grown (il _ _ _ _ _) jq.size (fun k hk => by injection hk with hk; omega)⟩
   ·
    rw [decide_eq_false a1] at nz
    clear a a1
    go_enter Tryz.func166, Tryz.ntmps166
    go_wp2_with fail
    obtain ⟨n1, n2, n3, hsz, hw0⟩ := ni w (.cells #[.int .i64 s1, .bool cz, .slice A1 l1.length c1] 77) (.cells #[.int .i64 s2, .bool cu, .slice A2 l2.length c2] 77) (.cells #[.int .i64 0, .bool false, .slice none 0 0] 77)
    generalize (((w.alloc (.cells #[.int .i64 s1, .bool cz, .slice A1 l1.length c1] 77)).alloc (.cells #[.int .i64 s2, .bool cu, .slice A2 l2.length c2] 77)).alloc (.cells #[.int .i64 0, .bool false, .slice none 0 0] 77)) = W0 at *
    have k1 := ag n1 0
    have k2 := ag n1 1
    have k3 := ag n1 2
    simp only [Array.getElem?_eq_getElem, ji, jh, jg] at k1 k2 k3
    have k4 := ag n2 0
    have k5 := ag n2 1
    have k6 := ag n2 2
    simp only [Array.getElem?_eq_getElem, ji, jh, jg] at k4 k5 k6
    have q0 : w.heap.size < W0.heap.size := by omega
    have q1 : w.heap.size + 1 < W0.heap.size := by omega
    have q2 : w.heap.size + 1 + 1 < W0.heap.size := by omega
    have k7 := ag n3 0
    have k8 := ag n3 1
    have k9 := ag n3 2
    simp only [Array.getElem?_eq_getElem, ji, jh, jg] at k7 k8 k9
    have f7 := ai n3 0
    have f8 := ai n3 1
    have f9 := ai n3 2
    have N3 := Lib.hid n3
    clear n3
    clear n1 n2
    refine ((aa nz) _).mono ?_
    rintro e w1 ⟨rfl, hw1⟩
    have rf := ma (w := W0) bem hw1
    obtain ⟨hc, hfz⟩ := fe rf
    clear hw1
    go_wp2_with fail
    have B1 := (aa HB1) W0 hw0; have B2 := (aa HB2) W0 hw0; have G1 := (aa Ff) W0 hw0; have G2 := (aa HG2) W0 hw0
    go_region_held3 (fun w' => w'.cell? ⟨w.heap.size, 0, none⟩ = some (.int .i64 s1) ∧ w'.cell? ⟨w.heap.size, 1, none⟩ = some (.bool cz) ∧ w'.cell? ⟨w.heap.size, 2, none⟩ = some (.slice A1 l1.length c1) ∧ w'.cell? ⟨w.heap.size + 1, 0, none⟩ = some (.int .i64 s2) ∧ w'.cell? ⟨w.heap.size + 1, 1, none⟩ = some (.bool cu) ∧ w'.cell? ⟨w.heap.size + 1, 2, none⟩ = some (.slice A2 l2.length c2)) ((first | with_reducible exact ⟨(hc _ _ q0).trans k1, (hc _ _ q0).trans k2, (hc _ _ q0).trans k3, (hc _ _ q1).trans k4, (hc _ _ q1).trans k5, (hc _ _ q1).trans k6⟩ | with_reducible exact ⟨k1, k2, k3, k4, k5, k6⟩ | with_reducible exact ⟨(gp _ _ _ _ _ om).trans ((hc _ _ q0).trans k1), (gp _ _ _ _ _ om).trans ((hc _ _ q0).trans k2), (gp _ _ _ _ _ om).trans ((hc _ _ q0).trans k3), (gp _ _ _ _ _ om).trans ((hc _ _ q1).trans k4), (gp _ _ _ _ _ om).trans ((hc _ _ q1).trans k5), (gp _ _ _ _ _ om).trans ((hc _ _ q1).trans k6)⟩ | exact ⟨(hc _ _ q0).trans k1, (hc _ _ q0).trans k2, (hc _ _ q0).trans k3, (hc _ _ q1).trans k4, (hc _ _ q1).trans k5, (hc _ _ q1).trans k6⟩ | exact ⟨k1, k2, k3, k4, k5, k6⟩)) (first | (go_at_call_of 191 (Value.agg #[.int .i64 s1, .bool cz, .slice A1 l1.length c1]); refine ((aa B1) _ bem).mono ?_; rintro e w' ⟨A5, cap5, l5, rfl, Ah, hb⟩; have hbw := bz (w := W0) bem hb; obtain ⟨hc, hfz⟩ := fe hbw) | (go_at_call_of 191 (Value.agg #[.int .i64 s2, .bool cu, .slice A2 l2.length c2]); refine ((aa B2) _ bem).mono ?_; rintro e w' ⟨A6, cap6, l6, rfl, mg, hb⟩; have jo := Ah.below hb; have hbw := bz (w := W0) bem hb; obtain ⟨hc, hfz⟩ := fe hbw))
    go_wp2_with fail
    refine ((aa G1) _ bem).mono ?_
    rintro e w6 ⟨rfl, hb⟩
    replace jo := jo.below hb
    replace mg := mg.below hb
    have hbw := bz (w := W0) bem hb
    obtain ⟨hc, hfz⟩ := fe hbw
    go_wp2_with fail
    refine ((aa G2) _ bem).mono ?_
    rintro e w7 ⟨rfl, hb⟩
    replace jo := jo.below hb
    replace mg := mg.below hb
    have hbw := bz (w := W0) bem hb
    obtain ⟨hc, hfz⟩ := fe hbw
    go_wp2_with fail
    refine (Py A5 A6 cap5 cap6 l5 l6 m1 m2 _ (by exact jo) (by exact mg)).mono ?_
    rintro e w8 ⟨rfl, kd, hw8⟩
    subst hw8
    rw [← HOD.out]
    replace jo := jo.below (mi (Below.refl _ _) kd)
    replace mg := mg.below (mi (Below.refl _ _) kd)
    have hbw := mi hbw kd
    obtain ⟨hc, hfz⟩ := fe hbw
    go_wp2_with fail
    refine (Uy A5 A6 cap5 cap6 l5 l6 m1 m2 _ (by exact jo) (by exact mg) ((aa HLE)) (Nat.le_trans (Nat.le_succ _) ((aa HLEN) _ _ _ _ () jo).2)).mono ?_
    rintro e w9 ⟨A7, uq, l7, rfl, uo, hb⟩
    have hbw := bz (w := W0) bem hb
    obtain ⟨hc, hfz⟩ := fe hbw
    go_wp2_with fail
    refine ((aa Qe) _ A7 uq l7 uo).mono ?_
    rintro e w' ⟨s, ny, A', cap', l', rfl, hf, hb⟩
    have hbw := bz (w := W0) bem hb
    obtain ⟨hc, hfz⟩ := fe hbw
    have hblk : w'.heap[w.heap.size + 1 + 1]? = some (.cells #[.int .i64 0, .bool false, .slice none 0 0] 77 (0, 0)) := (hbw.block _ q2).trans N3.out
    have ky := Lib.hid hblk
    have jq : Below w.heap.size w w' := ay hw0 hbw
    clear hblk
    go_wp2_with fail
    exact bodyPost_ret (v := .agg #[.int .i64 s, .bool ny, .slice A' l'.length cap']) (by simp [results, Tryz.results166, go_sem, hc, k7, k8, k9, q2]) rfl
     ⟨s, ny, A', cap', l', rfl, hf.upto ky.out (qw _ _ _ _ _) (il _ _ _ _ _), jq.grown (il _ _ _ _ _) jq.size (fun k hk => by injection hk with hk; omega)⟩


theorem agl (s1 : Int) (cz : Bool) (A1 : Option Addr) (c1 : Nat) (l1 : List Nat) (z1 : Int) (s2 : Int) (cu : Bool) (A2 : Option Addr) (c2 : Nat) (l2 : List Nat) (z2 : Int) (w : World)
  (h1 : fw w s1 cz A1 c1 l1 z1) (h2 : fw w s2 cu A2 c2 l2 z2) (hl1 : l1.length ≤ lim) (hl2 : l2.length ≤ lim) :
  Calls Tryz.prog 166 #[.agg #[.int .i64 s1, .bool cz, .slice A1 l1.length c1], .agg #[.int .i64 s2, .bool cu, .slice A2 l2.length c2]] w fun e w' => Be w (z1 + z2) e w' := by
 by_cases a : l1.length = 0 ∧ l2.length = 0
 ·
  by_cases hz : (z1 + z2).natAbs < Iq
  ·
   exact ana s1 cz A1 c1 l1 z1 s2 cu A2 c2 l2 z2 w h1 h2 hl1 hl2 a.1 a.2 hz
  ·
   exact ari s1 cz A1 c1 l1 z1 s2 cu A2 c2 l2 z2 w h1 h2 hl1 hl2 a.1 a.2 (Nat.le_of_not_lt hz)
 ·
  exact avl s1 cz A1 c1 l1 z1 s2 cu A2 c2 l2 z2 w h1 h2 hl1 hl2 a

end Go.Proofs.YtfgeaakhlcaibaaGreatDoor
namespace Go.Proofs.YtfgeaakhlcaibaaGreatDoor
namespace Wd

def MX : Nat := 1000000000000
theorem Oi : MX = 1000000000000 := rfl

def qm (n d : Int) : Prop := 1 ≤ d ∧ d ≤ 1000000000000 ∧ -1000000000000 ≤ n ∧ n ≤ 1000000000000 ∧ n.natAbs.gcd d.natAbs = 1
instance (n d : Int) : Decidable (qm n d) := by unfold qm; infer_instance

def qR (n d : Int) : Rat := Rat.divInt n d

theorem Yz {n d : Int} (h : qm n d) : (qR n d).num = n ∧ ((qR n d).den : Int) = d := by
 obtain ⟨h1, h2, h3, h4, h5⟩ := h
 have hd : (d.natAbs : Int) = d := by omega
 have e : qR n d = Rat.mk' n d.natAbs om h5 := by
  rw [Rat.mk_eq_divInt, hd]; rfl
 rw [e]; exact ⟨rfl, hd⟩
theorem bbk (q : Rat) : qR q.num q.den = q := by
 unfold qR; exact Rat.num_divInt_den q
theorem bbj {n d : Int} (h : qm n d) : qR n d = 0 ↔ n = 0 := by
 constructor
 ·
  intro e
  have := (Yz h).1
  rw [e] at this; exact this.symm
 ·
  rintro rfl
  unfold qR; exact Rat.zero_divInt d

def fits (q : Rat) : Prop := q.num.natAbs ≤ MX ∧ q.den ≤ MX
instance (q : Rat) : Decidable (fits q) := by unfold fits; infer_instance
theorem bbw {q : Rat} (h : fits q) : qm q.num q.den := by
 obtain ⟨h1, h2⟩ := h
 rw [Oi] at h1 h2
 have h3 := q.den_pos
 exact ⟨by omega, by omega, by omega, by omega, by rw [Int.natAbs_natCast]; exact q.reduced⟩
theorem bbs {n d : Int} (h : qm n d) : fits (qR n d) := by
 obtain ⟨e1, e2⟩ := Yz h
 obtain ⟨h1, h2, h3, h4, h5⟩ := h
 unfold fits; rw [Oi, e1]
 exact ⟨by omega, by omega⟩

structure Told where
 n : Int
 d : Int
 e : Int
def told (q : Rat) : Told := if fits q then ⟨q.num, q.den, 0⟩ else ⟨0, 0, 3⟩
theorem bds (q : Rat) : (told q).e = 0 ↔ fits q := by
 unfold told
 by_cases h : fits q
 ·
  rw [if_pos h]; exact ⟨fun _ => h, fun _ => rfl⟩
 ·
  rw [if_neg h]; exact ⟨fun e => by simp at e, fun e => absurd e h⟩
theorem ajt {q : Rat} (h : (told q).e = 0) : qm (told q).n (told q).d ∧ qR (told q).n (told q).d = q := by
 have hf := (bds q).1 h
 unfold told; rw [if_pos hf]
 exact ⟨bbw hf, bbk q⟩
theorem Lg {n d : Int} (h : qm n d) : told (qR n d) = ⟨n, d, 0⟩ := by
 unfold told; rw [if_pos (bbs h)]
 obtain ⟨e1, e2⟩ := Yz h
 rw [e1, e2]

def two (f : Rat → Rat → Rat) (a b c d : Int) : Told := if qm a b ∧ qm c d then told (f (qR a b) (qR c d)) else ⟨0, 0, 1⟩
end Wd
namespace Wd

def Sz (B K : Nat) (z : Int) : Prop := z.natAbs < B ^ K

theorem Sz.mono {B K L : Nat} {z : Int} (hB : 1 < B) (h : Sz B K z) (hk : K ≤ L) : Sz B L z := Nat.lt_of_lt_of_le h (Nat.pow_le_pow_right om hk)
theorem Sz.mul {B K L : Nat} {a b : Int} (ha : Sz B K a) (hb : Sz B L b) : Sz B (K + L) (a * b) := by
 unfold Sz at *; rw [Int.natAbs_mul, Nat.pow_add]
 exact Nat.mul_lt_mul_of_lt_of_le ha (Nat.le_of_lt hb) om
theorem Sz.add {B K : Nat} {a b : Int} (hB : 1 < B) (ha : Sz B K a) (hb : Sz B K b) : Sz B (K + 1) (a + b) := by
 unfold Sz at *
 have h1 := Int.natAbs_add_le a b
 have h2 : 2 * B ^ K ≤ B ^ (K + 1) := by rw [Nat.pow_succ, Nat.mul_comm]; exact Nat.mul_le_mul_left _ hB
 omega
theorem Sz.neg {B K : Nat} {a : Int} (ha : Sz B K a) : Sz B K (-a) := by unfold Sz at *; rwa [Int.natAbs_neg]
theorem Sz.le {B K : Nat} {a b : Int} (ha : Sz B K a) (h : b.natAbs ≤ a.natAbs) : Sz B K b := Nat.lt_of_le_of_lt h ha
theorem Sz.tdiv {B K : Nat} {a : Int} (ha : Sz B K a) (b : Int) : Sz B K (a.tdiv b) := ha.le (by rw [Int.natAbs_tdiv]; exact Nat.div_le_self _ _)
theorem Sz.gcd_left {B K : Nat} {a b : Int} (ha : Sz B K a) (h0 : a ≠ 0) : Sz B K ((a.natAbs.gcd b.natAbs : Nat) : Int) := ha.le (by rw [Int.natAbs_natCast]; exact Nat.gcd_le_left _ om)
theorem Sz.gcd_right {B K : Nat} {a b : Int} (hb : Sz B K b) (h0 : b ≠ 0) : Sz B K ((a.natAbs.gcd b.natAbs : Nat) : Int) := hb.le (by rw [Int.natAbs_natCast]; exact Nat.gcd_le_right _ om)
theorem Sz.gcd {B K : Nat} {a b : Int} (ha : Sz B K a) (hb : Sz B K b) : Sz B K ((a.natAbs.gcd b.natAbs : Nat) : Int) := by
 by_cases h0 : a = 0
 ·
  subst h0
  refine hb.le ?_
  simp
 ·
  exact ha.gcd_left h0
theorem Sz.of_le {B K : Nat} {z : Int} (h : z.natAbs < B) (hB : 1 < B) (hK : 1 ≤ K) : Sz B K z := by
 have : Sz B 1 z := by unfold Sz; rwa [Nat.pow_one]
 exact this.mono hB hK

theorem adr (x y : Rat) (g h : Nat) (n : Int) (hg : g = x.den.gcd y.den) (hn : n = x.num * (y.den : Int).tdiv g + y.num * (x.den : Int).tdiv g) (hh : h = g.gcd n.natAbs) :
  (x + y).num = n.tdiv h ∧ ((x + y).den : Int) = (x.den : Int).tdiv g * (y.den : Int).tdiv h := by
 have e1 : (y.den : Int).tdiv g = ((y.den / g : Nat) : Int) := (Int.ofNat_tdiv _ _).symm
 have e2 : (x.den : Int).tdiv g = ((x.den / g : Nat) : Int) := (Int.ofNat_tdiv _ _).symm
 have e3 : (y.den : Int).tdiv h = ((y.den / h : Nat) : Int) := (Int.ofNat_tdiv _ _).symm
 rw [e1, e2] at hn
 have := asq x y g h n hg hn hh
 rw [this.1, this.2, e2, e3, Int.natCast_mul]
 exact ⟨rfl, rfl⟩
theorem adn (x y : Rat) (g h : Nat) (hg : g = x.num.natAbs.gcd y.den) (hh : h = y.num.natAbs.gcd x.den) :
  (x * y).num = x.num.tdiv g * y.num.tdiv h ∧ ((x * y).den : Int) = (x.den : Int).tdiv h * (y.den : Int).tdiv g := by
 have e1 : (y.den : Int).tdiv g = ((y.den / g : Nat) : Int) := (Int.ofNat_tdiv _ _).symm
 have e2 : (x.den : Int).tdiv h = ((x.den / h : Nat) : Int) := (Int.ofNat_tdiv _ _).symm
 have := aqz x y g h hg hh
 rw [this.1, this.2, e1, e2, Int.natCast_mul]
 exact ⟨rfl, rfl⟩
theorem Tq (q : Rat) (h : q.num ≠ 0) : (q.num < 0 → (q⁻¹).num = -(q.den : Int) ∧ ((q⁻¹).den : Int) = -q.num) ∧ (¬ q.num < 0 → (q⁻¹).num = (q.den : Int) ∧ ((q⁻¹).den : Int) = q.num) := by
 rw [Rat.num_inv, Rat.den_inv, if_neg h]
 constructor
 ·
  intro hn
  rw [Int.sign_eq_neg_one_of_neg hn]; omega
 ·
  intro hn
  rw [Int.sign_eq_one_of_pos om]; omega
end Wd
end Go.Proofs.YtfgeaakhlcaibaaGreatDoor
namespace Go.Proofs.YtfgeaakhlcaibaaGreatDoor
open Go.RowKit

def Gh (w : World) (a b : Int) (e : Ending) (w' : World) : Prop := ∃ s1 cz A1 c1 l1 s2 cu A2 c2 l2,
 e = .returned (.agg #[.int .i64 s1, .bool cz, .slice A1 (List.length l1) c1, .int .i64 s2, .bool cu, .slice A2 (List.length l2) c2]) ∧ fw w' s1 cz A1 c1 l1 a ∧ fw w' s2 cu A2 c2 l2 b ∧ Below w.heap.size w w'

theorem ui (s s' : Int) (b b' : Bool) (A A' : Option Addr) (n c n' c' : Nat) : Qb #[.int .i64 s, .bool b, .slice A n c, .int .i64 s', .bool b', .slice A' n' c'] := by
 intro i n h
 match i, h with
 | 0, h => simp at h
 | 1, h => simp at h
 | 2, h => simp at h
 | 3, h => simp at h
 | 4, h => simp at h
 | 5, h => simp at h
 | i + 6, h => simp at h
theorem kg (w : World) (g : Nat) (u0 u1 u2 u3 u4 u5 : Value) : w.grownBy ((((((w.setCell ⟨g, 0, none⟩ u0).setCell ⟨g, 1, none⟩ u1).setCell ⟨g, 2, none⟩ u2).setCell ⟨g, 3, none⟩ u3).setCell ⟨g, 4, none⟩ u4).setCell ⟨g, 5, none⟩ u5) (some g) :=
 kz (kz (kz (kz (kz (kz (qb _ _) _ _) _ _) _ _) _ _) _ _) _ _
theorem mo (w : World) (g : Nat) (u0 u1 : Value) : w.grownBy ((w.setCell ⟨g, 0, none⟩ u0).setCell ⟨g, 1, none⟩ u1) (some g) :=
 kz (kz (qb _ _) _ _) _ _
theorem Cw {w : World} {g : Nat} (i : Nat) (u : Value) (b o : Nat) (h : b ≠ g) : (w.setCell ⟨g, i, none⟩ u).cell? ⟨b, o, none⟩ = w.cell? ⟨b, o, none⟩ :=
 World.cell?_setCell_other _ _ _ _ (by intro e; injection e with e1; exact h (by first | exact e1 | exact e1.symm))
theorem jd {w : World} {g : Nat} (u0 u1 u2 u3 u4 u5 : Value) (b o : Nat) (h : b ≠ g) : ((((((w.setCell ⟨g, 0, none⟩ u0).setCell ⟨g, 1, none⟩ u1).setCell ⟨g, 2, none⟩ u2).setCell ⟨g, 3, none⟩ u3).setCell ⟨g, 4, none⟩ u4).setCell ⟨g, 5, none⟩ u5).cell? ⟨b, o, none⟩ = w.cell? ⟨b, o, none⟩ := by
 rw [Cw _ _ _ _ h, Cw _ _ _ _ h, Cw _ _ _ _ h, Cw _ _ _ _ h, Cw _ _ _ _ h, Cw _ _ _ _ h]
theorem Od {w : World} {g : Nat} (u0 u1 : Value) (b o : Nat) (h : b ≠ g) : ((w.setCell ⟨g, 0, none⟩ u0).setCell ⟨g, 1, none⟩ u1).cell? ⟨b, o, none⟩ = w.cell? ⟨b, o, none⟩ := by
 rw [Cw _ _ _ _ h, Cw _ _ _ _ h]

theorem He (w : World) (o1 : Obj) : (w.alloc o1).heap[w.heap.size]? = some o1 ∧ (w.alloc o1).heap.size = w.heap.size + 1 ∧ Below w.heap.size w (w.alloc o1) :=
 ⟨heap_alloc_new w o1, by simp, (Below.refl _ _).alloc (Nat.le_refl _) _⟩

theorem fw.fit {w : World} {s : Int} {neg : Bool} {A : Option Addr} {cap : Nat} {l : List Nat} {z : Int} {K : Nat} (h : fw w s neg A cap l z) (hz : Wd.Sz dh K z) (hK : K ≤ lim) : l.length ≤ lim := by
 rcases h.form with ⟨h1, _⟩ | ⟨h1, _, _, h2, _⟩
 ·
  omega
 ·
  obtain ⟨n, hn⟩ := h.nat
  have hv : n = z.natAbs := by rw [← h2, hn.val]
  have := hn.len (k := K) (by rw [hv]; exact hz)
  omega
end Go.Proofs.YtfgeaakhlcaibaaGreatDoor
