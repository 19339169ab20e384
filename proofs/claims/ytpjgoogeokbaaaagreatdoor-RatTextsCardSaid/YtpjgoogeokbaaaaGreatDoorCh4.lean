/- Part 4 of the texts beneath a law of layer 1: Int3, IntLim, IntAddC, IntGcd, IntQuo, IntAddA. -/
import Derived.Test.YtpjgoogeokbaaaaGreatDoorCh3
import Derived.Deep.RegionHeld3
import Derived.IntWalk
/- Whole numbers: out of a sign and an amount; comparison. -/
namespace Go.Proofs.YtpjgoogeokbaaaaGreatDoor
open Go.RowKit

theorem below_step {w W w' : World} (h : Below w.heap.size w W) (hb : Below W.heap.size W w') : Below w.heap.size w w' := h.trans (hb.mono h.size)

theorem below_step' {w W w' : World} (h : Below w.heap.size w W) (hb : Below W.heap.size W w') : Below w.heap.size w w' := h.trans (hb.mono h.size)

theorem signed_form {w : World} {A : Option Addr} {cap : Nat} {l : List Nat} {n : Nat} (h : NatV w A cap l n) (hl : 1 < l.length) (neg : Bool) : IntF w 0 neg A cap l (if neg then -(n : Int) else (n : Int)) := by
  have h1 := Wd.norm_ge (B := B64) l h.norm (by rintro rfl; simp at hl)
  have h2 : B64 ^ 1 ≤ B64 ^ (l.length - 1) := Nat.pow_le_pow_right (Nat.lt_trans Nat.zero_lt_one B64_pos) (by omega)
  rw [h.val, ] at h1
  rw [Nat.pow_one] at h2
  have h3 : M63 ≤ n ∧ 0 < n := by
    have : M63 ≤ B64 := by rw [M63_eq, B64_eq]; omega
    have : 0 < B64 := Nat.lt_trans Nat.zero_lt_one B64_pos
    omega
  refine ⟨⟨n, h⟩, .inr ⟨by omega, rfl, ?_, ?_, ?_⟩⟩
  · cases neg <;> simp <;> omega
  · rw [h.val]; cases neg <;> simp
  · cases neg <;> simp <;> exact h3.1

set_option maxRecDepth 100000 in
set_option maxHeartbeats 400000 in
theorem signed_any (neg : Bool) (A : Option Addr) (cap : Nat) (l : List Nat) (n : Nat) (w : World) (h : NatV w A cap l n) :
    Calls Tryz.prog 152 #[.bool neg, .slice A l.length cap] w fun e w' => IntR w (if neg then -(n : Int) else (n : Int)) e w' := by
  have hc1 := h.cap1; have hc2 := h.cap2
  by_cases hl : 1 < l.length
  · have b1 : decide ((1 : Int) < (l.length : Int)) = true := decide_eq_true (by omega)
    have hf := signed_form h hl neg
    obtain ⟨z, hz⟩ : ∃ z, z = if neg then -(n : Int) else (n : Int) := ⟨_, rfl⟩
    rw [← hz] at hf ⊢
    have HF := hide hf
    clear hf hz hl h
    go_enter Tryz.func152, Tryz.ntmps152
    go_wp2_with fail
    exact bodyPost_ret (v := .agg #[.int .i64 0, .bool neg, .slice A l.length cap]) (by simp [results, Tryz.results152, go_sem]) rfl ⟨0, neg, A, cap, l, rfl, (unhide HF).below ((Below.refl _ _).alloc (Nat.le_refl _) _), (Below.refl _ _).alloc (Nat.le_refl _) _⟩
  · have b1 : decide ((1 : Int) < (l.length : Int)) = false := decide_eq_false (by omega)
    obtain ⟨e1, e2⟩ := nat_one h (by omega)
    have hlim := fun W (hW : Below w.heap.size w W) => limb_any A cap l W.heap.size 0 W (h.below hW).ws hc1 hc2 (by omega)
    rw [e1] at hlim
    have HL := hide hlim
    have HW := hide (fun W => word_any neg n e2 W)
    obtain ⟨z, hz⟩ : ∃ z, z = if neg then -(n : Int) else (n : Int) := ⟨_, rfl⟩
    rw [← hz] at HW ⊢
    clear hz hl h e1 e2 hlim
    go_enter Tryz.func152, Tryz.ntmps152
    go_wp2_with fail
    refine ((unhide HL) _ ((Below.refl _ _).alloc (Nat.le_refl _) _)).mono ?_
    rintro e w1 ⟨rfl, rfl⟩
    go_wp2_with fail
    refine ((unhide HW) _).mono ?_
    rintro e w2 ⟨s, neg', A', cap', l', rfl, hf, hb⟩
    obtain ⟨hc, hfz⟩ := bcell hb
    have hsz : w.heap.size < w2.heap.size := by have := hb.size; simp at this; omega
    have hblk : w2.heap[w.heap.size]? = some (.cells #[.int .i64 0, .bool false, .slice none 0 0] 61 (0, 0)) := (hb.block _ (by simp)).trans (heap_alloc_new w _)
    have HBLK := Lib.hid hblk
    clear hblk
    go_wp2_with fail
    exact bodyPost_ret (v := .agg #[.int .i64 s, .bool neg', .slice A' l'.length cap']) (by simp [results, Tryz.results152, go_sem, hc, hsz]) rfl
      ⟨s, neg', A', cap', l', rfl, hf.upto HBLK.out (noWord3 _ _ _ _ _) (set3_grown _ _ _ _ _), (((Below.refl _ _).alloc (Nat.le_refl _) _).trans (hb.mono (by simp))).grown (set3_grown _ _ _ _ _) (by omega) (fun k hk => by injection hk with hk; omega)⟩

theorem IntF.of_small {w : World} {s : Int} {neg : Bool} {A : Option Addr} {cap : Nat} {l : List Nat} {z : Int} (h : IntF w s neg A cap l z) (hl : l.length = 0) : s = z ∧ neg = false ∧ z.natAbs < M63 := by
  rcases h.form with ⟨_, h1, h2, h3⟩ | ⟨h1, _⟩
  · exact ⟨h2, h1, h3⟩
  · omega

set_option maxHeartbeats 400000 in
theorem cmpI_any (x y : Int) (w : World) :
    Calls Tryz.prog 156 #[.int .i64 x, .int .i64 y] w fun e w' => e = .returned (.int .i64 (sgn (x - y))) ∧ w' = w := by
  go_enter Tryz.func156, Tryz.ntmps156
  go_wp2
  · have h : x < y := by assumption
    go_ret
    exact ⟨ret_int (by unfold sgn; rw [if_pos (by omega)]), rfl⟩
  · have h : y < x := by assumption
    go_ret
    exact ⟨ret_int (by unfold sgn; rw [if_neg (by omega), if_pos (by omega)]), rfl⟩
  · have h1 : y ≤ x := by assumption
    have h2 : x ≤ y := by assumption
    go_ret
    exact ⟨ret_int (by unfold sgn; rw [if_neg (by omega), if_neg (by omega)]), rfl⟩

theorem two_new (w : World) (o1 o2 : Obj) : ((w.alloc o1).alloc o2).heap[w.heap.size]? = some o1 ∧ ((w.alloc o1).alloc o2).heap[w.heap.size + 1]? = some o2 ∧ ((w.alloc o1).alloc o2).heap.size = w.heap.size + 2 ∧ Below w.heap.size w ((w.alloc o1).alloc o2) := by
  refine ⟨(Below.heap_alloc _ _ _ (by simp)).trans (heap_alloc_new w o1), ?_, by simp, ((Below.refl _ _).alloc (Nat.le_refl _) _).alloc (by simp) _⟩
  have := heap_alloc_new (w.alloc o1) o2
  rwa [World.size_alloc] at this
theorem three_new (w : World) (o1 o2 o3 : Obj) : (((w.alloc o1).alloc o2).alloc o3).heap[w.heap.size]? = some o1 ∧ (((w.alloc o1).alloc o2).alloc o3).heap[w.heap.size + 1]? = some o2 ∧ (((w.alloc o1).alloc o2).alloc o3).heap[w.heap.size + 1 + 1]? = some o3 ∧ (((w.alloc o1).alloc o2).alloc o3).heap.size = w.heap.size + 3 ∧ Below w.heap.size w (((w.alloc o1).alloc o2).alloc o3) := by
  obtain ⟨h1, h2, h3, h4⟩ := two_new w o1 o2
  refine ⟨(Below.heap_alloc _ _ _ (by omega)).trans h1, (Below.heap_alloc _ _ _ (by omega)).trans h2, ?_, by simp, h4.alloc (by omega) _⟩
  have := heap_alloc_new ((w.alloc o1).alloc o2) o3
  rwa [h3] at this
theorem cells_of {w : World} {b : Nat} {cs : Array Value} {T : TypeId} {fr : Nat × Nat} (h : w.heap[b]? = some (.cells cs T fr)) (i : Nat) : w.cell? ⟨b, i, none⟩ = cs[i]? := by
  simp [World.cell?, h]
theorem three0 (a b c : Value) : #[a, b, c][0]? = some a := rfl
theorem three1 (a b c : Value) : #[a, b, c][1]? = some b := rfl
theorem three2 (a b c : Value) : #[a, b, c][2]? = some c := rfl

theorem sgn_mul_ord {z1 z2 : Int} (h : sgn z1 = sgn z2) : sgn z1 * ord3 z1.natAbs z2.natAbs = sgn (z1 - z2) := by
  unfold sgn ord3 at *
  by_cases a1 : z1 < 0 <;> by_cases a2 : z2 < 0 <;> by_cases a3 : 0 < z1 <;> by_cases a4 : 0 < z2 <;> simp only [a1, a2, a3, a4, if_true, if_false] at h ⊢ <;> try omega
  all_goals
    (repeat' split) <;> omega
theorem sgn_sub {z1 z2 : Int} (h : sgn z1 ≠ sgn z2) : sgn (sgn z1 - sgn z2) = sgn (z1 - z2) := by
  unfold sgn at *
  by_cases a1 : z1 < 0 <;> by_cases a2 : z2 < 0 <;> by_cases a3 : 0 < z1 <;> by_cases a4 : 0 < z2 <;> simp only [a1, a2, a3, a4, if_true, if_false] at h ⊢ <;> first | omega | ((repeat' split) <;> omega)

set_option maxRecDepth 100000 in
set_option maxHeartbeats 1000000 in
theorem icmp_any (s1 : Int) (neg1 : Bool) (A1 : Option Addr) (c1 : Nat) (l1 : List Nat) (z1 : Int) (s2 : Int) (neg2 : Bool) (A2 : Option Addr) (c2 : Nat) (l2 : List Nat) (z2 : Int) (w : World)
    (h1 : IntF w s1 neg1 A1 c1 l1 z1) (h2 : IntF w s2 neg2 A2 c2 l2 z2) :
    Calls Tryz.prog 113 #[.agg #[.int .i64 s1, .bool neg1, .slice A1 l1.length c1], .agg #[.int .i64 s2, .bool neg2, .slice A2 l2.length c2]] w fun e w' => e = .returned (.int .i64 (sgn (z1 - z2))) ∧ Below w.heap.size w w' := by
  have HS1 := hide (fun W => isSmall_any s1 neg1 A1 c1 l1.length W)
  have HS2 := hide (fun W => isSmall_any s2 neg2 A2 c2 l2.length W)
  by_cases hs : l1.length = 0 ∧ l2.length = 0
  · obtain ⟨a1, a2⟩ := hs
    rw [decide_eq_true a1] at HS1
    rw [decide_eq_true a2] at HS2
    have e1 := (h1.of_small a1).1
    have e2 := (h2.of_small a2).1
    subst e1 e2
    have HC := hide (fun W => cmp64_any s1 s2 W)
    clear a1 a2 h1 h2
    go_enter Tryz.func113, Tryz.ntmps113
    go_wp2_with fail
    refine ((unhide HS1) _).mono ?_
    rintro e w1 ⟨rfl, rfl⟩
    go_wp2_with fail
    refine ((unhide HS2) _).mono ?_
    rintro e w1 ⟨rfl, rfl⟩
    go_wp2_with fail
    refine ((unhide HC) _).mono ?_
    rintro e w1 ⟨rfl, rfl⟩
    go_wp2_with fail
    go_ret
    refine ⟨rfl, ?_⟩
    repeat (first | exact Below.refl _ _ | refine Below.drew ?_ | (refine Below.alloc ?_ (by simp <;> omega) _))
  · have hcase : (decide (l1.length = 0) = false) ∨ (decide (l1.length = 0) = true ∧ decide (l2.length = 0) = false) := by
      by_cases h : l1.length = 0
      · exact .inr ⟨decide_eq_true h, decide_eq_false (by omega)⟩
      · exact .inl (decide_eq_false h)
    by_cases hsg : sgn z1 = sgn z2
    · have hne : (sgn z1 != sgn z2) = false := by rw [hsg]; simp
      have hsub := sgn_mul_ord hsg
      have G1 : ∀ W0, Below w.heap.size w W0 → Hid (∀ W, Below W0.heap.size W0 W → Calls Tryz.prog 128 #[.agg #[.int .i64 s1, .bool neg1, .slice A1 l1.length c1]] W fun e w' => e = .returned (.int .i64 (sgn z1)) ∧ Below W.heap.size W w') := fun W0 h0 W hW => sign_any s1 neg1 A1 c1 l1 z1 W (IntF.below h1 (below_step' h0 hW))
      have G2 : ∀ W0, Below w.heap.size w W0 → Hid (∀ W, Below W0.heap.size W0 W → Calls Tryz.prog 128 #[.agg #[.int .i64 s2, .bool neg2, .slice A2 l2.length c2]] W fun e w' => e = .returned (.int .i64 (sgn z2)) ∧ Below W.heap.size W w') := fun W0 h0 W hW => sign_any s2 neg2 A2 c2 l2 z2 W (IntF.below h2 (below_step' h0 hW))
      have B1 : ∀ W0, Below w.heap.size w W0 → Hid (∀ W, Below W0.heap.size W0 W → Calls Tryz.prog 153 #[.agg #[.int .i64 s1, .bool neg1, .slice A1 l1.length c1]] W fun e w' => NatR W z1.natAbs e w') := fun W0 h0 W hW => abs_any s1 neg1 A1 c1 l1 z1 W (IntF.below h1 (below_step' h0 hW))
      have B2 : ∀ W0, Below w.heap.size w W0 → Hid (∀ W, Below W0.heap.size W0 W → Calls Tryz.prog 153 #[.agg #[.int .i64 s2, .bool neg2, .slice A2 l2.length c2]] W fun e w' => NatR W z2.natAbs e w') := fun W0 h0 W hW => abs_any s2 neg2 A2 c2 l2 z2 W (IntF.below h2 (below_step' h0 hW))
      have ho : -1 ≤ sgn z1 * ord3 z1.natAbs z2.natAbs ∧ sgn z1 * ord3 z1.natAbs z2.natAbs ≤ 1 := by rw [hsub]; unfold sgn; (repeat' split) <;> omega
      obtain ⟨m1, hn1⟩ : ∃ o, o = z1.natAbs := ⟨_, rfl⟩
      obtain ⟨m2, hn2⟩ : ∃ o, o = z2.natAbs := ⟨_, rfl⟩
      obtain ⟨o1, ho1⟩ : ∃ o, o = sgn z1 := ⟨_, rfl⟩
      obtain ⟨o2, ho2⟩ : ∃ o, o = sgn z2 := ⟨_, rfl⟩
      rw [← ho1] at G1 hne hsub ho
      rw [← ho2] at G2 hne
      rw [← hn1] at B1 hsub ho
      rw [← hn2] at B2 hsub ho
      obtain ⟨od, hod⟩ : ∃ o, o = ord3 m1 m2 := ⟨_, rfl⟩
      rw [← hod] at hsub ho
      have e1 : IntKind.i64.wrap (o1 * od) = o1 * od := IntWalk.i64_in _ (by omega)
      have HSUB := Lib.hid hsub; have HOD := Lib.hid hod
      have HG1 := hide G1; have HG2 := hide G2; have HB1 := hide B1; have HB2 := hide B2
      clear hsg ho1 ho2 hsub hs G1 G2 B1 B2 h1 h2 hn1 hn2 hod ho
      rcases hcase with hc1 | ⟨hc1, hc2⟩
      · rw [hc1] at HS1
        clear hc1
        go_enter Tryz.func113, Tryz.ntmps113
        go_wp2_with fail
        obtain ⟨n1, n2, hsz, hw0⟩ := two_new w (.cells #[.int .i64 s1, .bool neg1, .slice A1 l1.length c1] 61) (.cells #[.int .i64 s2, .bool neg2, .slice A2 l2.length c2] 61)
        generalize (((w.alloc (.cells #[.int .i64 s1, .bool neg1, .slice A1 l1.length c1] 61)).alloc (.cells #[.int .i64 s2, .bool neg2, .slice A2 l2.length c2] 61))) = W0 at *
        have k1 := cells_of n1 0
        have k2 := cells_of n1 1
        have k3 := cells_of n1 2
        simp only [Array.getElem?_eq_getElem, three0, three1, three2] at k1 k2 k3
        have k4 := cells_of n2 0
        have k5 := cells_of n2 1
        have k6 := cells_of n2 2
        simp only [Array.getElem?_eq_getElem, three0, three1, three2] at k4 k5 k6
        have q0 : w.heap.size < W0.heap.size := by omega
        have q1 : w.heap.size + 1 < W0.heap.size := by omega
        refine ((unhide HS1) _).mono ?_
        rintro e w1 ⟨rfl, hw1⟩
        have hbw : Below W0.heap.size W0 w1 := by rw [hw1]; exact (Below.refl _ _).alloc (Nat.le_refl _) _
        obtain ⟨hc, hfz⟩ := bcell hbw
        clear hw1
        go_wp2_with fail
        have G1 := (unhide HG1) W0 hw0; have G2 := (unhide HG2) W0 hw0; have B1 := (unhide HB1) W0 hw0; have B2 := (unhide HB2) W0 hw0
        go_region_held3 (fun w' => w'.cell? ⟨w.heap.size, 0, none⟩ = some (.int .i64 s1) ∧ w'.cell? ⟨w.heap.size, 1, none⟩ = some (.bool neg1) ∧ w'.cell? ⟨w.heap.size, 2, none⟩ = some (.slice A1 l1.length c1) ∧ w'.cell? ⟨w.heap.size + 1, 0, none⟩ = some (.int .i64 s2) ∧ w'.cell? ⟨w.heap.size + 1, 1, none⟩ = some (.bool neg2) ∧ w'.cell? ⟨w.heap.size + 1, 2, none⟩ = some (.slice A2 l2.length c2)) ((first | exact ⟨(hc _ _ q0).trans k1, (hc _ _ q0).trans k2, (hc _ _ q0).trans k3, (hc _ _ q1).trans k4, (hc _ _ q1).trans k5, (hc _ _ q1).trans k6⟩ | exact ⟨k1, k2, k3, k4, k5, k6⟩)) (first | (go_at_call_of 128 (Value.agg #[.int .i64 s1, .bool neg1, .slice A1 l1.length c1]); refine ((unhide G1) _ (by (first | assumption | (repeat (first | exact Below.refl _ _ | assumption | refine Below.drew ?_ | (refine Below.alloc ?_ (by simp <;> omega) _)))))).mono ?_; rintro e w' ⟨rfl, hb⟩; have hbw := below_step (w := W0) (by (first | assumption | (repeat (first | exact Below.refl _ _ | assumption | refine Below.drew ?_ | (refine Below.alloc ?_ (by simp <;> omega) _))))) hb; obtain ⟨hc, hfz⟩ := bcell hbw) | (go_at_call_of 128 (Value.agg #[.int .i64 s2, .bool neg2, .slice A2 l2.length c2]); refine ((unhide G2) _ (by (first | assumption | (repeat (first | exact Below.refl _ _ | assumption | refine Below.drew ?_ | (refine Below.alloc ?_ (by simp <;> omega) _)))))).mono ?_; rintro e w' ⟨rfl, hb⟩; have hbw := below_step (w := W0) (by (first | assumption | (repeat (first | exact Below.refl _ _ | assumption | refine Below.drew ?_ | (refine Below.alloc ?_ (by simp <;> omega) _))))) hb; obtain ⟨hc, hfz⟩ := bcell hbw))
        go_wp2_with fail
        go_region_held3 (fun w' => w'.cell? ⟨w.heap.size, 0, none⟩ = some (.int .i64 s1) ∧ w'.cell? ⟨w.heap.size, 1, none⟩ = some (.bool neg1) ∧ w'.cell? ⟨w.heap.size, 2, none⟩ = some (.slice A1 l1.length c1) ∧ w'.cell? ⟨w.heap.size + 1, 0, none⟩ = some (.int .i64 s2) ∧ w'.cell? ⟨w.heap.size + 1, 1, none⟩ = some (.bool neg2) ∧ w'.cell? ⟨w.heap.size + 1, 2, none⟩ = some (.slice A2 l2.length c2)) ((first | exact ⟨(hc _ _ q0).trans k1, (hc _ _ q0).trans k2, (hc _ _ q0).trans k3, (hc _ _ q1).trans k4, (hc _ _ q1).trans k5, (hc _ _ q1).trans k6⟩ | exact ⟨k1, k2, k3, k4, k5, k6⟩)) (first | (go_at_call_of 128 (Value.agg #[.int .i64 s1, .bool neg1, .slice A1 l1.length c1]); refine ((unhide G1) _ (by (first | assumption | (repeat (first | exact Below.refl _ _ | assumption | refine Below.drew ?_ | (refine Below.alloc ?_ (by simp <;> omega) _)))))).mono ?_; rintro e w' ⟨rfl, hb⟩; have hbw := below_step (w := W0) (by (first | assumption | (repeat (first | exact Below.refl _ _ | assumption | refine Below.drew ?_ | (refine Below.alloc ?_ (by simp <;> omega) _))))) hb; obtain ⟨hc, hfz⟩ := bcell hbw) | (go_at_call_of 128 (Value.agg #[.int .i64 s2, .bool neg2, .slice A2 l2.length c2]); refine ((unhide G2) _ (by (first | assumption | (repeat (first | exact Below.refl _ _ | assumption | refine Below.drew ?_ | (refine Below.alloc ?_ (by simp <;> omega) _)))))).mono ?_; rintro e w' ⟨rfl, hb⟩; have hbw := below_step (w := W0) (by (first | assumption | (repeat (first | exact Below.refl _ _ | assumption | refine Below.drew ?_ | (refine Below.alloc ?_ (by simp <;> omega) _))))) hb; obtain ⟨hc, hfz⟩ := bcell hbw) | (go_at_call_of 153 (Value.agg #[.int .i64 s1, .bool neg1, .slice A1 l1.length c1]); refine ((unhide B1) _ (by (first | assumption | (repeat (first | exact Below.refl _ _ | assumption | refine Below.drew ?_ | (refine Below.alloc ?_ (by simp <;> omega) _)))))).mono ?_; rintro e w' ⟨A5, cap5, l5, rfl, hn5, hb⟩; have hbw := below_step (w := W0) (by (first | assumption | (repeat (first | exact Below.refl _ _ | assumption | refine Below.drew ?_ | (refine Below.alloc ?_ (by simp <;> omega) _))))) hb; obtain ⟨hc, hfz⟩ := bcell hbw) | (go_at_call_of 153 (Value.agg #[.int .i64 s2, .bool neg2, .slice A2 l2.length c2]); refine ((unhide B2) _ (by (first | assumption | (repeat (first | exact Below.refl _ _ | assumption | refine Below.drew ?_ | (refine Below.alloc ?_ (by simp <;> omega) _)))))).mono ?_; rintro e w' ⟨A6, cap6, l6, rfl, hn6, hb⟩; have hn5' := hn5.below hb; have hbw := below_step (w := W0) (by (first | assumption | (repeat (first | exact Below.refl _ _ | assumption | refine Below.drew ?_ | (refine Below.alloc ?_ (by simp <;> omega) _))))) hb; obtain ⟨hc, hfz⟩ := bcell hbw) | (go_at_call 157; refine (cmp_any A5 A6 cap5 cap6 l5 l6 m1 m2 _ (by exact hn5') (by exact hn6)).mono ?_; rintro e w' ⟨rfl, kd, hw3⟩; subst hw3; rw [← HOD.out]))
        go_wp2_with fail
        go_ret
        exact ⟨ret_int HSUB.out, below_step' hw0 (belowN (by (first | assumption | (repeat (first | exact Below.refl _ _ | assumption | refine Below.drew ?_ | (refine Below.alloc ?_ (by simp <;> omega) _))))) _)⟩
      · rw [hc1] at HS1
        rw [hc2] at HS2
        clear hc1 hc2
        go_enter Tryz.func113, Tryz.ntmps113
        go_wp2_with fail
        obtain ⟨n1, n2, hsz, hw0⟩ := two_new w (.cells #[.int .i64 s1, .bool neg1, .slice A1 l1.length c1] 61) (.cells #[.int .i64 s2, .bool neg2, .slice A2 l2.length c2] 61)
        generalize (((w.alloc (.cells #[.int .i64 s1, .bool neg1, .slice A1 l1.length c1] 61)).alloc (.cells #[.int .i64 s2, .bool neg2, .slice A2 l2.length c2] 61))) = W0 at *
        have k1 := cells_of n1 0
        have k2 := cells_of n1 1
        have k3 := cells_of n1 2
        simp only [Array.getElem?_eq_getElem, three0, three1, three2] at k1 k2 k3
        have k4 := cells_of n2 0
        have k5 := cells_of n2 1
        have k6 := cells_of n2 2
        simp only [Array.getElem?_eq_getElem, three0, three1, three2] at k4 k5 k6
        have q0 : w.heap.size < W0.heap.size := by omega
        have q1 : w.heap.size + 1 < W0.heap.size := by omega
        refine ((unhide HS1) _).mono ?_
        rintro e w1 ⟨rfl, hw1⟩
        have hbw : Below W0.heap.size W0 w1 := by rw [hw1]; exact (Below.refl _ _).alloc (Nat.le_refl _) _
        obtain ⟨hc, hfz⟩ := bcell hbw
        clear hw1
        go_wp2_with fail
        refine ((unhide HS2) _).mono ?_
        rintro e w2 ⟨rfl, hw2⟩
        have hbw2 : Below W0.heap.size W0 w2 := by rw [hw2]; exact hbw.alloc hbw.size _
        clear hc hfz
        obtain ⟨hc, hfz⟩ := bcell hbw2
        clear hw2
        go_wp2_with fail
        have G1 := (unhide HG1) W0 hw0; have G2 := (unhide HG2) W0 hw0; have B1 := (unhide HB1) W0 hw0; have B2 := (unhide HB2) W0 hw0
        go_region_held3 (fun w' => w'.cell? ⟨w.heap.size, 0, none⟩ = some (.int .i64 s1) ∧ w'.cell? ⟨w.heap.size, 1, none⟩ = some (.bool neg1) ∧ w'.cell? ⟨w.heap.size, 2, none⟩ = some (.slice A1 l1.length c1) ∧ w'.cell? ⟨w.heap.size + 1, 0, none⟩ = some (.int .i64 s2) ∧ w'.cell? ⟨w.heap.size + 1, 1, none⟩ = some (.bool neg2) ∧ w'.cell? ⟨w.heap.size + 1, 2, none⟩ = some (.slice A2 l2.length c2)) ((first | exact ⟨(hc _ _ q0).trans k1, (hc _ _ q0).trans k2, (hc _ _ q0).trans k3, (hc _ _ q1).trans k4, (hc _ _ q1).trans k5, (hc _ _ q1).trans k6⟩ | exact ⟨k1, k2, k3, k4, k5, k6⟩)) (first | (go_at_call_of 128 (Value.agg #[.int .i64 s1, .bool neg1, .slice A1 l1.length c1]); refine ((unhide G1) _ (by (first | assumption | (repeat (first | exact Below.refl _ _ | assumption | refine Below.drew ?_ | (refine Below.alloc ?_ (by simp <;> omega) _)))))).mono ?_; rintro e w' ⟨rfl, hb⟩; have hbw := below_step (w := W0) (by (first | assumption | (repeat (first | exact Below.refl _ _ | assumption | refine Below.drew ?_ | (refine Below.alloc ?_ (by simp <;> omega) _))))) hb; obtain ⟨hc, hfz⟩ := bcell hbw) | (go_at_call_of 128 (Value.agg #[.int .i64 s2, .bool neg2, .slice A2 l2.length c2]); refine ((unhide G2) _ (by (first | assumption | (repeat (first | exact Below.refl _ _ | assumption | refine Below.drew ?_ | (refine Below.alloc ?_ (by simp <;> omega) _)))))).mono ?_; rintro e w' ⟨rfl, hb⟩; have hbw := below_step (w := W0) (by (first | assumption | (repeat (first | exact Below.refl _ _ | assumption | refine Below.drew ?_ | (refine Below.alloc ?_ (by simp <;> omega) _))))) hb; obtain ⟨hc, hfz⟩ := bcell hbw))
        go_wp2_with fail
        go_region_held3 (fun w' => w'.cell? ⟨w.heap.size, 0, none⟩ = some (.int .i64 s1) ∧ w'.cell? ⟨w.heap.size, 1, none⟩ = some (.bool neg1) ∧ w'.cell? ⟨w.heap.size, 2, none⟩ = some (.slice A1 l1.length c1) ∧ w'.cell? ⟨w.heap.size + 1, 0, none⟩ = some (.int .i64 s2) ∧ w'.cell? ⟨w.heap.size + 1, 1, none⟩ = some (.bool neg2) ∧ w'.cell? ⟨w.heap.size + 1, 2, none⟩ = some (.slice A2 l2.length c2)) ((first | exact ⟨(hc _ _ q0).trans k1, (hc _ _ q0).trans k2, (hc _ _ q0).trans k3, (hc _ _ q1).trans k4, (hc _ _ q1).trans k5, (hc _ _ q1).trans k6⟩ | exact ⟨k1, k2, k3, k4, k5, k6⟩)) (first | (go_at_call_of 128 (Value.agg #[.int .i64 s1, .bool neg1, .slice A1 l1.length c1]); refine ((unhide G1) _ (by (first | assumption | (repeat (first | exact Below.refl _ _ | assumption | refine Below.drew ?_ | (refine Below.alloc ?_ (by simp <;> omega) _)))))).mono ?_; rintro e w' ⟨rfl, hb⟩; have hbw := below_step (w := W0) (by (first | assumption | (repeat (first | exact Below.refl _ _ | assumption | refine Below.drew ?_ | (refine Below.alloc ?_ (by simp <;> omega) _))))) hb; obtain ⟨hc, hfz⟩ := bcell hbw) | (go_at_call_of 128 (Value.agg #[.int .i64 s2, .bool neg2, .slice A2 l2.length c2]); refine ((unhide G2) _ (by (first | assumption | (repeat (first | exact Below.refl _ _ | assumption | refine Below.drew ?_ | (refine Below.alloc ?_ (by simp <;> omega) _)))))).mono ?_; rintro e w' ⟨rfl, hb⟩; have hbw := below_step (w := W0) (by (first | assumption | (repeat (first | exact Below.refl _ _ | assumption | refine Below.drew ?_ | (refine Below.alloc ?_ (by simp <;> omega) _))))) hb; obtain ⟨hc, hfz⟩ := bcell hbw) | (go_at_call_of 153 (Value.agg #[.int .i64 s1, .bool neg1, .slice A1 l1.length c1]); refine ((unhide B1) _ (by (first | assumption | (repeat (first | exact Below.refl _ _ | assumption | refine Below.drew ?_ | (refine Below.alloc ?_ (by simp <;> omega) _)))))).mono ?_; rintro e w' ⟨A5, cap5, l5, rfl, hn5, hb⟩; have hbw := below_step (w := W0) (by (first | assumption | (repeat (first | exact Below.refl _ _ | assumption | refine Below.drew ?_ | (refine Below.alloc ?_ (by simp <;> omega) _))))) hb; obtain ⟨hc, hfz⟩ := bcell hbw) | (go_at_call_of 153 (Value.agg #[.int .i64 s2, .bool neg2, .slice A2 l2.length c2]); refine ((unhide B2) _ (by (first | assumption | (repeat (first | exact Below.refl _ _ | assumption | refine Below.drew ?_ | (refine Below.alloc ?_ (by simp <;> omega) _)))))).mono ?_; rintro e w' ⟨A6, cap6, l6, rfl, hn6, hb⟩; have hn5' := hn5.below hb; have hbw := below_step (w := W0) (by (first | assumption | (repeat (first | exact Below.refl _ _ | assumption | refine Below.drew ?_ | (refine Below.alloc ?_ (by simp <;> omega) _))))) hb; obtain ⟨hc, hfz⟩ := bcell hbw) | (go_at_call 157; refine (cmp_any A5 A6 cap5 cap6 l5 l6 m1 m2 _ (by exact hn5') (by exact hn6)).mono ?_; rintro e w' ⟨rfl, kd, hw3⟩; subst hw3; rw [← HOD.out]))
        go_wp2_with fail
        go_ret
        exact ⟨ret_int HSUB.out, below_step' hw0 (belowN (by (first | assumption | (repeat (first | exact Below.refl _ _ | assumption | refine Below.drew ?_ | (refine Below.alloc ?_ (by simp <;> omega) _))))) _)⟩
    · have hne : (sgn z1 != sgn z2) = true := bne_iff_ne.2 hsg
      have hsub := sgn_sub hsg
      obtain ⟨o1, ho1⟩ : ∃ o, o = sgn z1 := ⟨_, rfl⟩
      obtain ⟨o2, ho2⟩ : ∃ o, o = sgn z2 := ⟨_, rfl⟩
      have G1 : ∀ W0, Below w.heap.size w W0 → Hid (∀ W, Below W0.heap.size W0 W → Calls Tryz.prog 128 #[.agg #[.int .i64 s1, .bool neg1, .slice A1 l1.length c1]] W fun e w' => e = .returned (.int .i64 (sgn z1)) ∧ Below W.heap.size W w') := fun W0 h0 W hW => sign_any s1 neg1 A1 c1 l1 z1 W (IntF.below h1 (below_step' h0 hW))
      have G2 : ∀ W0, Below w.heap.size w W0 → Hid (∀ W, Below W0.heap.size W0 W → Calls Tryz.prog 128 #[.agg #[.int .i64 s2, .bool neg2, .slice A2 l2.length c2]] W fun e w' => e = .returned (.int .i64 (sgn z2)) ∧ Below W.heap.size W w') := fun W0 h0 W hW => sign_any s2 neg2 A2 c2 l2 z2 W (IntF.below h2 (below_step' h0 hW))
      rw [← ho1] at G1 hne hsub
      rw [← ho2] at G2 hne hsub
      have HSUB := Lib.hid hsub
      have HG1 := hide G1; have HG2 := hide G2
      have HCI := hide (fun W => cmpI_any o1 o2 W)
      clear hsg ho1 ho2 hsub hs G1 G2 h1 h2
      rcases hcase with hc1 | ⟨hc1, hc2⟩
      · rw [hc1] at HS1
        clear hc1
        go_enter Tryz.func113, Tryz.ntmps113
        go_wp2_with fail
        obtain ⟨n1, n2, hsz, hw0⟩ := two_new w (.cells #[.int .i64 s1, .bool neg1, .slice A1 l1.length c1] 61) (.cells #[.int .i64 s2, .bool neg2, .slice A2 l2.length c2] 61)
        generalize (((w.alloc (.cells #[.int .i64 s1, .bool neg1, .slice A1 l1.length c1] 61)).alloc (.cells #[.int .i64 s2, .bool neg2, .slice A2 l2.length c2] 61))) = W0 at *
        have k1 := cells_of n1 0
        have k2 := cells_of n1 1
        have k3 := cells_of n1 2
        simp only [Array.getElem?_eq_getElem, three0, three1, three2] at k1 k2 k3
        have k4 := cells_of n2 0
        have k5 := cells_of n2 1
        have k6 := cells_of n2 2
        simp only [Array.getElem?_eq_getElem, three0, three1, three2] at k4 k5 k6
        have q0 : w.heap.size < W0.heap.size := by omega
        have q1 : w.heap.size + 1 < W0.heap.size := by omega
        refine ((unhide HS1) _).mono ?_
        rintro e w1 ⟨rfl, hw1⟩
        have hbw : Below W0.heap.size W0 w1 := by rw [hw1]; exact (Below.refl _ _).alloc (Nat.le_refl _) _
        obtain ⟨hc, hfz⟩ := bcell hbw
        clear hw1
        go_wp2_with fail
        have G1 := (unhide HG1) W0 hw0; have G2 := (unhide HG2) W0 hw0
        go_region_held3 (fun w' => w'.cell? ⟨w.heap.size, 0, none⟩ = some (.int .i64 s1) ∧ w'.cell? ⟨w.heap.size, 1, none⟩ = some (.bool neg1) ∧ w'.cell? ⟨w.heap.size, 2, none⟩ = some (.slice A1 l1.length c1) ∧ w'.cell? ⟨w.heap.size + 1, 0, none⟩ = some (.int .i64 s2) ∧ w'.cell? ⟨w.heap.size + 1, 1, none⟩ = some (.bool neg2) ∧ w'.cell? ⟨w.heap.size + 1, 2, none⟩ = some (.slice A2 l2.length c2)) ((first | exact ⟨(hc _ _ q0).trans k1, (hc _ _ q0).trans k2, (hc _ _ q0).trans k3, (hc _ _ q1).trans k4, (hc _ _ q1).trans k5, (hc _ _ q1).trans k6⟩ | exact ⟨k1, k2, k3, k4, k5, k6⟩)) (first | (go_at_call_of 128 (Value.agg #[.int .i64 s1, .bool neg1, .slice A1 l1.length c1]); refine ((unhide G1) _ (by (first | assumption | (repeat (first | exact Below.refl _ _ | assumption | refine Below.drew ?_ | (refine Below.alloc ?_ (by simp <;> omega) _)))))).mono ?_; rintro e w' ⟨rfl, hb⟩; have hbw := below_step (w := W0) (by (first | assumption | (repeat (first | exact Below.refl _ _ | assumption | refine Below.drew ?_ | (refine Below.alloc ?_ (by simp <;> omega) _))))) hb; obtain ⟨hc, hfz⟩ := bcell hbw) | (go_at_call_of 128 (Value.agg #[.int .i64 s2, .bool neg2, .slice A2 l2.length c2]); refine ((unhide G2) _ (by (first | assumption | (repeat (first | exact Below.refl _ _ | assumption | refine Below.drew ?_ | (refine Below.alloc ?_ (by simp <;> omega) _)))))).mono ?_; rintro e w' ⟨rfl, hb⟩; have hbw := below_step (w := W0) (by (first | assumption | (repeat (first | exact Below.refl _ _ | assumption | refine Below.drew ?_ | (refine Below.alloc ?_ (by simp <;> omega) _))))) hb; obtain ⟨hc, hfz⟩ := bcell hbw))
        go_wp2_with fail
        go_region_held3 (fun w' => w'.cell? ⟨w.heap.size, 0, none⟩ = some (.int .i64 s1) ∧ w'.cell? ⟨w.heap.size, 1, none⟩ = some (.bool neg1) ∧ w'.cell? ⟨w.heap.size, 2, none⟩ = some (.slice A1 l1.length c1) ∧ w'.cell? ⟨w.heap.size + 1, 0, none⟩ = some (.int .i64 s2) ∧ w'.cell? ⟨w.heap.size + 1, 1, none⟩ = some (.bool neg2) ∧ w'.cell? ⟨w.heap.size + 1, 2, none⟩ = some (.slice A2 l2.length c2)) ((first | exact ⟨(hc _ _ q0).trans k1, (hc _ _ q0).trans k2, (hc _ _ q0).trans k3, (hc _ _ q1).trans k4, (hc _ _ q1).trans k5, (hc _ _ q1).trans k6⟩ | exact ⟨k1, k2, k3, k4, k5, k6⟩)) (first | (go_at_call_of 128 (Value.agg #[.int .i64 s1, .bool neg1, .slice A1 l1.length c1]); refine ((unhide G1) _ (by (first | assumption | (repeat (first | exact Below.refl _ _ | assumption | refine Below.drew ?_ | (refine Below.alloc ?_ (by simp <;> omega) _)))))).mono ?_; rintro e w' ⟨rfl, hb⟩; have hbw := below_step (w := W0) (by (first | assumption | (repeat (first | exact Below.refl _ _ | assumption | refine Below.drew ?_ | (refine Below.alloc ?_ (by simp <;> omega) _))))) hb; obtain ⟨hc, hfz⟩ := bcell hbw) | (go_at_call_of 128 (Value.agg #[.int .i64 s2, .bool neg2, .slice A2 l2.length c2]); refine ((unhide G2) _ (by (first | assumption | (repeat (first | exact Below.refl _ _ | assumption | refine Below.drew ?_ | (refine Below.alloc ?_ (by simp <;> omega) _)))))).mono ?_; rintro e w' ⟨rfl, hb⟩; have hbw := below_step (w := W0) (by (first | assumption | (repeat (first | exact Below.refl _ _ | assumption | refine Below.drew ?_ | (refine Below.alloc ?_ (by simp <;> omega) _))))) hb; obtain ⟨hc, hfz⟩ := bcell hbw) | (go_at_call 156; refine ((unhide HCI) _).mono ?_; rintro e w' ⟨rfl, hw3⟩; subst hw3))
        go_wp2_with fail
        go_ret
        exact ⟨ret_int HSUB.out, below_step' hw0 (by (first | assumption | (repeat (first | exact Below.refl _ _ | assumption | refine Below.drew ?_ | (refine Below.alloc ?_ (by simp <;> omega) _)))))⟩
      · rw [hc1] at HS1
        rw [hc2] at HS2
        clear hc1 hc2
        go_enter Tryz.func113, Tryz.ntmps113
        go_wp2_with fail
        obtain ⟨n1, n2, hsz, hw0⟩ := two_new w (.cells #[.int .i64 s1, .bool neg1, .slice A1 l1.length c1] 61) (.cells #[.int .i64 s2, .bool neg2, .slice A2 l2.length c2] 61)
        generalize (((w.alloc (.cells #[.int .i64 s1, .bool neg1, .slice A1 l1.length c1] 61)).alloc (.cells #[.int .i64 s2, .bool neg2, .slice A2 l2.length c2] 61))) = W0 at *
        have k1 := cells_of n1 0
        have k2 := cells_of n1 1
        have k3 := cells_of n1 2
        simp only [Array.getElem?_eq_getElem, three0, three1, three2] at k1 k2 k3
        have k4 := cells_of n2 0
        have k5 := cells_of n2 1
        have k6 := cells_of n2 2
        simp only [Array.getElem?_eq_getElem, three0, three1, three2] at k4 k5 k6
        have q0 : w.heap.size < W0.heap.size := by omega
        have q1 : w.heap.size + 1 < W0.heap.size := by omega
        refine ((unhide HS1) _).mono ?_
        rintro e w1 ⟨rfl, hw1⟩
        have hbw : Below W0.heap.size W0 w1 := by rw [hw1]; exact (Below.refl _ _).alloc (Nat.le_refl _) _
        obtain ⟨hc, hfz⟩ := bcell hbw
        clear hw1
        go_wp2_with fail
        refine ((unhide HS2) _).mono ?_
        rintro e w2 ⟨rfl, hw2⟩
        have hbw2 : Below W0.heap.size W0 w2 := by rw [hw2]; exact hbw.alloc hbw.size _
        clear hc hfz
        obtain ⟨hc, hfz⟩ := bcell hbw2
        clear hw2
        go_wp2_with fail
        have G1 := (unhide HG1) W0 hw0; have G2 := (unhide HG2) W0 hw0
        go_region_held3 (fun w' => w'.cell? ⟨w.heap.size, 0, none⟩ = some (.int .i64 s1) ∧ w'.cell? ⟨w.heap.size, 1, none⟩ = some (.bool neg1) ∧ w'.cell? ⟨w.heap.size, 2, none⟩ = some (.slice A1 l1.length c1) ∧ w'.cell? ⟨w.heap.size + 1, 0, none⟩ = some (.int .i64 s2) ∧ w'.cell? ⟨w.heap.size + 1, 1, none⟩ = some (.bool neg2) ∧ w'.cell? ⟨w.heap.size + 1, 2, none⟩ = some (.slice A2 l2.length c2)) ((first | exact ⟨(hc _ _ q0).trans k1, (hc _ _ q0).trans k2, (hc _ _ q0).trans k3, (hc _ _ q1).trans k4, (hc _ _ q1).trans k5, (hc _ _ q1).trans k6⟩ | exact ⟨k1, k2, k3, k4, k5, k6⟩)) (first | (go_at_call_of 128 (Value.agg #[.int .i64 s1, .bool neg1, .slice A1 l1.length c1]); refine ((unhide G1) _ (by (first | assumption | (repeat (first | exact Below.refl _ _ | assumption | refine Below.drew ?_ | (refine Below.alloc ?_ (by simp <;> omega) _)))))).mono ?_; rintro e w' ⟨rfl, hb⟩; have hbw := below_step (w := W0) (by (first | assumption | (repeat (first | exact Below.refl _ _ | assumption | refine Below.drew ?_ | (refine Below.alloc ?_ (by simp <;> omega) _))))) hb; obtain ⟨hc, hfz⟩ := bcell hbw) | (go_at_call_of 128 (Value.agg #[.int .i64 s2, .bool neg2, .slice A2 l2.length c2]); refine ((unhide G2) _ (by (first | assumption | (repeat (first | exact Below.refl _ _ | assumption | refine Below.drew ?_ | (refine Below.alloc ?_ (by simp <;> omega) _)))))).mono ?_; rintro e w' ⟨rfl, hb⟩; have hbw := below_step (w := W0) (by (first | assumption | (repeat (first | exact Below.refl _ _ | assumption | refine Below.drew ?_ | (refine Below.alloc ?_ (by simp <;> omega) _))))) hb; obtain ⟨hc, hfz⟩ := bcell hbw))
        go_wp2_with fail
        go_region_held3 (fun w' => w'.cell? ⟨w.heap.size, 0, none⟩ = some (.int .i64 s1) ∧ w'.cell? ⟨w.heap.size, 1, none⟩ = some (.bool neg1) ∧ w'.cell? ⟨w.heap.size, 2, none⟩ = some (.slice A1 l1.length c1) ∧ w'.cell? ⟨w.heap.size + 1, 0, none⟩ = some (.int .i64 s2) ∧ w'.cell? ⟨w.heap.size + 1, 1, none⟩ = some (.bool neg2) ∧ w'.cell? ⟨w.heap.size + 1, 2, none⟩ = some (.slice A2 l2.length c2)) ((first | exact ⟨(hc _ _ q0).trans k1, (hc _ _ q0).trans k2, (hc _ _ q0).trans k3, (hc _ _ q1).trans k4, (hc _ _ q1).trans k5, (hc _ _ q1).trans k6⟩ | exact ⟨k1, k2, k3, k4, k5, k6⟩)) (first | (go_at_call_of 128 (Value.agg #[.int .i64 s1, .bool neg1, .slice A1 l1.length c1]); refine ((unhide G1) _ (by (first | assumption | (repeat (first | exact Below.refl _ _ | assumption | refine Below.drew ?_ | (refine Below.alloc ?_ (by simp <;> omega) _)))))).mono ?_; rintro e w' ⟨rfl, hb⟩; have hbw := below_step (w := W0) (by (first | assumption | (repeat (first | exact Below.refl _ _ | assumption | refine Below.drew ?_ | (refine Below.alloc ?_ (by simp <;> omega) _))))) hb; obtain ⟨hc, hfz⟩ := bcell hbw) | (go_at_call_of 128 (Value.agg #[.int .i64 s2, .bool neg2, .slice A2 l2.length c2]); refine ((unhide G2) _ (by (first | assumption | (repeat (first | exact Below.refl _ _ | assumption | refine Below.drew ?_ | (refine Below.alloc ?_ (by simp <;> omega) _)))))).mono ?_; rintro e w' ⟨rfl, hb⟩; have hbw := below_step (w := W0) (by (first | assumption | (repeat (first | exact Below.refl _ _ | assumption | refine Below.drew ?_ | (refine Below.alloc ?_ (by simp <;> omega) _))))) hb; obtain ⟨hc, hfz⟩ := bcell hbw) | (go_at_call 156; refine ((unhide HCI) _).mono ?_; rintro e w' ⟨rfl, hw3⟩; subst hw3))
        go_wp2_with fail
        go_ret
        exact ⟨ret_int HSUB.out, below_step' hw0 (by (first | assumption | (repeat (first | exact Below.refl _ _ | assumption | refine Below.drew ?_ | (refine Below.alloc ?_ (by simp <;> omega) _)))))⟩
end Go.Proofs.YtpjgoogeokbaaaaGreatDoor
/- What the walks over whole numbers share: marks, signs of products, lengths of the words. -/
namespace Go.Proofs.YtpjgoogeokbaaaaGreatDoor
open Go.RowKit

theorem unfrozen_of {w : World} {b : Nat} {cs : Array Value} {T : TypeId} (h : w.heap[b]? = some (.cells cs T (0, 0))) (i : Nat) : w.frozen? ⟨b, i, none⟩ = false := by
  simp [World.frozen?, h]

theorem below_eq {w W w1 : World} {o : Obj} (h : Below w.heap.size w W) (e : w1 = W.alloc o) : Below w.heap.size w w1 := by subst e; exact h.alloc h.size _

theorem sgn_mul_sign (z1 z2 : Int) : (if decide (sgn z1 * sgn z2 < 0) = true then -((z1.natAbs * z2.natAbs : Nat) : Int) else ((z1.natAbs * z2.natAbs : Nat) : Int)) = z1 * z2 := by
  rw [Int.natCast_mul]
  rcases Int.lt_trichotomy z1 0 with a | a | a <;> rcases Int.lt_trichotomy z2 0 with b | b | b
  all_goals
    first
      | (subst a; simp [sgn])
      | (subst b; simp [sgn])
      | skip
  all_goals
    simp only [sgn, a, b, if_true, if_neg (Int.not_lt.2 (Int.le_of_lt a)), if_neg (Int.not_lt.2 (Int.le_of_lt b))]
  · rw [Int.ofNat_natAbs_of_nonpos (by omega), Int.ofNat_natAbs_of_nonpos (by omega)]; simp [Int.neg_mul_neg]
  · rw [Int.ofNat_natAbs_of_nonpos (by omega), Int.natAbs_of_nonneg (by omega)]; simp [Int.neg_mul]
  · rw [Int.natAbs_of_nonneg (by omega), Int.ofNat_natAbs_of_nonpos (by omega)]; simp [Int.mul_neg]
  · rw [Int.natAbs_of_nonneg (by omega), Int.natAbs_of_nonneg (by omega)]; simp

theorem IntF.amount_len {w : World} {s : Int} {neg : Bool} {A : Option Addr} {cap : Nat} {l : List Nat} {z : Int} (h : IntF w s neg A cap l z) : z.natAbs < B64 ^ (max 1 l.length) := by
  rcases h.form with ⟨h1, _, _, h2⟩ | ⟨h1, _, _, h2, _⟩
  · have : M63 < B64 := by rw [M63_eq, B64_eq]; omega
    have h3 : B64 ^ 1 ≤ B64 ^ (max 1 l.length) := Nat.pow_le_pow_right (Nat.lt_trans Nat.zero_lt_one B64_pos) (by omega)
    rw [Nat.pow_one] at h3
    omega
  · obtain ⟨n, hn⟩ := h.nat
    rw [← h2]
    have h3 := Wd.val_lt (B := B64) l hn.lt
    have h4 : B64 ^ l.length ≤ B64 ^ (max 1 l.length) := Nat.pow_le_pow_right (Nat.lt_trans Nat.zero_lt_one B64_pos) (by omega)
    omega


theorem IntF.len_lim {w W : World} {s : Int} {neg : Bool} {A A' : Option Addr} {cap cap' : Nat} {l l' : List Nat} {z : Int} (h : IntF w s neg A cap l z) (hl : l.length ≤ lim) (g : NatV W A' cap' l' z.natAbs) : l'.length ≤ lim ∧ l'.length + 1 ≤ 35184372088832 := by
  have := g.len h.amount_len
  rw [lim_eq] at hl ⊢
  omega

theorem NatV.drew {w : World} {A : Option Addr} {cap : Nat} {l : List Nat} {n : Nat} (h : NatV w A cap l n) : NatV w.drew A cap l n := h.below ((Below.refl _ _).drew)
end Go.Proofs.YtpjgoogeokbaaaaGreatDoor
/- The sign of a whole number. -/
namespace Go.Proofs.YtpjgoogeokbaaaaGreatDoor
open Go.RowKit

theorem cell_set3 {w : World} {g : Nat} (u0 u1 u2 : Value) (b o : Nat) (h : b ≠ g) : (((w.setCell ⟨g, 0, none⟩ u0).setCell ⟨g, 1, none⟩ u1).setCell ⟨g, 2, none⟩ u2).cell? ⟨b, o, none⟩ = w.cell? ⟨b, o, none⟩ := by
  rw [World.cell?_setCell_other _ _ _ _ (by intro e; injection e with e1; exact h (by first | exact e1 | exact e1.symm)), World.cell?_setCell_other _ _ _ _ (by intro e; injection e with e1; exact h (by first | exact e1 | exact e1.symm)), World.cell?_setCell_other _ _ _ _ (by intro e; injection e with e1; exact h (by first | exact e1 | exact e1.symm))]
theorem sgn_neg (z : Int) : sgn z < 0 ↔ z < 0 := by unfold sgn; (repeat' split) <;> omega

end Go.Proofs.YtpjgoogeokbaaaaGreatDoor
/- The greatest common divisor of whole numbers. -/
namespace Go.Proofs.YtpjgoogeokbaaaaGreatDoor
open Go.RowKit

set_option maxRecDepth 100000 in
set_option maxHeartbeats 4000000 in
theorem igcd_any (s1 : Int) (neg1 : Bool) (A1 : Option Addr) (c1 : Nat) (l1 : List Nat) (z1 : Int) (s2 : Int) (neg2 : Bool) (A2 : Option Addr) (c2 : Nat) (l2 : List Nat) (z2 : Int) (w : World)
    (h1 : IntF w s1 neg1 A1 c1 l1 z1) (h2 : IntF w s2 neg2 A2 c2 l2 z2) (hl1 : l1.length ≤ lim) (hl2 : l2.length ≤ lim) (hT : Tab w) :
    Calls Tryz.prog 124 #[.agg #[.int .i64 s1, .bool neg1, .slice A1 l1.length c1], .agg #[.int .i64 s2, .bool neg2, .slice A2 l2.length c2]] w fun e w' => IntR w ((z1.natAbs.gcd z2.natAbs : Nat) : Int) e w' := by
  have HS1 := hide (fun W => isSmall_any s1 neg1 A1 c1 l1.length W)
  have HS2 := hide (fun W => isSmall_any s2 neg2 A2 c2 l2.length W)
  have LEN : ∀ (W : World) (A5 : Option Addr) (c5 : Nat) (l5 : List Nat) (_ : Unit), NatV W A5 c5 l5 z1.natAbs → l5.length ≤ lim ∧ l5.length + 1 ≤ 35184372088832 := fun _ _ _ _ _ g => h1.len_lim hl1 g
  have LEN2 : ∀ (W : World) (A5 : Option Addr) (c5 : Nat) (l5 : List Nat) (_ : Unit), NatV W A5 c5 l5 z2.natAbs → l5.length ≤ lim ∧ l5.length + 1 ≤ 35184372088832 := fun _ _ _ _ _ g => h2.len_lim hl2 g
  have B1 : ∀ W0, Below w.heap.size w W0 → Hid (∀ W, Below W0.heap.size W0 W → Calls Tryz.prog 153 #[.agg #[.int .i64 s1, .bool neg1, .slice A1 l1.length c1]] W fun e w' => NatR W z1.natAbs e w') := fun W0 h0 W hW => abs_any s1 neg1 A1 c1 l1 z1 W (IntF.below h1 (below_step' h0 hW))
  have B2 : ∀ W0, Below w.heap.size w W0 → Hid (∀ W, Below W0.heap.size W0 W → Calls Tryz.prog 153 #[.agg #[.int .i64 s2, .bool neg2, .slice A2 l2.length c2]] W fun e w' => NatR W z2.natAbs e w') := fun W0 h0 W hW => abs_any s2 neg2 A2 c2 l2 z2 W (IntF.below h2 (below_step' h0 hW))
  have T0 : ∀ W0, Below w.heap.size w W0 → Hid (∀ W, Below W0.heap.size W0 W → Tab W) := fun W0 h0 W hW => hT.below (below_step' h0 hW)
  have hbnd1 := h1.bounds
  have hbnd2 := h2.bounds
  have hsz1 : l1.length = 0 → s1.natAbs = z1.natAbs ∧ z1.natAbs < M63 := fun h => by obtain ⟨e, _, e3⟩ := h1.of_small h; rw [e]; exact ⟨rfl, e3⟩
  have hsz2 : l2.length = 0 → s2.natAbs = z2.natAbs ∧ z2.natAbs < M63 := fun h => by obtain ⟨e, _, e3⟩ := h2.of_small h; rw [e]; exact ⟨rfl, e3⟩
  have Z1 := hide (fun W => size_any s1 hbnd1.1 hbnd1.2 W)
  have Z2 := hide (fun W => size_any s2 hbnd2.1 hbnd2.2 W)
  obtain ⟨m1, hm1⟩ : ∃ o, o = z1.natAbs := ⟨_, rfl⟩
  obtain ⟨m2, hm2⟩ : ∃ o, o = z2.natAbs := ⟨_, rfl⟩
  rw [← hm1] at B1 LEN hsz1 ⊢
  rw [← hm2] at B2 LEN2 hsz2 ⊢
  have HB1 := hide B1; have HB2 := hide B2; have HLEN := hide LEN; have HLEN2 := hide LEN2; have HTT := hide T0
  clear hm1 hm2 B1 B2 h1 h2 hbnd1 hbnd2 LEN LEN2 hl1 hl2 T0 hT
  by_cases hs : l1.length = 0 ∧ l2.length = 0
  · obtain ⟨a1, a2⟩ := hs
    rw [decide_eq_true a1] at HS1
    rw [decide_eq_true a2] at HS2
    obtain ⟨y1, y2⟩ := hsz1 a1
    obtain ⟨y3, y4⟩ := hsz2 a2
    rw [y1] at Z1
    rw [y3] at Z2
    have hB1 : m1 < B64 := by have := y2; rw [M63_eq] at this; rw [B64_eq]; omega
    have hB2 : m2 < B64 := by have := y4; rw [M63_eq] at this; rw [B64_eq]; omega
    have HM := hide (fun W => gcd64_any m1 m2 hB1 hB2 W)
    have hgB : m1.gcd m2 < B64 := by
      rcases Nat.eq_zero_or_pos m1 with h | h
      · rw [h, Nat.gcd_zero_left]; exact hB2
      · exact Nat.lt_of_le_of_lt (Nat.gcd_le_left _ h) hB1
    have HW : Hid (∀ W, Calls Tryz.prog 147 #[.bool false, .int .u64 ((m1.gcd m2 : Nat) : Int)] W fun e w' => IntR W ((m1.gcd m2 : Nat) : Int) e w') := hide (fun W => by
      have := word_any false (m1.gcd m2) hgB W
      rw [if_neg Bool.false_ne_true] at this; exact this)
    clear hgB hB1 hB2 y1 y2 y3 y4 hsz1 hsz2 a1 a2
    obtain ⟨g, hg⟩ : ∃ g, g = m1.gcd m2 := ⟨_, rfl⟩
    rw [← hg] at HM HW ⊢
    clear hg
    go_enter Tryz.func124, Tryz.ntmps124
    go_wp2_with fail
    obtain ⟨n1, n2, n3, hsz, hw0⟩ := three_new w (.cells #[.int .i64 s1, .bool neg1, .slice A1 l1.length c1] 61) (.cells #[.int .i64 s2, .bool neg2, .slice A2 l2.length c2] 61) (.cells #[.int .i64 0, .bool false, .slice none 0 0] 61)
    generalize (((w.alloc (.cells #[.int .i64 s1, .bool neg1, .slice A1 l1.length c1] 61)).alloc (.cells #[.int .i64 s2, .bool neg2, .slice A2 l2.length c2] 61)).alloc (.cells #[.int .i64 0, .bool false, .slice none 0 0] 61)) = W0 at *
    have k1 := cells_of n1 0
    have k2 := cells_of n1 1
    have k3 := cells_of n1 2
    simp only [Array.getElem?_eq_getElem, three0, three1, three2] at k1 k2 k3
    have k4 := cells_of n2 0
    have k5 := cells_of n2 1
    have k6 := cells_of n2 2
    simp only [Array.getElem?_eq_getElem, three0, three1, three2] at k4 k5 k6
    have q0 : w.heap.size < W0.heap.size := by omega
    have q1 : w.heap.size + 1 < W0.heap.size := by omega
    have q2 : w.heap.size + 1 + 1 < W0.heap.size := by omega
    have k7 := cells_of n3 0
    have k8 := cells_of n3 1
    have k9 := cells_of n3 2
    simp only [Array.getElem?_eq_getElem, three0, three1, three2] at k7 k8 k9
    have f7 := unfrozen_of n3 0
    have f8 := unfrozen_of n3 1
    have f9 := unfrozen_of n3 2
    have N3 := Lib.hid n3
    clear n3
    clear n1 n2
    have B1 := (unhide HB1) W0 hw0; have B2 := (unhide HB2) W0 hw0; have TT := (unhide HTT) W0 hw0
    refine ((unhide HS1) _).mono ?_
    rintro e w1 ⟨rfl, hw1⟩
    have hbw1 := below_eq (w := W0) (by (first | assumption | (repeat (first | exact Below.refl _ _ | assumption | refine Below.drew ?_ | (refine Below.alloc ?_ (by simp <;> omega) _))))) hw1
    obtain ⟨hc, hfz⟩ := bcell hbw1
    clear hw1
    go_wp2_with fail
    refine ((unhide HS2) _).mono ?_
    rintro e w2 ⟨rfl, hw2⟩
    have hbw2 := below_eq (w := W0) (by (first | assumption | (repeat (first | exact Below.refl _ _ | assumption | refine Below.drew ?_ | (refine Below.alloc ?_ (by simp <;> omega) _))))) hw2
    obtain ⟨hc, hfz⟩ := bcell hbw2
    clear hw2
    go_wp2_with fail
    go_region_held3 (fun w' => w'.cell? ⟨w.heap.size, 0, none⟩ = some (.int .i64 s1) ∧ w'.cell? ⟨w.heap.size, 1, none⟩ = some (.bool neg1) ∧ w'.cell? ⟨w.heap.size, 2, none⟩ = some (.slice A1 l1.length c1) ∧ w'.cell? ⟨w.heap.size + 1, 0, none⟩ = some (.int .i64 s2) ∧ w'.cell? ⟨w.heap.size + 1, 1, none⟩ = some (.bool neg2) ∧ w'.cell? ⟨w.heap.size + 1, 2, none⟩ = some (.slice A2 l2.length c2)) ((first | with_reducible exact ⟨(hc _ _ q0).trans k1, (hc _ _ q0).trans k2, (hc _ _ q0).trans k3, (hc _ _ q1).trans k4, (hc _ _ q1).trans k5, (hc _ _ q1).trans k6⟩ | with_reducible exact ⟨k1, k2, k3, k4, k5, k6⟩ | with_reducible exact ⟨(cell_set3 _ _ _ _ _ (by omega)).trans ((hc _ _ q0).trans k1), (cell_set3 _ _ _ _ _ (by omega)).trans ((hc _ _ q0).trans k2), (cell_set3 _ _ _ _ _ (by omega)).trans ((hc _ _ q0).trans k3), (cell_set3 _ _ _ _ _ (by omega)).trans ((hc _ _ q1).trans k4), (cell_set3 _ _ _ _ _ (by omega)).trans ((hc _ _ q1).trans k5), (cell_set3 _ _ _ _ _ (by omega)).trans ((hc _ _ q1).trans k6)⟩ | exact ⟨(hc _ _ q0).trans k1, (hc _ _ q0).trans k2, (hc _ _ q0).trans k3, (hc _ _ q1).trans k4, (hc _ _ q1).trans k5, (hc _ _ q1).trans k6⟩ | exact ⟨k1, k2, k3, k4, k5, k6⟩)) (first | (go_at_call_of 148 (Value.int .i64 s1); refine ((unhide Z1) _).mono ?_; rintro e w' ⟨rfl, hw9⟩; subst hw9) | (go_at_call_of 148 (Value.int .i64 s2); refine ((unhide Z2) _).mono ?_; rintro e w' ⟨rfl, hw9⟩; subst hw9) | (go_at_call 103; refine ((unhide HM) _ ((unhide TT) _ (by (first | assumption | (repeat (first | exact Below.refl _ _ | assumption | refine Below.drew ?_ | (refine Below.alloc ?_ (by simp <;> omega) _))))))).mono ?_; rintro e w' ⟨rfl, hw9⟩; subst hw9) | (go_at_call 147; refine ((unhide HW) _).mono ?_; rintro e w' ⟨s, neg', A', cap', l', rfl, hf, hb⟩; have hbw := below_step (w := W0) (by (first | assumption | (repeat (first | exact Below.refl _ _ | assumption | refine Below.drew ?_ | (refine Below.alloc ?_ (by simp <;> omega) _))))) hb; obtain ⟨hc, hfz⟩ := bcell hbw))
    have hblk : w'.heap[w.heap.size + 1 + 1]? = some (.cells #[.int .i64 0, .bool false, .slice none 0 0] 61 (0, 0)) := (hbw.block _ q2).trans N3.out
    have HBLK := Lib.hid hblk
    have hb9 : Below w.heap.size w w' := below_step' hw0 hbw
    clear hblk
    go_wp2_with fail
    exact bodyPost_ret (v := .agg #[.int .i64 s, .bool neg', .slice A' l'.length cap']) (by simp [results, Tryz.results124, go_sem, hc, k7, k8, k9, q2]) rfl
      ⟨s, neg', A', cap', l', rfl, hf.upto HBLK.out (noWord3 _ _ _ _ _) (set3_grown _ _ _ _ _), hb9.grown (set3_grown _ _ _ _ _) hb9.size (fun k hk => by injection hk with hk; omega)⟩
  · by_cases a1 : l1.length = 0
    · have a2 : ¬ l2.length = 0 := fun h => hs ⟨a1, h⟩
      rw [decide_eq_true a1] at HS1
      rw [decide_eq_false a2] at HS2
      clear hsz1 hsz2 hs a1 a2
      go_enter Tryz.func124, Tryz.ntmps124
      go_wp2_with fail
      obtain ⟨n1, n2, n3, hsz, hw0⟩ := three_new w (.cells #[.int .i64 s1, .bool neg1, .slice A1 l1.length c1] 61) (.cells #[.int .i64 s2, .bool neg2, .slice A2 l2.length c2] 61) (.cells #[.int .i64 0, .bool false, .slice none 0 0] 61)
      generalize (((w.alloc (.cells #[.int .i64 s1, .bool neg1, .slice A1 l1.length c1] 61)).alloc (.cells #[.int .i64 s2, .bool neg2, .slice A2 l2.length c2] 61)).alloc (.cells #[.int .i64 0, .bool false, .slice none 0 0] 61)) = W0 at *
      have k1 := cells_of n1 0
      have k2 := cells_of n1 1
      have k3 := cells_of n1 2
      simp only [Array.getElem?_eq_getElem, three0, three1, three2] at k1 k2 k3
      have k4 := cells_of n2 0
      have k5 := cells_of n2 1
      have k6 := cells_of n2 2
      simp only [Array.getElem?_eq_getElem, three0, three1, three2] at k4 k5 k6
      have q0 : w.heap.size < W0.heap.size := by omega
      have q1 : w.heap.size + 1 < W0.heap.size := by omega
      have q2 : w.heap.size + 1 + 1 < W0.heap.size := by omega
      have k7 := cells_of n3 0
      have k8 := cells_of n3 1
      have k9 := cells_of n3 2
      simp only [Array.getElem?_eq_getElem, three0, three1, three2] at k7 k8 k9
      have f7 := unfrozen_of n3 0
      have f8 := unfrozen_of n3 1
      have f9 := unfrozen_of n3 2
      have N3 := Lib.hid n3
      clear n3
      clear n1 n2
      have B1 := (unhide HB1) W0 hw0; have B2 := (unhide HB2) W0 hw0; have TT := (unhide HTT) W0 hw0
      refine ((unhide HS1) _).mono ?_
      rintro e w1 ⟨rfl, hw1⟩
      have hbw1 := below_eq (w := W0) (by (first | assumption | (repeat (first | exact Below.refl _ _ | assumption | refine Below.drew ?_ | (refine Below.alloc ?_ (by simp <;> omega) _))))) hw1
      obtain ⟨hc, hfz⟩ := bcell hbw1
      clear hw1
      go_wp2_with fail
      refine ((unhide HS2) _).mono ?_
      rintro e w2 ⟨rfl, hw2⟩
      have hbw2 := below_eq (w := W0) (by (first | assumption | (repeat (first | exact Below.refl _ _ | assumption | refine Below.drew ?_ | (refine Below.alloc ?_ (by simp <;> omega) _))))) hw2
      obtain ⟨hc, hfz⟩ := bcell hbw2
      clear hw2
      go_wp2_with fail
      go_region_held3 (fun w' => w'.cell? ⟨w.heap.size, 0, none⟩ = some (.int .i64 s1) ∧ w'.cell? ⟨w.heap.size, 1, none⟩ = some (.bool neg1) ∧ w'.cell? ⟨w.heap.size, 2, none⟩ = some (.slice A1 l1.length c1) ∧ w'.cell? ⟨w.heap.size + 1, 0, none⟩ = some (.int .i64 s2) ∧ w'.cell? ⟨w.heap.size + 1, 1, none⟩ = some (.bool neg2) ∧ w'.cell? ⟨w.heap.size + 1, 2, none⟩ = some (.slice A2 l2.length c2)) ((first | with_reducible exact ⟨(hc _ _ q0).trans k1, (hc _ _ q0).trans k2, (hc _ _ q0).trans k3, (hc _ _ q1).trans k4, (hc _ _ q1).trans k5, (hc _ _ q1).trans k6⟩ | with_reducible exact ⟨k1, k2, k3, k4, k5, k6⟩ | with_reducible exact ⟨(cell_set3 _ _ _ _ _ (by omega)).trans ((hc _ _ q0).trans k1), (cell_set3 _ _ _ _ _ (by omega)).trans ((hc _ _ q0).trans k2), (cell_set3 _ _ _ _ _ (by omega)).trans ((hc _ _ q0).trans k3), (cell_set3 _ _ _ _ _ (by omega)).trans ((hc _ _ q1).trans k4), (cell_set3 _ _ _ _ _ (by omega)).trans ((hc _ _ q1).trans k5), (cell_set3 _ _ _ _ _ (by omega)).trans ((hc _ _ q1).trans k6)⟩ | exact ⟨(hc _ _ q0).trans k1, (hc _ _ q0).trans k2, (hc _ _ q0).trans k3, (hc _ _ q1).trans k4, (hc _ _ q1).trans k5, (hc _ _ q1).trans k6⟩ | exact ⟨k1, k2, k3, k4, k5, k6⟩)) (first | (go_at_call_of 153 (Value.agg #[.int .i64 s1, .bool neg1, .slice A1 l1.length c1]); refine ((unhide B1) _ (by (first | assumption | (repeat (first | exact Below.refl _ _ | assumption | refine Below.drew ?_ | (refine Below.alloc ?_ (by simp <;> omega) _)))))).mono ?_; rintro e w' ⟨A5, cap5, l5, rfl, hn5, hb⟩; have hbw := below_step (w := W0) (by (first | assumption | (repeat (first | exact Below.refl _ _ | assumption | refine Below.drew ?_ | (refine Below.alloc ?_ (by simp <;> omega) _))))) hb; obtain ⟨hc, hfz⟩ := bcell hbw) | (go_at_call_of 153 (Value.agg #[.int .i64 s2, .bool neg2, .slice A2 l2.length c2]); refine ((unhide B2) _ (by (first | assumption | (repeat (first | exact Below.refl _ _ | assumption | refine Below.drew ?_ | (refine Below.alloc ?_ (by simp <;> omega) _)))))).mono ?_; rintro e w' ⟨A6, cap6, l6, rfl, hn6, hb⟩; have hn5' := hn5.below hb; have hbw := below_step (w := W0) (by (first | assumption | (repeat (first | exact Below.refl _ _ | assumption | refine Below.drew ?_ | (refine Below.alloc ?_ (by simp <;> omega) _))))) hb; obtain ⟨hc, hfz⟩ := bcell hbw) | (go_at_call 161; refine (ngcd_any A5 A6 cap5 cap6 l5 l6 m1 m2 _ (by exact hn5') (by exact hn6) ((unhide TT) _ (by (first | assumption | (repeat (first | exact Below.refl _ _ | assumption | refine Below.drew ?_ | (refine Below.alloc ?_ (by simp <;> omega) _)))))) ((unhide HLEN) _ _ _ _ () hn5').1 ((unhide HLEN2) _ _ _ _ () hn6).1).mono ?_; rintro e w' ⟨A7, cap7, l7, rfl, hn7, hb⟩; have hbw := below_step (w := W0) (by (first | assumption | (repeat (first | exact Below.refl _ _ | assumption | refine Below.drew ?_ | (refine Below.alloc ?_ (by simp <;> omega) _))))) hb; obtain ⟨hc, hfz⟩ := bcell hbw) | (go_at_call 152; refine (signed_any false A7 cap7 l7 (m1.gcd m2) _ (by exact hn7)).mono ?_; rw [if_neg Bool.false_ne_true]; rintro e w' ⟨s, neg', A', cap', l', rfl, hf, hb⟩; have hbw := below_step (w := W0) (by (first | assumption | (repeat (first | exact Below.refl _ _ | assumption | refine Below.drew ?_ | (refine Below.alloc ?_ (by simp <;> omega) _))))) hb; obtain ⟨hc, hfz⟩ := bcell hbw))
      have hblk : w'.heap[w.heap.size + 1 + 1]? = some (.cells #[.int .i64 0, .bool false, .slice none 0 0] 61 (0, 0)) := (hbw.block _ q2).trans N3.out
      have HBLK := Lib.hid hblk
      have hb9 : Below w.heap.size w w' := below_step' hw0 hbw
      clear hblk
      go_wp2_with fail
      exact bodyPost_ret (v := .agg #[.int .i64 s, .bool neg', .slice A' l'.length cap']) (by simp [results, Tryz.results124, go_sem, hc, k7, k8, k9, q2]) rfl
        ⟨s, neg', A', cap', l', rfl, hf.upto HBLK.out (noWord3 _ _ _ _ _) (set3_grown _ _ _ _ _), hb9.grown (set3_grown _ _ _ _ _) hb9.size (fun k hk => by injection hk with hk; omega)⟩
    · skip
      rw [decide_eq_false a1] at HS1
      clear hsz1 hsz2 hs a1
      go_enter Tryz.func124, Tryz.ntmps124
      go_wp2_with fail
      obtain ⟨n1, n2, n3, hsz, hw0⟩ := three_new w (.cells #[.int .i64 s1, .bool neg1, .slice A1 l1.length c1] 61) (.cells #[.int .i64 s2, .bool neg2, .slice A2 l2.length c2] 61) (.cells #[.int .i64 0, .bool false, .slice none 0 0] 61)
      generalize (((w.alloc (.cells #[.int .i64 s1, .bool neg1, .slice A1 l1.length c1] 61)).alloc (.cells #[.int .i64 s2, .bool neg2, .slice A2 l2.length c2] 61)).alloc (.cells #[.int .i64 0, .bool false, .slice none 0 0] 61)) = W0 at *
      have k1 := cells_of n1 0
      have k2 := cells_of n1 1
      have k3 := cells_of n1 2
      simp only [Array.getElem?_eq_getElem, three0, three1, three2] at k1 k2 k3
      have k4 := cells_of n2 0
      have k5 := cells_of n2 1
      have k6 := cells_of n2 2
      simp only [Array.getElem?_eq_getElem, three0, three1, three2] at k4 k5 k6
      have q0 : w.heap.size < W0.heap.size := by omega
      have q1 : w.heap.size + 1 < W0.heap.size := by omega
      have q2 : w.heap.size + 1 + 1 < W0.heap.size := by omega
      have k7 := cells_of n3 0
      have k8 := cells_of n3 1
      have k9 := cells_of n3 2
      simp only [Array.getElem?_eq_getElem, three0, three1, three2] at k7 k8 k9
      have f7 := unfrozen_of n3 0
      have f8 := unfrozen_of n3 1
      have f9 := unfrozen_of n3 2
      have N3 := Lib.hid n3
      clear n3
      clear n1 n2
      have B1 := (unhide HB1) W0 hw0; have B2 := (unhide HB2) W0 hw0; have TT := (unhide HTT) W0 hw0
      refine ((unhide HS1) _).mono ?_
      rintro e w1 ⟨rfl, hw1⟩
      have hbw1 := below_eq (w := W0) (by (first | assumption | (repeat (first | exact Below.refl _ _ | assumption | refine Below.drew ?_ | (refine Below.alloc ?_ (by simp <;> omega) _))))) hw1
      obtain ⟨hc, hfz⟩ := bcell hbw1
      clear hw1
      go_wp2_with fail
      go_region_held3 (fun w' => w'.cell? ⟨w.heap.size, 0, none⟩ = some (.int .i64 s1) ∧ w'.cell? ⟨w.heap.size, 1, none⟩ = some (.bool neg1) ∧ w'.cell? ⟨w.heap.size, 2, none⟩ = some (.slice A1 l1.length c1) ∧ w'.cell? ⟨w.heap.size + 1, 0, none⟩ = some (.int .i64 s2) ∧ w'.cell? ⟨w.heap.size + 1, 1, none⟩ = some (.bool neg2) ∧ w'.cell? ⟨w.heap.size + 1, 2, none⟩ = some (.slice A2 l2.length c2)) ((first | with_reducible exact ⟨(hc _ _ q0).trans k1, (hc _ _ q0).trans k2, (hc _ _ q0).trans k3, (hc _ _ q1).trans k4, (hc _ _ q1).trans k5, (hc _ _ q1).trans k6⟩ | with_reducible exact ⟨k1, k2, k3, k4, k5, k6⟩ | with_reducible exact ⟨(cell_set3 _ _ _ _ _ (by omega)).trans ((hc _ _ q0).trans k1), (cell_set3 _ _ _ _ _ (by omega)).trans ((hc _ _ q0).trans k2), (cell_set3 _ _ _ _ _ (by omega)).trans ((hc _ _ q0).trans k3), (cell_set3 _ _ _ _ _ (by omega)).trans ((hc _ _ q1).trans k4), (cell_set3 _ _ _ _ _ (by omega)).trans ((hc _ _ q1).trans k5), (cell_set3 _ _ _ _ _ (by omega)).trans ((hc _ _ q1).trans k6)⟩ | exact ⟨(hc _ _ q0).trans k1, (hc _ _ q0).trans k2, (hc _ _ q0).trans k3, (hc _ _ q1).trans k4, (hc _ _ q1).trans k5, (hc _ _ q1).trans k6⟩ | exact ⟨k1, k2, k3, k4, k5, k6⟩)) (first | (go_at_call_of 153 (Value.agg #[.int .i64 s1, .bool neg1, .slice A1 l1.length c1]); refine ((unhide B1) _ (by (first | assumption | (repeat (first | exact Below.refl _ _ | assumption | refine Below.drew ?_ | (refine Below.alloc ?_ (by simp <;> omega) _)))))).mono ?_; rintro e w' ⟨A5, cap5, l5, rfl, hn5, hb⟩; have hbw := below_step (w := W0) (by (first | assumption | (repeat (first | exact Below.refl _ _ | assumption | refine Below.drew ?_ | (refine Below.alloc ?_ (by simp <;> omega) _))))) hb; obtain ⟨hc, hfz⟩ := bcell hbw) | (go_at_call_of 153 (Value.agg #[.int .i64 s2, .bool neg2, .slice A2 l2.length c2]); refine ((unhide B2) _ (by (first | assumption | (repeat (first | exact Below.refl _ _ | assumption | refine Below.drew ?_ | (refine Below.alloc ?_ (by simp <;> omega) _)))))).mono ?_; rintro e w' ⟨A6, cap6, l6, rfl, hn6, hb⟩; have hn5' := hn5.below hb; have hbw := below_step (w := W0) (by (first | assumption | (repeat (first | exact Below.refl _ _ | assumption | refine Below.drew ?_ | (refine Below.alloc ?_ (by simp <;> omega) _))))) hb; obtain ⟨hc, hfz⟩ := bcell hbw) | (go_at_call 161; refine (ngcd_any A5 A6 cap5 cap6 l5 l6 m1 m2 _ (by exact hn5') (by exact hn6) ((unhide TT) _ (by (first | assumption | (repeat (first | exact Below.refl _ _ | assumption | refine Below.drew ?_ | (refine Below.alloc ?_ (by simp <;> omega) _)))))) ((unhide HLEN) _ _ _ _ () hn5').1 ((unhide HLEN2) _ _ _ _ () hn6).1).mono ?_; rintro e w' ⟨A7, cap7, l7, rfl, hn7, hb⟩; have hbw := below_step (w := W0) (by (first | assumption | (repeat (first | exact Below.refl _ _ | assumption | refine Below.drew ?_ | (refine Below.alloc ?_ (by simp <;> omega) _))))) hb; obtain ⟨hc, hfz⟩ := bcell hbw) | (go_at_call 152; refine (signed_any false A7 cap7 l7 (m1.gcd m2) _ (by exact hn7)).mono ?_; rw [if_neg Bool.false_ne_true]; rintro e w' ⟨s, neg', A', cap', l', rfl, hf, hb⟩; have hbw := below_step (w := W0) (by (first | assumption | (repeat (first | exact Below.refl _ _ | assumption | refine Below.drew ?_ | (refine Below.alloc ?_ (by simp <;> omega) _))))) hb; obtain ⟨hc, hfz⟩ := bcell hbw))
      have hblk : w'.heap[w.heap.size + 1 + 1]? = some (.cells #[.int .i64 0, .bool false, .slice none 0 0] 61 (0, 0)) := (hbw.block _ q2).trans N3.out
      have HBLK := Lib.hid hblk
      have hb9 : Below w.heap.size w w' := below_step' hw0 hbw
      clear hblk
      go_wp2_with fail
      exact bodyPost_ret (v := .agg #[.int .i64 s, .bool neg', .slice A' l'.length cap']) (by simp [results, Tryz.results124, go_sem, hc, k7, k8, k9, q2]) rfl
        ⟨s, neg', A', cap', l', rfl, hf.upto HBLK.out (noWord3 _ _ _ _ _) (set3_grown _ _ _ _ _), hb9.grown (set3_grown _ _ _ _ _) hb9.size (fun k hk => by injection hk with hk; omega)⟩

end Go.Proofs.YtpjgoogeokbaaaaGreatDoor
/- Quotients of whole numbers. -/
namespace Go.Proofs.YtpjgoogeokbaaaaGreatDoor
open Go.RowKit

theorem sgn_mul_quo (z1 z2 : Int) : (if decide (sgn z1 * sgn z2 < 0) = true then -((z1.natAbs / z2.natAbs : Nat) : Int) else ((z1.natAbs / z2.natAbs : Nat) : Int)) = z1.tdiv z2 := by
  rcases Int.lt_trichotomy z1 0 with a | a | a <;> rcases Int.lt_trichotomy z2 0 with b | b | b
  all_goals
    first
      | (subst a; simp [sgn])
      | (subst b; simp [sgn])
      | skip
  all_goals
    simp only [sgn, a, b, if_true, if_neg (Int.not_lt.2 (Int.le_of_lt a)), if_neg (Int.not_lt.2 (Int.le_of_lt b))]
  · obtain ⟨x, hx⟩ : ∃ x : Nat, z1 = -(x : Int) := ⟨z1.natAbs, by omega⟩
    obtain ⟨y, hy⟩ : ∃ y : Nat, z2 = -(y : Int) := ⟨z2.natAbs, by omega⟩
    subst hx; subst hy
    rw [Int.natAbs_neg, Int.natAbs_neg, Int.natAbs_natCast, Int.natAbs_natCast, Int.neg_tdiv, Int.tdiv_neg, Int.neg_neg]
    simp [Int.ofNat_tdiv]
  · obtain ⟨x, hx⟩ : ∃ x : Nat, z1 = -(x : Int) := ⟨z1.natAbs, by omega⟩
    obtain ⟨y, hy⟩ : ∃ y : Nat, z2 = (y : Int) := ⟨z2.natAbs, by omega⟩
    subst hx; subst hy
    rw [Int.natAbs_neg, Int.natAbs_natCast, Int.natAbs_natCast, Int.neg_tdiv]
    simp [Int.ofNat_tdiv]
  · obtain ⟨x, hx⟩ : ∃ x : Nat, z1 = (x : Int) := ⟨z1.natAbs, by omega⟩
    obtain ⟨y, hy⟩ : ∃ y : Nat, z2 = -(y : Int) := ⟨z2.natAbs, by omega⟩
    subst hx; subst hy
    rw [Int.natAbs_neg, Int.natAbs_natCast, Int.natAbs_natCast, Int.tdiv_neg]
    simp [Int.ofNat_tdiv]
  · obtain ⟨x, hx⟩ : ∃ x : Nat, z1 = (x : Int) := ⟨z1.natAbs, by omega⟩
    obtain ⟨y, hy⟩ : ∃ y : Nat, z2 = (y : Int) := ⟨z2.natAbs, by omega⟩
    subst hx; subst hy
    rw [Int.natAbs_natCast, Int.natAbs_natCast]
    simp [Int.ofNat_tdiv]

set_option maxRecDepth 100000 in
set_option maxHeartbeats 8000000 in
theorem iquo_any (s1 : Int) (neg1 : Bool) (A1 : Option Addr) (c1 : Nat) (l1 : List Nat) (z1 : Int) (s2 : Int) (neg2 : Bool) (A2 : Option Addr) (c2 : Nat) (l2 : List Nat) (z2 : Int) (w : World)
    (h1 : IntF w s1 neg1 A1 c1 l1 z1) (h2 : IntF w s2 neg2 A2 c2 l2 z2) (hl1 : l1.length ≤ lim) (hl2 : l2.length ≤ lim) (hz0 : z2 ≠ 0) :
    Calls Tryz.prog 125 #[.agg #[.int .i64 s1, .bool neg1, .slice A1 l1.length c1], .agg #[.int .i64 s2, .bool neg2, .slice A2 l2.length c2]] w fun e w' => IntR w (z1.tdiv z2) e w' := by
  have HS1 := hide (fun W => isSmall_any s1 neg1 A1 c1 l1.length W)
  have HS2 := hide (fun W => isSmall_any s2 neg2 A2 c2 l2.length W)
  have hz := sgn_mul_quo z1 z2
  have LEN : ∀ (W : World) (A5 : Option Addr) (c5 : Nat) (l5 : List Nat) (_ : Unit), NatV W A5 c5 l5 z1.natAbs → l5.length ≤ lim ∧ l5.length + 1 ≤ 35184372088832 := fun _ _ _ _ _ g => h1.len_lim hl1 g
  have LEN2 : ∀ (W : World) (A5 : Option Addr) (c5 : Nat) (l5 : List Nat) (_ : Unit), NatV W A5 c5 l5 z2.natAbs → l5.length ≤ lim ∧ l5.length + 1 ≤ 35184372088832 := fun _ _ _ _ _ g => h2.len_lim hl2 g
  have G1 : ∀ W0, Below w.heap.size w W0 → Hid (∀ W, Below W0.heap.size W0 W → Calls Tryz.prog 128 #[.agg #[.int .i64 s1, .bool neg1, .slice A1 l1.length c1]] W fun e w' => e = .returned (.int .i64 (sgn z1)) ∧ Below W.heap.size W w') := fun W0 h0 W hW => sign_any s1 neg1 A1 c1 l1 z1 W (IntF.below h1 (below_step' h0 hW))
  have G2 : ∀ W0, Below w.heap.size w W0 → Hid (∀ W, Below W0.heap.size W0 W → Calls Tryz.prog 128 #[.agg #[.int .i64 s2, .bool neg2, .slice A2 l2.length c2]] W fun e w' => e = .returned (.int .i64 (sgn z2)) ∧ Below W.heap.size W w') := fun W0 h0 W hW => sign_any s2 neg2 A2 c2 l2 z2 W (IntF.below h2 (below_step' h0 hW))
  have B1 : ∀ W0, Below w.heap.size w W0 → Hid (∀ W, Below W0.heap.size W0 W → Calls Tryz.prog 153 #[.agg #[.int .i64 s1, .bool neg1, .slice A1 l1.length c1]] W fun e w' => NatR W z1.natAbs e w') := fun W0 h0 W hW => abs_any s1 neg1 A1 c1 l1 z1 W (IntF.below h1 (below_step' h0 hW))
  have B2 : ∀ W0, Below w.heap.size w W0 → Hid (∀ W, Below W0.heap.size W0 W → Calls Tryz.prog 153 #[.agg #[.int .i64 s2, .bool neg2, .slice A2 l2.length c2]] W fun e w' => NatR W z2.natAbs e w') := fun W0 h0 W hW => abs_any s2 neg2 A2 c2 l2 z2 W (IntF.below h2 (below_step' h0 hW))
  have ho1 : -1 ≤ sgn z1 * sgn z2 ∧ sgn z1 * sgn z2 ≤ 1 := by unfold sgn; (repeat' split) <;> omega
  have hsz1 : l1.length = 0 → s1 = z1 ∧ z1.natAbs < M63 := fun h => by obtain ⟨e, _, e3⟩ := h1.of_small h; exact ⟨e, e3⟩
  have hsz2 : l2.length = 0 → s2 = z2 ∧ z2.natAbs < M63 := fun h => by obtain ⟨e, _, e3⟩ := h2.of_small h; exact ⟨e, e3⟩
  have hm20 : 0 < z2.natAbs := by omega
  by_cases hs : l1.length = 0 ∧ l2.length = 0
  · obtain ⟨a1, a2⟩ := hs
    rw [decide_eq_true a1] at HS1
    rw [decide_eq_true a2] at HS2
    obtain ⟨y1, y2⟩ := hsz1 a1
    obtain ⟨y3, y4⟩ := hsz2 a2
    subst y1; subst y3
    have hq : (s1.tdiv s2).natAbs < M63 := by rw [Int.natAbs_tdiv]; exact Nat.lt_of_le_of_lt (Nat.div_le_self _ _) y2
    have eq : IntKind.i64.wrap (s1.tdiv s2) = s1.tdiv s2 := IntWalk.i64_in _ (by rw [M63_eq] at hq; omega)
    have eq' : wrap64 (s1.tdiv s2) = s1.tdiv s2 := IntWalk.wrap64_in _ (by rw [M63_eq] at hq; omega)
    have HQ := hide hq
    have b0 : (s2 == 0) = false := beq_eq_false_iff_ne.2 hz0
    clear hz LEN LEN2 G1 G2 B1 B2 ho1 hsz1 hsz2 hm20 h1 h2 hl1 hl2 a1 a2 y2 y4 hq
    go_enter Tryz.func125, Tryz.ntmps125
    go_wp2_with fail
    obtain ⟨n1, n2, n3, hsz, hw0⟩ := three_new w (.cells #[.int .i64 s1, .bool neg1, .slice A1 l1.length c1] 61) (.cells #[.int .i64 s2, .bool neg2, .slice A2 l2.length c2] 61) (.cells #[.int .i64 0, .bool false, .slice none 0 0] 61)
    generalize (((w.alloc (.cells #[.int .i64 s1, .bool neg1, .slice A1 l1.length c1] 61)).alloc (.cells #[.int .i64 s2, .bool neg2, .slice A2 l2.length c2] 61)).alloc (.cells #[.int .i64 0, .bool false, .slice none 0 0] 61)) = W0 at *
    have k1 := cells_of n1 0
    have k2 := cells_of n1 1
    have k3 := cells_of n1 2
    simp only [Array.getElem?_eq_getElem, three0, three1, three2] at k1 k2 k3
    have k4 := cells_of n2 0
    have k5 := cells_of n2 1
    have k6 := cells_of n2 2
    simp only [Array.getElem?_eq_getElem, three0, three1, three2] at k4 k5 k6
    have q0 : w.heap.size < W0.heap.size := by omega
    have q1 : w.heap.size + 1 < W0.heap.size := by omega
    have q2 : w.heap.size + 1 + 1 < W0.heap.size := by omega
    have k7 := cells_of n3 0
    have k8 := cells_of n3 1
    have k9 := cells_of n3 2
    simp only [Array.getElem?_eq_getElem, three0, three1, three2] at k7 k8 k9
    have f7 := unfrozen_of n3 0
    have f8 := unfrozen_of n3 1
    have f9 := unfrozen_of n3 2
    have N3 := Lib.hid n3
    clear n3
    clear n1 n2
    refine ((unhide HS1) _).mono ?_
    rintro e w1 ⟨rfl, hw1⟩
    have hbw1 := below_eq (w := W0) (by (first | assumption | (repeat (first | exact Below.refl _ _ | assumption | refine Below.drew ?_ | (refine Below.alloc ?_ (by simp <;> omega) _))))) hw1
    obtain ⟨hc, hfz⟩ := bcell hbw1
    clear hw1
    go_wp2_with fail
    refine ((unhide HS2) _).mono ?_
    rintro e w2 ⟨rfl, hw2⟩
    have hbw2 := below_eq (w := W0) (by (first | assumption | (repeat (first | exact Below.refl _ _ | assumption | refine Below.drew ?_ | (refine Below.alloc ?_ (by simp <;> omega) _))))) hw2
    obtain ⟨hc, hfz⟩ := bcell hbw2
    clear hw2
    go_wp2_with fail
    refine bodyPost_ret (v := .agg #[.int .i64 (s1.tdiv s2), .bool false, .slice none 0 0]) (by simp [results, Tryz.results125, go_sem, hc, k7, k8, k9, q2]) rfl ⟨s1.tdiv s2, false, none, 0, [], rfl, IntF.small (unhide HQ), ?_⟩
    have hb9 : Below w.heap.size w w2 := below_step' hw0 hbw2
    exact hb9.grown (set3_grown _ _ _ _ _) hb9.size (fun k hk => by injection hk with hk; omega)
  · 
    obtain ⟨m1, hm1⟩ : ∃ o, o = z1.natAbs := ⟨_, rfl⟩
    obtain ⟨m2, hm2⟩ : ∃ o, o = z2.natAbs := ⟨_, rfl⟩
    obtain ⟨o1, hoo1⟩ : ∃ o, o = sgn z1 := ⟨_, rfl⟩
    obtain ⟨o2, hoo2⟩ : ∃ o, o = sgn z2 := ⟨_, rfl⟩
    rw [← hm1] at B1 LEN hz
    rw [← hm2] at B2 LEN2 hz hm20
    rw [← hoo1] at G1 hz ho1
    rw [← hoo2] at G2 hz ho1
    obtain ⟨op, hop⟩ : ∃ o, o = o1 * o2 := ⟨_, rfl⟩
    have e1 : IntKind.i64.wrap (o1 * o2) = op := by rw [hop]; exact IntWalk.i64_in _ (by omega)
    have e1' : wrap64 (o1 * o2) = op := by rw [hop]; exact IntWalk.wrap64_in _ (by omega)
    rw [← hop] at hz
    obtain ⟨ng, hng⟩ : ∃ b, b = decide (op < 0) := ⟨_, rfl⟩
    rw [← hng] at hz
    obtain ⟨Z, hZ⟩ : ∃ o, o = z1.tdiv z2 := ⟨_, rfl⟩
    rw [← hZ] at hz ⊢
    have HZ := Lib.hid hz.symm
    have HG1 := hide G1; have HG2 := hide G2; have HB1 := hide B1; have HB2 := hide B2; have HLEN := hide LEN; have HLEN2 := hide LEN2
    have ngE := hng.symm
    clear hm1 hm2 hoo1 hoo2 ho1 hop hng hz hZ G1 G2 B1 B2 h1 h2 LEN LEN2 hl1 hl2 hz0
    by_cases a1 : l1.length = 0
    · have a2 : ¬ l2.length = 0 := fun h => hs ⟨a1, h⟩
      rw [decide_eq_true a1] at HS1
      rw [decide_eq_false a2] at HS2
      clear hsz1 hsz2 hs a1 a2
      go_enter Tryz.func125, Tryz.ntmps125
      go_wp2_with fail
      obtain ⟨n1, n2, n3, hsz, hw0⟩ := three_new w (.cells #[.int .i64 s1, .bool neg1, .slice A1 l1.length c1] 61) (.cells #[.int .i64 s2, .bool neg2, .slice A2 l2.length c2] 61) (.cells #[.int .i64 0, .bool false, .slice none 0 0] 61)
      generalize (((w.alloc (.cells #[.int .i64 s1, .bool neg1, .slice A1 l1.length c1] 61)).alloc (.cells #[.int .i64 s2, .bool neg2, .slice A2 l2.length c2] 61)).alloc (.cells #[.int .i64 0, .bool false, .slice none 0 0] 61)) = W0 at *
      have k1 := cells_of n1 0
      have k2 := cells_of n1 1
      have k3 := cells_of n1 2
      simp only [Array.getElem?_eq_getElem, three0, three1, three2] at k1 k2 k3
      have k4 := cells_of n2 0
      have k5 := cells_of n2 1
      have k6 := cells_of n2 2
      simp only [Array.getElem?_eq_getElem, three0, three1, three2] at k4 k5 k6
      have q0 : w.heap.size < W0.heap.size := by omega
      have q1 : w.heap.size + 1 < W0.heap.size := by omega
      have q2 : w.heap.size + 1 + 1 < W0.heap.size := by omega
      have k7 := cells_of n3 0
      have k8 := cells_of n3 1
      have k9 := cells_of n3 2
      simp only [Array.getElem?_eq_getElem, three0, three1, three2] at k7 k8 k9
      have f7 := unfrozen_of n3 0
      have f8 := unfrozen_of n3 1
      have f9 := unfrozen_of n3 2
      have N3 := Lib.hid n3
      clear n3
      clear n1 n2
      have G1 := (unhide HG1) W0 hw0; have G2 := (unhide HG2) W0 hw0; have B1 := (unhide HB1) W0 hw0; have B2 := (unhide HB2) W0 hw0
      refine ((unhide HS1) _).mono ?_
      rintro e w1 ⟨rfl, hw1⟩
      have hbw1 := below_eq (w := W0) (by (first | assumption | (repeat (first | exact Below.refl _ _ | assumption | refine Below.drew ?_ | (refine Below.alloc ?_ (by simp <;> omega) _))))) hw1
      obtain ⟨hc, hfz⟩ := bcell hbw1
      clear hw1
      go_wp2_with fail
      refine ((unhide HS2) _).mono ?_
      rintro e w2 ⟨rfl, hw2⟩
      have hbw2 := below_eq (w := W0) (by (first | assumption | (repeat (first | exact Below.refl _ _ | assumption | refine Below.drew ?_ | (refine Below.alloc ?_ (by simp <;> omega) _))))) hw2
      obtain ⟨hc, hfz⟩ := bcell hbw2
      clear hw2
      go_wp2_with fail
      go_region_with (first | (go_at_call_of 153 (Value.agg #[.int .i64 s1, .bool neg1, .slice A1 l1.length c1]); refine ((unhide B1) _ (by (first | assumption | (repeat (first | exact Below.refl _ _ | assumption | refine Below.drew ?_ | (refine Below.alloc ?_ (by simp <;> omega) _)))))).mono ?_; rintro e w' ⟨A5, cap5, l5, rfl, hn5, hb⟩; have hbw := below_step (w := W0) (by (first | assumption | (repeat (first | exact Below.refl _ _ | assumption | refine Below.drew ?_ | (refine Below.alloc ?_ (by simp <;> omega) _))))) hb; obtain ⟨hc, hfz⟩ := bcell hbw) | (go_at_call_of 153 (Value.agg #[.int .i64 s2, .bool neg2, .slice A2 l2.length c2]); refine ((unhide B2) _ (by (first | assumption | (repeat (first | exact Below.refl _ _ | assumption | refine Below.drew ?_ | (refine Below.alloc ?_ (by simp <;> omega) _)))))).mono ?_; rintro e w' ⟨A6, cap6, l6, rfl, hn6, hb⟩; have hn5' := hn5.below hb; have hbw := below_step (w := W0) (by (first | assumption | (repeat (first | exact Below.refl _ _ | assumption | refine Below.drew ?_ | (refine Below.alloc ?_ (by simp <;> omega) _))))) hb; obtain ⟨hc, hfz⟩ := bcell hbw) | (go_at_call 162; refine (div_any A5 A6 cap5 cap6 l5 l6 m1 m2 _ (by exact hn5') (by exact hn6) hm20 ((unhide HLEN) _ _ _ _ () hn5').2 ((unhide HLEN2) _ _ _ _ () hn6).2).mono ?_; rintro e w' ⟨A7, cap7, l7, A8, cap8, l8, rfl, hn7, hn8, hb⟩; have hbw := below_step (w := W0) (by (first | assumption | (repeat (first | exact Below.refl _ _ | assumption | refine Below.drew ?_ | (refine Below.alloc ?_ (by simp <;> omega) _))))) hb; obtain ⟨hc, hfz⟩ := bcell hbw))
      all_goals
        go_wp2_with fail
        go_region_with (first | (go_at_call_of 128 (Value.agg #[.int .i64 s1, .bool neg1, .slice A1 l1.length c1]); refine ((unhide G1) _ (by (first | assumption | (repeat (first | exact Below.refl _ _ | assumption | refine Below.drew ?_ | (refine Below.alloc ?_ (by simp <;> omega) _)))))).mono ?_; rintro e w' ⟨rfl, hb⟩; have hn7 : NatV w' A7 cap7 l7 (m1 / m2) := (by first | exact hn7.below hb | exact NatV.below (NatV.drew hn7) hb | exact NatV.below (w := World.drew _) hn7 hb); have hbw := below_step (w := W0) (by (first | assumption | (repeat (first | exact Below.refl _ _ | assumption | refine Below.drew ?_ | (refine Below.alloc ?_ (by simp <;> omega) _))))) hb; obtain ⟨hc, hfz⟩ := bcell hbw) | (go_at_call_of 128 (Value.agg #[.int .i64 s2, .bool neg2, .slice A2 l2.length c2]); refine ((unhide G2) _ (by (first | assumption | (repeat (first | exact Below.refl _ _ | assumption | refine Below.drew ?_ | (refine Below.alloc ?_ (by simp <;> omega) _)))))).mono ?_; rintro e w' ⟨rfl, hb⟩; have hn7 : NatV w' A7 cap7 l7 (m1 / m2) := (by first | exact hn7.below hb | exact NatV.below (NatV.drew hn7) hb | exact NatV.below (w := World.drew _) hn7 hb); have hbw := below_step (w := W0) (by (first | assumption | (repeat (first | exact Below.refl _ _ | assumption | refine Below.drew ?_ | (refine Below.alloc ?_ (by simp <;> omega) _))))) hb; obtain ⟨hc, hfz⟩ := bcell hbw) | (go_at_call 152; refine (signed_any ng A7 cap7 l7 (m1 / m2) _ (by exact hn7)).mono ?_; rw [← HZ.out]; rintro e w' ⟨s, neg', A', cap', l', rfl, hf, hb⟩; have hbw := below_step (w := W0) (by (first | assumption | (repeat (first | exact Below.refl _ _ | assumption | refine Below.drew ?_ | (refine Below.alloc ?_ (by simp <;> omega) _))))) hb; obtain ⟨hc, hfz⟩ := bcell hbw))
        all_goals
          have hblk : w'.heap[w.heap.size + 1 + 1]? = some (.cells #[.int .i64 0, .bool false, .slice none 0 0] 61 (0, 0)) := (hbw.block _ q2).trans N3.out
          have HBLK := Lib.hid hblk
          have hb9 : Below w.heap.size w w' := below_step' hw0 hbw
          clear hblk
          go_wp2_with fail
          exact bodyPost_ret (v := .agg #[.int .i64 s, .bool neg', .slice A' l'.length cap']) (by simp [results, Tryz.results125, go_sem, hc, k7, k8, k9, q2]) rfl
            ⟨s, neg', A', cap', l', rfl, hf.upto HBLK.out (noWord3 _ _ _ _ _) (set3_grown _ _ _ _ _), hb9.grown (set3_grown _ _ _ _ _) hb9.size (fun k hk => by injection hk with hk; omega)⟩
    · skip
      rw [decide_eq_false a1] at HS1
      clear hsz1 hsz2 hs a1
      go_enter Tryz.func125, Tryz.ntmps125
      go_wp2_with fail
      obtain ⟨n1, n2, n3, hsz, hw0⟩ := three_new w (.cells #[.int .i64 s1, .bool neg1, .slice A1 l1.length c1] 61) (.cells #[.int .i64 s2, .bool neg2, .slice A2 l2.length c2] 61) (.cells #[.int .i64 0, .bool false, .slice none 0 0] 61)
      generalize (((w.alloc (.cells #[.int .i64 s1, .bool neg1, .slice A1 l1.length c1] 61)).alloc (.cells #[.int .i64 s2, .bool neg2, .slice A2 l2.length c2] 61)).alloc (.cells #[.int .i64 0, .bool false, .slice none 0 0] 61)) = W0 at *
      have k1 := cells_of n1 0
      have k2 := cells_of n1 1
      have k3 := cells_of n1 2
      simp only [Array.getElem?_eq_getElem, three0, three1, three2] at k1 k2 k3
      have k4 := cells_of n2 0
      have k5 := cells_of n2 1
      have k6 := cells_of n2 2
      simp only [Array.getElem?_eq_getElem, three0, three1, three2] at k4 k5 k6
      have q0 : w.heap.size < W0.heap.size := by omega
      have q1 : w.heap.size + 1 < W0.heap.size := by omega
      have q2 : w.heap.size + 1 + 1 < W0.heap.size := by omega
      have k7 := cells_of n3 0
      have k8 := cells_of n3 1
      have k9 := cells_of n3 2
      simp only [Array.getElem?_eq_getElem, three0, three1, three2] at k7 k8 k9
      have f7 := unfrozen_of n3 0
      have f8 := unfrozen_of n3 1
      have f9 := unfrozen_of n3 2
      have N3 := Lib.hid n3
      clear n3
      clear n1 n2
      have G1 := (unhide HG1) W0 hw0; have G2 := (unhide HG2) W0 hw0; have B1 := (unhide HB1) W0 hw0; have B2 := (unhide HB2) W0 hw0
      refine ((unhide HS1) _).mono ?_
      rintro e w1 ⟨rfl, hw1⟩
      have hbw1 := below_eq (w := W0) (by (first | assumption | (repeat (first | exact Below.refl _ _ | assumption | refine Below.drew ?_ | (refine Below.alloc ?_ (by simp <;> omega) _))))) hw1
      obtain ⟨hc, hfz⟩ := bcell hbw1
      clear hw1
      go_wp2_with fail
      go_region_with (first | (go_at_call_of 153 (Value.agg #[.int .i64 s1, .bool neg1, .slice A1 l1.length c1]); refine ((unhide B1) _ (by (first | assumption | (repeat (first | exact Below.refl _ _ | assumption | refine Below.drew ?_ | (refine Below.alloc ?_ (by simp <;> omega) _)))))).mono ?_; rintro e w' ⟨A5, cap5, l5, rfl, hn5, hb⟩; have hbw := below_step (w := W0) (by (first | assumption | (repeat (first | exact Below.refl _ _ | assumption | refine Below.drew ?_ | (refine Below.alloc ?_ (by simp <;> omega) _))))) hb; obtain ⟨hc, hfz⟩ := bcell hbw) | (go_at_call_of 153 (Value.agg #[.int .i64 s2, .bool neg2, .slice A2 l2.length c2]); refine ((unhide B2) _ (by (first | assumption | (repeat (first | exact Below.refl _ _ | assumption | refine Below.drew ?_ | (refine Below.alloc ?_ (by simp <;> omega) _)))))).mono ?_; rintro e w' ⟨A6, cap6, l6, rfl, hn6, hb⟩; have hn5' := hn5.below hb; have hbw := below_step (w := W0) (by (first | assumption | (repeat (first | exact Below.refl _ _ | assumption | refine Below.drew ?_ | (refine Below.alloc ?_ (by simp <;> omega) _))))) hb; obtain ⟨hc, hfz⟩ := bcell hbw) | (go_at_call 162; refine (div_any A5 A6 cap5 cap6 l5 l6 m1 m2 _ (by exact hn5') (by exact hn6) hm20 ((unhide HLEN) _ _ _ _ () hn5').2 ((unhide HLEN2) _ _ _ _ () hn6).2).mono ?_; rintro e w' ⟨A7, cap7, l7, A8, cap8, l8, rfl, hn7, hn8, hb⟩; have hbw := below_step (w := W0) (by (first | assumption | (repeat (first | exact Below.refl _ _ | assumption | refine Below.drew ?_ | (refine Below.alloc ?_ (by simp <;> omega) _))))) hb; obtain ⟨hc, hfz⟩ := bcell hbw))
      all_goals
        go_wp2_with fail
        go_region_with (first | (go_at_call_of 128 (Value.agg #[.int .i64 s1, .bool neg1, .slice A1 l1.length c1]); refine ((unhide G1) _ (by (first | assumption | (repeat (first | exact Below.refl _ _ | assumption | refine Below.drew ?_ | (refine Below.alloc ?_ (by simp <;> omega) _)))))).mono ?_; rintro e w' ⟨rfl, hb⟩; have hn7 : NatV w' A7 cap7 l7 (m1 / m2) := (by first | exact hn7.below hb | exact NatV.below (NatV.drew hn7) hb | exact NatV.below (w := World.drew _) hn7 hb); have hbw := below_step (w := W0) (by (first | assumption | (repeat (first | exact Below.refl _ _ | assumption | refine Below.drew ?_ | (refine Below.alloc ?_ (by simp <;> omega) _))))) hb; obtain ⟨hc, hfz⟩ := bcell hbw) | (go_at_call_of 128 (Value.agg #[.int .i64 s2, .bool neg2, .slice A2 l2.length c2]); refine ((unhide G2) _ (by (first | assumption | (repeat (first | exact Below.refl _ _ | assumption | refine Below.drew ?_ | (refine Below.alloc ?_ (by simp <;> omega) _)))))).mono ?_; rintro e w' ⟨rfl, hb⟩; have hn7 : NatV w' A7 cap7 l7 (m1 / m2) := (by first | exact hn7.below hb | exact NatV.below (NatV.drew hn7) hb | exact NatV.below (w := World.drew _) hn7 hb); have hbw := below_step (w := W0) (by (first | assumption | (repeat (first | exact Below.refl _ _ | assumption | refine Below.drew ?_ | (refine Below.alloc ?_ (by simp <;> omega) _))))) hb; obtain ⟨hc, hfz⟩ := bcell hbw) | (go_at_call 152; refine (signed_any ng A7 cap7 l7 (m1 / m2) _ (by exact hn7)).mono ?_; rw [← HZ.out]; rintro e w' ⟨s, neg', A', cap', l', rfl, hf, hb⟩; have hbw := below_step (w := W0) (by (first | assumption | (repeat (first | exact Below.refl _ _ | assumption | refine Below.drew ?_ | (refine Below.alloc ?_ (by simp <;> omega) _))))) hb; obtain ⟨hc, hfz⟩ := bcell hbw))
        all_goals
          have hblk : w'.heap[w.heap.size + 1 + 1]? = some (.cells #[.int .i64 0, .bool false, .slice none 0 0] 61 (0, 0)) := (hbw.block _ q2).trans N3.out
          have HBLK := Lib.hid hblk
          have hb9 : Below w.heap.size w w' := below_step' hw0 hbw
          clear hblk
          go_wp2_with fail
          exact bodyPost_ret (v := .agg #[.int .i64 s, .bool neg', .slice A' l'.length cap']) (by simp [results, Tryz.results125, go_sem, hc, k7, k8, k9, q2]) rfl
            ⟨s, neg', A', cap', l', rfl, hf.upto HBLK.out (noWord3 _ _ _ _ _) (set3_grown _ _ _ _ _), hb9.grown (set3_grown _ _ _ _ _) hb9.size (fun k hk => by injection hk with hk; omega)⟩

end Go.Proofs.YtpjgoogeokbaaaaGreatDoor
/- Sums of whole numbers: small ones, with a small sum. -/
namespace Go.Proofs.YtpjgoogeokbaaaaGreatDoor
open Go.RowKit

set_option maxRecDepth 100000 in
set_option maxHeartbeats 8000000 in
theorem iadd_small (s1 : Int) (neg1 : Bool) (A1 : Option Addr) (c1 : Nat) (l1 : List Nat) (z1 : Int) (s2 : Int) (neg2 : Bool) (A2 : Option Addr) (c2 : Nat) (l2 : List Nat) (z2 : Int) (w : World)
    (h1 : IntF w s1 neg1 A1 c1 l1 z1) (h2 : IntF w s2 neg2 A2 c2 l2 z2) (hl1 : l1.length ≤ lim) (hl2 : l2.length ≤ lim) (a1 : l1.length = 0) (a2 : l2.length = 0) (hz : (z1 + z2).natAbs < M63) :
    Calls Tryz.prog 127 #[.agg #[.int .i64 s1, .bool neg1, .slice A1 l1.length c1], .agg #[.int .i64 s2, .bool neg2, .slice A2 l2.length c2]] w fun e w' => IntR w (z1 + z2) e w' := by
  have HS1 := hide (fun W => isSmall_any s1 neg1 A1 c1 l1.length W)
  have HS2 := hide (fun W => isSmall_any s2 neg2 A2 c2 l2.length W)
  rw [decide_eq_true a1] at HS1
  rw [decide_eq_true a2] at HS2
  obtain ⟨e1, en1, b1⟩ := h1.of_small a1
  obtain ⟨e2, en2, b2⟩ := h2.of_small a2
  clear en1 en2
  subst e1 e2
  obtain ⟨Z, hZ⟩ : ∃ o, o = s1 + s2 := ⟨_, rfl⟩
  rw [← hZ] at hz ⊢
  rw [M63_eq] at b1 b2
  have hz' := hz
  rw [M63_eq] at hz'
  have w1 : IntKind.i64.wrap (s1 + s2) = Z := by rw [hZ]; exact IntWalk.i64_in _ (by omega)
  have w2 : wrap64 (s1 + s2) = Z := by rw [hZ]; exact IntWalk.wrap64_in _ (by omega)
  have n1 : (Z == -9223372036854775808) = false := beq_eq_false_iff_ne.2 (by omega)
  have n2 : (Z != -9223372036854775808) = true := by simp [bne, n1]
  have HZ := hide hz
  by_cases hp : 0 < s2
  · have d1 : decide (s1 < Z) = true := decide_eq_true (by omega)
    have d2 : decide (0 < s2) = true := decide_eq_true hp
    clear h1 h2 hl1 hl2 a1 a2 hz hz' hZ b1 b2 hp
    go_enter Tryz.func127, Tryz.ntmps127
    go_wp2_with fail
    obtain ⟨n1, n2, n3, hsz, hw0⟩ := three_new w (.cells #[.int .i64 s1, .bool neg1, .slice A1 l1.length c1] 61) (.cells #[.int .i64 s2, .bool neg2, .slice A2 l2.length c2] 61) (.cells #[.int .i64 0, .bool false, .slice none 0 0] 61)
    generalize (((w.alloc (.cells #[.int .i64 s1, .bool neg1, .slice A1 l1.length c1] 61)).alloc (.cells #[.int .i64 s2, .bool neg2, .slice A2 l2.length c2] 61)).alloc (.cells #[.int .i64 0, .bool false, .slice none 0 0] 61)) = W0 at *
    have k1 := cells_of n1 0
    have k2 := cells_of n1 1
    have k3 := cells_of n1 2
    simp only [Array.getElem?_eq_getElem, three0, three1, three2] at k1 k2 k3
    have k4 := cells_of n2 0
    have k5 := cells_of n2 1
    have k6 := cells_of n2 2
    simp only [Array.getElem?_eq_getElem, three0, three1, three2] at k4 k5 k6
    have q0 : w.heap.size < W0.heap.size := by omega
    have q1 : w.heap.size + 1 < W0.heap.size := by omega
    have q2 : w.heap.size + 1 + 1 < W0.heap.size := by omega
    have k7 := cells_of n3 0
    have k8 := cells_of n3 1
    have k9 := cells_of n3 2
    simp only [Array.getElem?_eq_getElem, three0, three1, three2] at k7 k8 k9
    have f7 := unfrozen_of n3 0
    have f8 := unfrozen_of n3 1
    have f9 := unfrozen_of n3 2
    have N3 := Lib.hid n3
    clear n3
    clear n1 n2
    refine ((unhide HS1) _).mono ?_
    rintro e w1 ⟨rfl, hw1⟩
    have hbw1 := below_eq (w := W0) (by (first | assumption | (repeat (first | exact Below.refl _ _ | assumption | refine Below.drew ?_ | (refine Below.alloc ?_ (by simp <;> omega) _))))) hw1
    obtain ⟨hc, hfz⟩ := bcell hbw1
    clear hw1
    go_wp2_with fail
    refine ((unhide HS2) _).mono ?_
    rintro e w2 ⟨rfl, hw2⟩
    have hbw2 := below_eq (w := W0) (by (first | assumption | (repeat (first | exact Below.refl _ _ | assumption | refine Below.drew ?_ | (refine Below.alloc ?_ (by simp <;> omega) _))))) hw2
    obtain ⟨hc, hfz⟩ := bcell hbw2
    clear hw2
    go_wp2_with fail
    have hbw : Below W0.heap.size W0 w2 := by (first | assumption | (repeat (first | exact Below.refl _ _ | assumption | refine Below.drew ?_ | (refine Below.alloc ?_ (by simp <;> omega) _))))
    have hblk : w2.heap[w.heap.size + 1 + 1]? = some (.cells #[.int .i64 0, .bool false, .slice none 0 0] 61 (0, 0)) := (hbw.block _ q2).trans N3.out
    have hb9 : Below w.heap.size w w2 := below_step' hw0 hbw
    exact bodyPost_ret (v := .agg #[.int .i64 Z, .bool false, .slice none 0 0]) (by simp [results, Tryz.results127, go_sem, hc, k7, k8, k9, q2]) rfl
      ⟨Z, false, none, 0, [], rfl, IntF.small (unhide HZ), hb9.grown (set3_grown _ _ _ _ _) hb9.size (fun k hk => by injection hk with hk; omega)⟩
  · have d1 : decide (s1 < Z) = false := decide_eq_false (by omega)
    have d2 : decide (0 < s2) = false := decide_eq_false hp
    clear h1 h2 hl1 hl2 a1 a2 hz hz' hZ b1 b2 hp
    go_enter Tryz.func127, Tryz.ntmps127
    go_wp2_with fail
    obtain ⟨n1, n2, n3, hsz, hw0⟩ := three_new w (.cells #[.int .i64 s1, .bool neg1, .slice A1 l1.length c1] 61) (.cells #[.int .i64 s2, .bool neg2, .slice A2 l2.length c2] 61) (.cells #[.int .i64 0, .bool false, .slice none 0 0] 61)
    generalize (((w.alloc (.cells #[.int .i64 s1, .bool neg1, .slice A1 l1.length c1] 61)).alloc (.cells #[.int .i64 s2, .bool neg2, .slice A2 l2.length c2] 61)).alloc (.cells #[.int .i64 0, .bool false, .slice none 0 0] 61)) = W0 at *
    have k1 := cells_of n1 0
    have k2 := cells_of n1 1
    have k3 := cells_of n1 2
    simp only [Array.getElem?_eq_getElem, three0, three1, three2] at k1 k2 k3
    have k4 := cells_of n2 0
    have k5 := cells_of n2 1
    have k6 := cells_of n2 2
    simp only [Array.getElem?_eq_getElem, three0, three1, three2] at k4 k5 k6
    have q0 : w.heap.size < W0.heap.size := by omega
    have q1 : w.heap.size + 1 < W0.heap.size := by omega
    have q2 : w.heap.size + 1 + 1 < W0.heap.size := by omega
    have k7 := cells_of n3 0
    have k8 := cells_of n3 1
    have k9 := cells_of n3 2
    simp only [Array.getElem?_eq_getElem, three0, three1, three2] at k7 k8 k9
    have f7 := unfrozen_of n3 0
    have f8 := unfrozen_of n3 1
    have f9 := unfrozen_of n3 2
    have N3 := Lib.hid n3
    clear n3
    clear n1 n2
    refine ((unhide HS1) _).mono ?_
    rintro e w1 ⟨rfl, hw1⟩
    have hbw1 := below_eq (w := W0) (by (first | assumption | (repeat (first | exact Below.refl _ _ | assumption | refine Below.drew ?_ | (refine Below.alloc ?_ (by simp <;> omega) _))))) hw1
    obtain ⟨hc, hfz⟩ := bcell hbw1
    clear hw1
    go_wp2_with fail
    refine ((unhide HS2) _).mono ?_
    rintro e w2 ⟨rfl, hw2⟩
    have hbw2 := below_eq (w := W0) (by (first | assumption | (repeat (first | exact Below.refl _ _ | assumption | refine Below.drew ?_ | (refine Below.alloc ?_ (by simp <;> omega) _))))) hw2
    obtain ⟨hc, hfz⟩ := bcell hbw2
    clear hw2
    go_wp2_with fail
    have hbw : Below W0.heap.size W0 w2 := by (first | assumption | (repeat (first | exact Below.refl _ _ | assumption | refine Below.drew ?_ | (refine Below.alloc ?_ (by simp <;> omega) _))))
    have hblk : w2.heap[w.heap.size + 1 + 1]? = some (.cells #[.int .i64 0, .bool false, .slice none 0 0] 61 (0, 0)) := (hbw.block _ q2).trans N3.out
    have hb9 : Below w.heap.size w w2 := below_step' hw0 hbw
    exact bodyPost_ret (v := .agg #[.int .i64 Z, .bool false, .slice none 0 0]) (by simp [results, Tryz.results127, go_sem, hc, k7, k8, k9, q2]) rfl
      ⟨Z, false, none, 0, [], rfl, IntF.small (unhide HZ), hb9.grown (set3_grown _ _ _ _ _) hb9.size (fun k hk => by injection hk with hk; omega)⟩

end Go.Proofs.YtpjgoogeokbaaaaGreatDoor
