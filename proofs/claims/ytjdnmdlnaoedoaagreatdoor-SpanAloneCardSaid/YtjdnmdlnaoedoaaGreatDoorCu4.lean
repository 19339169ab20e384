/- Texts beneath a law of layer 1. -/
import Derived.Test.YtjdnmdlnaoedoaaGreatDoorCu3
import Derived.Deep.RegionHeld3
import Derived.IntWalk
set_option maxRecDepth 100000
set_option maxHeartbeats 16000000
namespace Go.Proofs.YtjdnmdlnaoedoaaGreatDoor
open Go.RowKit

theorem cu {w W w' : World} (h : Below w.heap.size w W) (hb : Below W.heap.size W w') : Below w.heap.size w w' := h.trans (hb.mono h.size)

theorem bz {w W w' : World} (h : Below w.heap.size w W) (hb : Below W.heap.size W w') : Below w.heap.size w w' := h.trans (hb.mono h.size)

theorem ait {w : World} {A : Option Addr} {cap : Nat} {l : List Nat} {n : Nat} (h : lv w A cap l n) (hl : 1 < l.length) (neg : Bool) : ig w 0 neg A cap l (if neg then -(n : Int) else (n : Int)) := by
 have h1 := Wd.Xf (B := fo) l h.norm (by rintro rfl; simp at hl)
 have h2 : fo ^ 1 ≤ fo ^ (l.length - 1) := Nat.pow_le_pow_right (Nat.lt_trans Nat.zero_lt_one qj) om
 rw [h.val, ] at h1
 rw [Nat.pow_one] at h2
 have h3 : Kh ≤ n ∧ 0 < n := by
  have : Kh ≤ fo := by rw [zn, ic]; omega
  have : 0 < fo := Nat.lt_trans Nat.zero_lt_one qj
  omega
 refine ⟨⟨n, h⟩, .inr ⟨by omega, rfl, ?_, ?_, ?_⟩⟩
 ·
  cases neg <;> simp <;> omega
 ·
  rw [h.val]; cases neg <;> simp
 ·
  cases neg <;> simp <;> exact h3.1

theorem Bc (neg : Bool) (A : Option Addr) (cap : Nat) (l : List Nat) (n : Nat) (w : World) (h : lv w A cap l n) :
  Calls Tryz.prog 170 #[.bool neg, .slice A l.length cap] w fun e w' => En w (if neg then -(n : Int) else (n : Int)) e w' := by
 have hc1 := h.tu; have hc2 := h.cap2
 by_cases hl : 1 < l.length
 ·
  have b1 : decide ((1 : Int) < (l.length : Int)) = true := decide_eq_true om
  have hf := ait h hl neg
  obtain ⟨z, hz⟩ : ∃ z, z = if neg then -(n : Int) else (n : Int) := ⟨_, rfl⟩
  rw [← hz] at hf ⊢
  have HF := hide hf
  clear hf hz hl h
  go_enter Tryz.func170, Tryz.ntmps170
  go_wp2_with fail
  exact bodyPost_ret (v := .agg #[.int .i64 0, .bool neg, .slice A l.length cap]) (by simp [results, Tryz.results170, go_sem]) rfl ⟨0, neg, A, cap, l, rfl, (aa HF).below ((Below.refl _ _).alloc (Nat.le_refl _) _), (Below.refl _ _).alloc (Nat.le_refl _) _⟩
 ·
  have b1 : decide ((1 : Int) < (l.length : Int)) = false := decide_eq_false om
  obtain ⟨e1, e2⟩ := aby h om
  have hlim := fun W (hW : Below w.heap.size w W) => Ky A cap l W.heap.size 0 W (h.below hW).ws hc1 hc2 om
  rw [e1] at hlim
  have HL := hide hlim
  have HW := hide (fun W => Sl neg n e2 W)
  obtain ⟨z, hz⟩ : ∃ z, z = if neg then -(n : Int) else (n : Int) := ⟨_, rfl⟩
  rw [← hz] at HW ⊢
  clear hz hl h e1 e2 hlim
  go_enter Tryz.func170, Tryz.ntmps170
  go_wp2_with fail
  refine ((aa HL) _ ((Below.refl _ _).alloc (Nat.le_refl _) _)).mono ?_
  rintro e w1 ⟨rfl, rfl⟩
  go_wp2_with fail
  refine ((aa HW) _).mono ?_
  rintro e w2 ⟨s, su, A', cap', l', rfl, hf, hb⟩
  obtain ⟨hc, hfz⟩ := fu hb
  have hsz : w.heap.size < w2.heap.size := by have := hb.size; simp at this; omega
  have hblk : w2.heap[w.heap.size]? = some (.cells #[.int .i64 0, .bool false, .slice none 0 0] 72 (0, 0)) := (hb.block _ (by simp)).trans (heap_alloc_new w _)
  have kg := Lib.hid hblk
  clear hblk
  go_wp2_with fail
  exact bodyPost_ret (v := .agg #[.int .i64 s, .bool su, .slice A' l'.length cap']) (by simp [results, Tryz.results170, go_sem, hc, hsz]) rfl
   ⟨s, su, A', cap', l', rfl, hf.upto kg.out (ze _ _ _ _ _) (jl _ _ _ _ _), (((Below.refl _ _).alloc (Nat.le_refl _) _).trans (hb.mono (by simp))).grown (jl _ _ _ _ _) om (fun k hk => by injection hk with hk; omega)⟩

theorem ig.Bl {w : World} {s : Int} {neg : Bool} {A : Option Addr} {cap : Nat} {l : List Nat} {z : Int} (h : ig w s neg A cap l z) (hl : l.length = 0) : s = z ∧ neg = false ∧ z.natAbs < Kh := by
 rcases h.form with ⟨_, h1, h2, h3⟩ | ⟨h1, _⟩
 ·
  exact ⟨h2, h1, h3⟩
 ·
  omega

theorem avn (x y : Int) (w : World) :
  Calls Tryz.prog 174 #[.int .i64 x, .int .i64 y] w fun e w' => e = .returned (.int .i64 (iw (x - y))) ∧ w' = w := by
 go_enter Tryz.func174, Tryz.ntmps174
 go_wp2
 ·
  have h : x < y := by assumption
  go_ret
  exact ⟨wy (by unfold iw; rw [if_pos om]), rfl⟩
 ·
  have h : y < x := by assumption
  go_ret
  exact ⟨wy (by unfold iw; rw [if_neg om, if_pos om]), rfl⟩
 ·
  have h1 : y ≤ x := by assumption
  have h2 : x ≤ y := by assumption
  go_ret
  exact ⟨wy (by unfold iw; rw [if_neg om, if_neg om]), rfl⟩

theorem uu (w : World) (o1 o2 : Obj) : ((w.alloc o1).alloc o2).heap[w.heap.size]? = some o1 ∧ ((w.alloc o1).alloc o2).heap[w.heap.size + 1]? = some o2 ∧ ((w.alloc o1).alloc o2).heap.size = w.heap.size + 2 ∧ Below w.heap.size w ((w.alloc o1).alloc o2) := by
 refine ⟨(Below.heap_alloc _ _ _ (by simp)).trans (heap_alloc_new w o1), ?_, by simp, ((Below.refl _ _).alloc (Nat.le_refl _) _).alloc (by simp) _⟩
 have := heap_alloc_new (w.alloc o1) o2
 rwa [World.size_alloc] at this
theorem nu (w : World) (o1 o2 o3 : Obj) : (((w.alloc o1).alloc o2).alloc o3).heap[w.heap.size]? = some o1 ∧ (((w.alloc o1).alloc o2).alloc o3).heap[w.heap.size + 1]? = some o2 ∧ (((w.alloc o1).alloc o2).alloc o3).heap[w.heap.size + 1 + 1]? = some o3 ∧ (((w.alloc o1).alloc o2).alloc o3).heap.size = w.heap.size + 3 ∧ Below w.heap.size w (((w.alloc o1).alloc o2).alloc o3) := by
 obtain ⟨h1, h2, h3, h4⟩ := uu w o1 o2
 refine ⟨(Below.heap_alloc _ _ _ om).trans h1, (Below.heap_alloc _ _ _ om).trans h2, ?_, by simp, h4.alloc om _⟩
 have := heap_alloc_new ((w.alloc o1).alloc o2) o3
 rwa [h3] at this
theorem ah {w : World} {b : Nat} {cs : Array Value} {T : TypeId} {fr : Nat × Nat} (h : w.heap[b]? = some (.cells cs T fr)) (i : Nat) : w.cell? ⟨b, i, none⟩ = cs[i]? := by
 simp [World.cell?, h]
theorem jw (a b c : Value) : #[a, b, c][0]? = some a := rfl
theorem jr (a b c : Value) : #[a, b, c][1]? = some b := rfl
theorem jq (a b c : Value) : #[a, b, c][2]? = some c := rfl

theorem aiw {z1 z2 : Int} (h : iw z1 = iw z2) : iw z1 * uk z1.natAbs z2.natAbs = iw (z1 - z2) := by
 unfold iw uk at *
 by_cases a1 : z1 < 0 <;> by_cases a2 : z2 < 0 <;> by_cases a3 : 0 < z1 <;> by_cases a4 : 0 < z2 <;> simp only [a1, a2, a3, a4, if_true, if_false] at h ⊢ <;> try omega
 all_goals
  (repeat' split) <;> omega
theorem aym {z1 z2 : Int} (h : iw z1 ≠ iw z2) : iw (iw z1 - iw z2) = iw (z1 - z2) := by
 unfold iw at *
 by_cases a1 : z1 < 0 <;> by_cases a2 : z2 < 0 <;> by_cases a3 : 0 < z1 <;> by_cases a4 : 0 < z2 <;> simp only [a1, a2, a3, a4, if_true, if_false] at h ⊢ <;> first | omega | ((repeat' split) <;> omega)

theorem agh (s1 : Int) (dw : Bool) (A1 : Option Addr) (c1 : Nat) (l1 : List Nat) (z1 : Int) (s2 : Int) (ek : Bool) (A2 : Option Addr) (c2 : Nat) (l2 : List Nat) (z2 : Int) (w : World)
  (h1 : ig w s1 dw A1 c1 l1 z1) (h2 : ig w s2 ek A2 c2 l2 z2) :
  Calls Tryz.prog 136 #[.agg #[.int .i64 s1, .bool dw, .slice A1 l1.length c1], .agg #[.int .i64 s2, .bool ek, .slice A2 l2.length c2]] w fun e w' => e = .returned (.int .i64 (iw (z1 - z2))) ∧ Below w.heap.size w w' := by
 have qm := hide (fun W => uh s1 dw A1 c1 l1.length W)
 have HS2 := hide (fun W => uh s2 ek A2 c2 l2.length W)
 by_cases hs : l1.length = 0 ∧ l2.length = 0
 ·
  obtain ⟨a1, a2⟩ := hs
  rw [decide_eq_true a1] at qm
  rw [decide_eq_true a2] at HS2
  have e1 := (h1.Bl a1).1
  have e2 := (h2.Bl a2).1
  subst e1 e2
  have HC := hide (fun W => ads s1 s2 W)
  clear a1 a2 h1 h2
  go_enter Tryz.func136, Tryz.ntmps136
  go_wp2_with fail
  refine ((aa qm) _).mono ?_
  rintro e w1 ⟨rfl, rfl⟩
  go_wp2_with fail
  refine ((aa HS2) _).mono ?_
  rintro e w1 ⟨rfl, rfl⟩
  go_wp2_with fail
  refine ((aa HC) _).mono ?_
  rintro e w1 ⟨rfl, rfl⟩
  go_wp2_with fail
  go_ret
  refine ⟨rfl, ?_⟩
  repeat (first | exact Below.refl _ _ | refine Below.drew ?_ | (refine Below.alloc ?_ (by simp <;> omega) _))
 ·
  have hcase : (decide (l1.length = 0) = false) ∨ (decide (l1.length = 0) = true ∧ decide (l2.length = 0) = false) := by
   by_cases h : l1.length = 0
   ·
    exact .inr ⟨decide_eq_true h, decide_eq_false om⟩
   ·
    exact .inl (decide_eq_false h)
  by_cases hsg : iw z1 = iw z2
  ·
   have hne : (iw z1 != iw z2) = false := by rw [hsg]; simp
   have hsub := aiw hsg
   have G1 : ∀ W0, Below w.heap.size w W0 → Hid (∀ W, Below W0.heap.size W0 W → Calls Tryz.prog 146 #[.agg #[.int .i64 s1, .bool dw, .slice A1 l1.length c1]] W fun e w' => e = .returned (.int .i64 (iw z1)) ∧ Below W.heap.size W w') := fun W0 h0 W hW => Ap s1 dw A1 c1 l1 z1 W (ig.below h1 (bz h0 hW))
   have G2 : ∀ W0, Below w.heap.size w W0 → Hid (∀ W, Below W0.heap.size W0 W → Calls Tryz.prog 146 #[.agg #[.int .i64 s2, .bool ek, .slice A2 l2.length c2]] W fun e w' => e = .returned (.int .i64 (iw z2)) ∧ Below W.heap.size W w') := fun W0 h0 W hW => Ap s2 ek A2 c2 l2 z2 W (ig.below h2 (bz h0 hW))
   have B1 : ∀ W0, Below w.heap.size w W0 → Hid (∀ W, Below W0.heap.size W0 W → Calls Tryz.prog 171 #[.agg #[.int .i64 s1, .bool dw, .slice A1 l1.length c1]] W fun e w' => Fw W z1.natAbs e w') := fun W0 h0 W hW => Dy s1 dw A1 c1 l1 z1 W (ig.below h1 (bz h0 hW))
   have B2 : ∀ W0, Below w.heap.size w W0 → Hid (∀ W, Below W0.heap.size W0 W → Calls Tryz.prog 171 #[.agg #[.int .i64 s2, .bool ek, .slice A2 l2.length c2]] W fun e w' => Fw W z2.natAbs e w') := fun W0 h0 W hW => Dy s2 ek A2 c2 l2 z2 W (ig.below h2 (bz h0 hW))
   have ho : -1 ≤ iw z1 * uk z1.natAbs z2.natAbs ∧ iw z1 * uk z1.natAbs z2.natAbs ≤ 1 := by rw [hsub]; unfold iw; (repeat' split) <;> omega
   obtain ⟨m1, hn1⟩ : ∃ o, o = z1.natAbs := ⟨_, rfl⟩
   obtain ⟨m2, hn2⟩ : ∃ o, o = z2.natAbs := ⟨_, rfl⟩
   obtain ⟨o1, ho1⟩ : ∃ o, o = iw z1 := ⟨_, rfl⟩
   obtain ⟨o2, ho2⟩ : ∃ o, o = iw z2 := ⟨_, rfl⟩
   rw [← ho1] at G1 hne hsub ho
   rw [← ho2] at G2 hne
   rw [← hn1] at B1 hsub ho
   rw [← hn2] at B2 hsub ho
   obtain ⟨od, hod⟩ : ∃ o, o = uk m1 m2 := ⟨_, rfl⟩
   rw [← hod] at hsub ho
   have e1 : IntKind.i64.wrap (o1 * od) = o1 * od := IntWalk.i64_in _ om
   have Wu := Lib.hid hsub; have HOD := Lib.hid hod
   have Ep := hide G1; have HG2 := hide G2; have HB1 := hide B1; have HB2 := hide B2
   clear hsg ho1 ho2 hsub hs G1 G2 B1 B2 h1 h2 hn1 hn2 hod ho
   rcases hcase with hc1 | ⟨hc1, hc2⟩
   ·
    rw [hc1] at qm
    clear hc1
    go_enter Tryz.func136, Tryz.ntmps136
    go_wp2_with fail
    obtain ⟨n1, n2, hsz, hw0⟩ := uu w (.cells #[.int .i64 s1, .bool dw, .slice A1 l1.length c1] 72) (.cells #[.int .i64 s2, .bool ek, .slice A2 l2.length c2] 72)
    generalize (((w.alloc (.cells #[.int .i64 s1, .bool dw, .slice A1 l1.length c1] 72)).alloc (.cells #[.int .i64 s2, .bool ek, .slice A2 l2.length c2] 72))) = W0 at *
    have k1 := ah n1 0
    have k2 := ah n1 1
    have k3 := ah n1 2
    simp only [Array.getElem?_eq_getElem, jw, jr, jq] at k1 k2 k3
    have k4 := ah n2 0
    have k5 := ah n2 1
    have k6 := ah n2 2
    simp only [Array.getElem?_eq_getElem, jw, jr, jq] at k4 k5 k6
    have q0 : w.heap.size < W0.heap.size := by omega
    have q1 : w.heap.size + 1 < W0.heap.size := by omega
    refine ((aa qm) _).mono ?_
    rintro e w1 ⟨rfl, hw1⟩
    have hbw : Below W0.heap.size W0 w1 := by rw [hw1]; exact (Below.refl _ _).alloc (Nat.le_refl _) _
    obtain ⟨hc, hfz⟩ := fu hbw
    clear hw1
    go_wp2_with fail
    have G1 := (aa Ep) W0 hw0; have G2 := (aa HG2) W0 hw0; have B1 := (aa HB1) W0 hw0; have B2 := (aa HB2) W0 hw0
    go_region_held3 (fun w' => w'.cell? ⟨w.heap.size, 0, none⟩ = some (.int .i64 s1) ∧ w'.cell? ⟨w.heap.size, 1, none⟩ = some (.bool dw) ∧ w'.cell? ⟨w.heap.size, 2, none⟩ = some (.slice A1 l1.length c1) ∧ w'.cell? ⟨w.heap.size + 1, 0, none⟩ = some (.int .i64 s2) ∧ w'.cell? ⟨w.heap.size + 1, 1, none⟩ = some (.bool ek) ∧ w'.cell? ⟨w.heap.size + 1, 2, none⟩ = some (.slice A2 l2.length c2)) ((first | exact ⟨(hc _ _ q0).trans k1, (hc _ _ q0).trans k2, (hc _ _ q0).trans k3, (hc _ _ q1).trans k4, (hc _ _ q1).trans k5, (hc _ _ q1).trans k6⟩ | exact ⟨k1, k2, k3, k4, k5, k6⟩)) (first | (go_at_call_of 146 (Value.agg #[.int .i64 s1, .bool dw, .slice A1 l1.length c1]); refine ((aa G1) _ bem).mono ?_; rintro e w' ⟨rfl, hb⟩; have hbw := cu (w := W0) bem hb; obtain ⟨hc, hfz⟩ := fu hbw) | (go_at_call_of 146 (Value.agg #[.int .i64 s2, .bool ek, .slice A2 l2.length c2]); refine ((aa G2) _ bem).mono ?_; rintro e w' ⟨rfl, hb⟩; have hbw := cu (w := W0) bem hb; obtain ⟨hc, hfz⟩ := fu hbw))
    go_wp2_with fail
    go_region_held3 (fun w' => w'.cell? ⟨w.heap.size, 0, none⟩ = some (.int .i64 s1) ∧ w'.cell? ⟨w.heap.size, 1, none⟩ = some (.bool dw) ∧ w'.cell? ⟨w.heap.size, 2, none⟩ = some (.slice A1 l1.length c1) ∧ w'.cell? ⟨w.heap.size + 1, 0, none⟩ = some (.int .i64 s2) ∧ w'.cell? ⟨w.heap.size + 1, 1, none⟩ = some (.bool ek) ∧ w'.cell? ⟨w.heap.size + 1, 2, none⟩ = some (.slice A2 l2.length c2)) ((first | exact ⟨(hc _ _ q0).trans k1, (hc _ _ q0).trans k2, (hc _ _ q0).trans k3, (hc _ _ q1).trans k4, (hc _ _ q1).trans k5, (hc _ _ q1).trans k6⟩ | exact ⟨k1, k2, k3, k4, k5, k6⟩)) (first | (go_at_call_of 146 (Value.agg #[.int .i64 s1, .bool dw, .slice A1 l1.length c1]); refine ((aa G1) _ bem).mono ?_; rintro e w' ⟨rfl, hb⟩; have hbw := cu (w := W0) bem hb; obtain ⟨hc, hfz⟩ := fu hbw) | (go_at_call_of 146 (Value.agg #[.int .i64 s2, .bool ek, .slice A2 l2.length c2]); refine ((aa G2) _ bem).mono ?_; rintro e w' ⟨rfl, hb⟩; have hbw := cu (w := W0) bem hb; obtain ⟨hc, hfz⟩ := fu hbw) | (go_at_call_of 171 (Value.agg #[.int .i64 s1, .bool dw, .slice A1 l1.length c1]); refine ((aa B1) _ bem).mono ?_; rintro e w' ⟨A5, cap5, l5, rfl, yw, hb⟩; have hbw := cu (w := W0) bem hb; obtain ⟨hc, hfz⟩ := fu hbw) | (go_at_call_of 171 (Value.agg #[.int .i64 s2, .bool ek, .slice A2 l2.length c2]); refine ((aa B2) _ bem).mono ?_; rintro e w' ⟨A6, cap6, l6, rfl, oo, hb⟩; have kz := yw.below hb; have hbw := cu (w := W0) bem hb; obtain ⟨hc, hfz⟩ := fu hbw) | (go_at_call 175; refine (Lc A5 A6 cap5 cap6 l5 l6 m1 m2 _ (by exact kz) (by exact oo)).mono ?_; rintro e w' ⟨rfl, kd, hw3⟩; subst hw3; rw [← HOD.out]))
    go_wp2_with fail
    go_ret
    exact ⟨wy Wu.out, bz hw0 (qb bem _)⟩
   ·
    rw [hc1] at qm
    rw [hc2] at HS2
    clear hc1 hc2
    go_enter Tryz.func136, Tryz.ntmps136
    go_wp2_with fail
    obtain ⟨n1, n2, hsz, hw0⟩ := uu w (.cells #[.int .i64 s1, .bool dw, .slice A1 l1.length c1] 72) (.cells #[.int .i64 s2, .bool ek, .slice A2 l2.length c2] 72)
    generalize (((w.alloc (.cells #[.int .i64 s1, .bool dw, .slice A1 l1.length c1] 72)).alloc (.cells #[.int .i64 s2, .bool ek, .slice A2 l2.length c2] 72))) = W0 at *
    have k1 := ah n1 0
    have k2 := ah n1 1
    have k3 := ah n1 2
    simp only [Array.getElem?_eq_getElem, jw, jr, jq] at k1 k2 k3
    have k4 := ah n2 0
    have k5 := ah n2 1
    have k6 := ah n2 2
    simp only [Array.getElem?_eq_getElem, jw, jr, jq] at k4 k5 k6
    have q0 : w.heap.size < W0.heap.size := by omega
    have q1 : w.heap.size + 1 < W0.heap.size := by omega
    refine ((aa qm) _).mono ?_
    rintro e w1 ⟨rfl, hw1⟩
    have hbw : Below W0.heap.size W0 w1 := by rw [hw1]; exact (Below.refl _ _).alloc (Nat.le_refl _) _
    obtain ⟨hc, hfz⟩ := fu hbw
    clear hw1
    go_wp2_with fail
    refine ((aa HS2) _).mono ?_
    rintro e w2 ⟨rfl, hw2⟩
    have hbw2 : Below W0.heap.size W0 w2 := by rw [hw2]; exact hbw.alloc hbw.size _
    clear hc hfz
    obtain ⟨hc, hfz⟩ := fu hbw2
    clear hw2
    go_wp2_with fail
    have G1 := (aa Ep) W0 hw0; have G2 := (aa HG2) W0 hw0; have B1 := (aa HB1) W0 hw0; have B2 := (aa HB2) W0 hw0
    go_region_held3 (fun w' => w'.cell? ⟨w.heap.size, 0, none⟩ = some (.int .i64 s1) ∧ w'.cell? ⟨w.heap.size, 1, none⟩ = some (.bool dw) ∧ w'.cell? ⟨w.heap.size, 2, none⟩ = some (.slice A1 l1.length c1) ∧ w'.cell? ⟨w.heap.size + 1, 0, none⟩ = some (.int .i64 s2) ∧ w'.cell? ⟨w.heap.size + 1, 1, none⟩ = some (.bool ek) ∧ w'.cell? ⟨w.heap.size + 1, 2, none⟩ = some (.slice A2 l2.length c2)) ((first | exact ⟨(hc _ _ q0).trans k1, (hc _ _ q0).trans k2, (hc _ _ q0).trans k3, (hc _ _ q1).trans k4, (hc _ _ q1).trans k5, (hc _ _ q1).trans k6⟩ | exact ⟨k1, k2, k3, k4, k5, k6⟩)) (first | (go_at_call_of 146 (Value.agg #[.int .i64 s1, .bool dw, .slice A1 l1.length c1]); refine ((aa G1) _ bem).mono ?_; rintro e w' ⟨rfl, hb⟩; have hbw := cu (w := W0) bem hb; obtain ⟨hc, hfz⟩ := fu hbw) | (go_at_call_of 146 (Value.agg #[.int .i64 s2, .bool ek, .slice A2 l2.length c2]); refine ((aa G2) _ bem).mono ?_; rintro e w' ⟨rfl, hb⟩; have hbw := cu (w := W0) bem hb; obtain ⟨hc, hfz⟩ := fu hbw))
    go_wp2_with fail
    go_region_held3 (fun w' => w'.cell? ⟨w.heap.size, 0, none⟩ = some (.int .i64 s1) ∧ w'.cell? ⟨w.heap.size, 1, none⟩ = some (.bool dw) ∧ w'.cell? ⟨w.heap.size, 2, none⟩ = some (.slice A1 l1.length c1) ∧ w'.cell? ⟨w.heap.size + 1, 0, none⟩ = some (.int .i64 s2) ∧ w'.cell? ⟨w.heap.size + 1, 1, none⟩ = some (.bool ek) ∧ w'.cell? ⟨w.heap.size + 1, 2, none⟩ = some (.slice A2 l2.length c2)) ((first | exact ⟨(hc _ _ q0).trans k1, (hc _ _ q0).trans k2, (hc _ _ q0).trans k3, (hc _ _ q1).trans k4, (hc _ _ q1).trans k5, (hc _ _ q1).trans k6⟩ | exact ⟨k1, k2, k3, k4, k5, k6⟩)) (first | (go_at_call_of 146 (Value.agg #[.int .i64 s1, .bool dw, .slice A1 l1.length c1]); refine ((aa G1) _ bem).mono ?_; rintro e w' ⟨rfl, hb⟩; have hbw := cu (w := W0) bem hb; obtain ⟨hc, hfz⟩ := fu hbw) | (go_at_call_of 146 (Value.agg #[.int .i64 s2, .bool ek, .slice A2 l2.length c2]); refine ((aa G2) _ bem).mono ?_; rintro e w' ⟨rfl, hb⟩; have hbw := cu (w := W0) bem hb; obtain ⟨hc, hfz⟩ := fu hbw) | (go_at_call_of 171 (Value.agg #[.int .i64 s1, .bool dw, .slice A1 l1.length c1]); refine ((aa B1) _ bem).mono ?_; rintro e w' ⟨A5, cap5, l5, rfl, yw, hb⟩; have hbw := cu (w := W0) bem hb; obtain ⟨hc, hfz⟩ := fu hbw) | (go_at_call_of 171 (Value.agg #[.int .i64 s2, .bool ek, .slice A2 l2.length c2]); refine ((aa B2) _ bem).mono ?_; rintro e w' ⟨A6, cap6, l6, rfl, oo, hb⟩; have kz := yw.below hb; have hbw := cu (w := W0) bem hb; obtain ⟨hc, hfz⟩ := fu hbw) | (go_at_call 175; refine (Lc A5 A6 cap5 cap6 l5 l6 m1 m2 _ (by exact kz) (by exact oo)).mono ?_; rintro e w' ⟨rfl, kd, hw3⟩; subst hw3; rw [← HOD.out]))
    go_wp2_with fail
    go_ret
    exact ⟨wy Wu.out, bz hw0 (qb bem _)⟩
  ·
   have hne : (iw z1 != iw z2) = true := bne_iff_ne.2 hsg
   have hsub := aym hsg
   obtain ⟨o1, ho1⟩ : ∃ o, o = iw z1 := ⟨_, rfl⟩
   obtain ⟨o2, ho2⟩ : ∃ o, o = iw z2 := ⟨_, rfl⟩
   have G1 : ∀ W0, Below w.heap.size w W0 → Hid (∀ W, Below W0.heap.size W0 W → Calls Tryz.prog 146 #[.agg #[.int .i64 s1, .bool dw, .slice A1 l1.length c1]] W fun e w' => e = .returned (.int .i64 (iw z1)) ∧ Below W.heap.size W w') := fun W0 h0 W hW => Ap s1 dw A1 c1 l1 z1 W (ig.below h1 (bz h0 hW))
   have G2 : ∀ W0, Below w.heap.size w W0 → Hid (∀ W, Below W0.heap.size W0 W → Calls Tryz.prog 146 #[.agg #[.int .i64 s2, .bool ek, .slice A2 l2.length c2]] W fun e w' => e = .returned (.int .i64 (iw z2)) ∧ Below W.heap.size W w') := fun W0 h0 W hW => Ap s2 ek A2 c2 l2 z2 W (ig.below h2 (bz h0 hW))
   rw [← ho1] at G1 hne hsub
   rw [← ho2] at G2 hne hsub
   have Wu := Lib.hid hsub
   have Ep := hide G1; have HG2 := hide G2
   have HCI := hide (fun W => avn o1 o2 W)
   clear hsg ho1 ho2 hsub hs G1 G2 h1 h2
   rcases hcase with hc1 | ⟨hc1, hc2⟩
   ·
    rw [hc1] at qm
    clear hc1
    go_enter Tryz.func136, Tryz.ntmps136
    go_wp2_with fail
    obtain ⟨n1, n2, hsz, hw0⟩ := uu w (.cells #[.int .i64 s1, .bool dw, .slice A1 l1.length c1] 72) (.cells #[.int .i64 s2, .bool ek, .slice A2 l2.length c2] 72)
    generalize (((w.alloc (.cells #[.int .i64 s1, .bool dw, .slice A1 l1.length c1] 72)).alloc (.cells #[.int .i64 s2, .bool ek, .slice A2 l2.length c2] 72))) = W0 at *
    have k1 := ah n1 0
    have k2 := ah n1 1
    have k3 := ah n1 2
    simp only [Array.getElem?_eq_getElem, jw, jr, jq] at k1 k2 k3
    have k4 := ah n2 0
    have k5 := ah n2 1
    have k6 := ah n2 2
    simp only [Array.getElem?_eq_getElem, jw, jr, jq] at k4 k5 k6
    have q0 : w.heap.size < W0.heap.size := by omega
    have q1 : w.heap.size + 1 < W0.heap.size := by omega
    refine ((aa qm) _).mono ?_
    rintro e w1 ⟨rfl, hw1⟩
    have hbw : Below W0.heap.size W0 w1 := by rw [hw1]; exact (Below.refl _ _).alloc (Nat.le_refl _) _
    obtain ⟨hc, hfz⟩ := fu hbw
    clear hw1
    go_wp2_with fail
    have G1 := (aa Ep) W0 hw0; have G2 := (aa HG2) W0 hw0
    go_region_held3 (fun w' => w'.cell? ⟨w.heap.size, 0, none⟩ = some (.int .i64 s1) ∧ w'.cell? ⟨w.heap.size, 1, none⟩ = some (.bool dw) ∧ w'.cell? ⟨w.heap.size, 2, none⟩ = some (.slice A1 l1.length c1) ∧ w'.cell? ⟨w.heap.size + 1, 0, none⟩ = some (.int .i64 s2) ∧ w'.cell? ⟨w.heap.size + 1, 1, none⟩ = some (.bool ek) ∧ w'.cell? ⟨w.heap.size + 1, 2, none⟩ = some (.slice A2 l2.length c2)) ((first | exact ⟨(hc _ _ q0).trans k1, (hc _ _ q0).trans k2, (hc _ _ q0).trans k3, (hc _ _ q1).trans k4, (hc _ _ q1).trans k5, (hc _ _ q1).trans k6⟩ | exact ⟨k1, k2, k3, k4, k5, k6⟩)) (first | (go_at_call_of 146 (Value.agg #[.int .i64 s1, .bool dw, .slice A1 l1.length c1]); refine ((aa G1) _ bem).mono ?_; rintro e w' ⟨rfl, hb⟩; have hbw := cu (w := W0) bem hb; obtain ⟨hc, hfz⟩ := fu hbw) | (go_at_call_of 146 (Value.agg #[.int .i64 s2, .bool ek, .slice A2 l2.length c2]); refine ((aa G2) _ bem).mono ?_; rintro e w' ⟨rfl, hb⟩; have hbw := cu (w := W0) bem hb; obtain ⟨hc, hfz⟩ := fu hbw))
    go_wp2_with fail
    go_region_held3 (fun w' => w'.cell? ⟨w.heap.size, 0, none⟩ = some (.int .i64 s1) ∧ w'.cell? ⟨w.heap.size, 1, none⟩ = some (.bool dw) ∧ w'.cell? ⟨w.heap.size, 2, none⟩ = some (.slice A1 l1.length c1) ∧ w'.cell? ⟨w.heap.size + 1, 0, none⟩ = some (.int .i64 s2) ∧ w'.cell? ⟨w.heap.size + 1, 1, none⟩ = some (.bool ek) ∧ w'.cell? ⟨w.heap.size + 1, 2, none⟩ = some (.slice A2 l2.length c2)) ((first | exact ⟨(hc _ _ q0).trans k1, (hc _ _ q0).trans k2, (hc _ _ q0).trans k3, (hc _ _ q1).trans k4, (hc _ _ q1).trans k5, (hc _ _ q1).trans k6⟩ | exact ⟨k1, k2, k3, k4, k5, k6⟩)) (first | (go_at_call_of 146 (Value.agg #[.int .i64 s1, .bool dw, .slice A1 l1.length c1]); refine ((aa G1) _ bem).mono ?_; rintro e w' ⟨rfl, hb⟩; have hbw := cu (w := W0) bem hb; obtain ⟨hc, hfz⟩ := fu hbw) | (go_at_call_of 146 (Value.agg #[.int .i64 s2, .bool ek, .slice A2 l2.length c2]); refine ((aa G2) _ bem).mono ?_; rintro e w' ⟨rfl, hb⟩; have hbw := cu (w := W0) bem hb; obtain ⟨hc, hfz⟩ := fu hbw) | (go_at_call 174; refine ((aa HCI) _).mono ?_; rintro e w' ⟨rfl, hw3⟩; subst hw3))
    go_wp2_with fail
    go_ret
    exact ⟨wy Wu.out, bz hw0 bem⟩
   ·
    rw [hc1] at qm
    rw [hc2] at HS2
    clear hc1 hc2
    go_enter Tryz.func136, Tryz.ntmps136
    go_wp2_with fail
    obtain ⟨n1, n2, hsz, hw0⟩ := uu w (.cells #[.int .i64 s1, .bool dw, .slice A1 l1.length c1] 72) (.cells #[.int .i64 s2, .bool ek, .slice A2 l2.length c2] 72)
    generalize (((w.alloc (.cells #[.int .i64 s1, .bool dw, .slice A1 l1.length c1] 72)).alloc (.cells #[.int .i64 s2, .bool ek, .slice A2 l2.length c2] 72))) = W0 at *
    have k1 := ah n1 0
    have k2 := ah n1 1
    have k3 := ah n1 2
    simp only [Array.getElem?_eq_getElem, jw, jr, jq] at k1 k2 k3
    have k4 := ah n2 0
    have k5 := ah n2 1
    have k6 := ah n2 2
    simp only [Array.getElem?_eq_getElem, jw, jr, jq] at k4 k5 k6
    have q0 : w.heap.size < W0.heap.size := by omega
    have q1 : w.heap.size + 1 < W0.heap.size := by omega
    refine ((aa qm) _).mono ?_
    rintro e w1 ⟨rfl, hw1⟩
    have hbw : Below W0.heap.size W0 w1 := by rw [hw1]; exact (Below.refl _ _).alloc (Nat.le_refl _) _
    obtain ⟨hc, hfz⟩ := fu hbw
    clear hw1
    go_wp2_with fail
    refine ((aa HS2) _).mono ?_
    rintro e w2 ⟨rfl, hw2⟩
    have hbw2 : Below W0.heap.size W0 w2 := by rw [hw2]; exact hbw.alloc hbw.size _
    clear hc hfz
    obtain ⟨hc, hfz⟩ := fu hbw2
    clear hw2
    go_wp2_with fail
    have G1 := (aa Ep) W0 hw0; have G2 := (aa HG2) W0 hw0
    go_region_held3 (fun w' => w'.cell? ⟨w.heap.size, 0, none⟩ = some (.int .i64 s1) ∧ w'.cell? ⟨w.heap.size, 1, none⟩ = some (.bool dw) ∧ w'.cell? ⟨w.heap.size, 2, none⟩ = some (.slice A1 l1.length c1) ∧ w'.cell? ⟨w.heap.size + 1, 0, none⟩ = some (.int .i64 s2) ∧ w'.cell? ⟨w.heap.size + 1, 1, none⟩ = some (.bool ek) ∧ w'.cell? ⟨w.heap.size + 1, 2, none⟩ = some (.slice A2 l2.length c2)) ((first | exact ⟨(hc _ _ q0).trans k1, (hc _ _ q0).trans k2, (hc _ _ q0).trans k3, (hc _ _ q1).trans k4, (hc _ _ q1).trans k5, (hc _ _ q1).trans k6⟩ | exact ⟨k1, k2, k3, k4, k5, k6⟩)) (first | (go_at_call_of 146 (Value.agg #[.int .i64 s1, .bool dw, .slice A1 l1.length c1]); refine ((aa G1) _ bem).mono ?_; rintro e w' ⟨rfl, hb⟩; have hbw := cu (w := W0) bem hb; obtain ⟨hc, hfz⟩ := fu hbw) | (go_at_call_of 146 (Value.agg #[.int .i64 s2, .bool ek, .slice A2 l2.length c2]); refine ((aa G2) _ bem).mono ?_; rintro e w' ⟨rfl, hb⟩; have hbw := cu (w := W0) bem hb; obtain ⟨hc, hfz⟩ := fu hbw))
    go_wp2_with fail
    go_region_held3 (fun w' => w'.cell? ⟨w.heap.size, 0, none⟩ = some (.int .i64 s1) ∧ w'.cell? ⟨w.heap.size, 1, none⟩ = some (.bool dw) ∧ w'.cell? ⟨w.heap.size, 2, none⟩ = some (.slice A1 l1.length c1) ∧ w'.cell? ⟨w.heap.size + 1, 0, none⟩ = some (.int .i64 s2) ∧ w'.cell? ⟨w.heap.size + 1, 1, none⟩ = some (.bool ek) ∧ w'.cell? ⟨w.heap.size + 1, 2, none⟩ = some (.slice A2 l2.length c2)) ((first | exact ⟨(hc _ _ q0).trans k1, (hc _ _ q0).trans k2, (hc _ _ q0).trans k3, (hc _ _ q1).trans k4, (hc _ _ q1).trans k5, (hc _ _ q1).trans k6⟩ | exact ⟨k1, k2, k3, k4, k5, k6⟩)) (first | (go_at_call_of 146 (Value.agg #[.int .i64 s1, .bool dw, .slice A1 l1.length c1]); refine ((aa G1) _ bem).mono ?_; rintro e w' ⟨rfl, hb⟩; have hbw := cu (w := W0) bem hb; obtain ⟨hc, hfz⟩ := fu hbw) | (go_at_call_of 146 (Value.agg #[.int .i64 s2, .bool ek, .slice A2 l2.length c2]); refine ((aa G2) _ bem).mono ?_; rintro e w' ⟨rfl, hb⟩; have hbw := cu (w := W0) bem hb; obtain ⟨hc, hfz⟩ := fu hbw) | (go_at_call 174; refine ((aa HCI) _).mono ?_; rintro e w' ⟨rfl, hw3⟩; subst hw3))
    go_wp2_with fail
    go_ret
    exact ⟨wy Wu.out, bz hw0 bem⟩
end Go.Proofs.YtjdnmdlnaoedoaaGreatDoor
namespace Go.Proofs.YtjdnmdlnaoedoaaGreatDoor
open Go.RowKit

theorem bf {w : World} {b : Nat} {cs : Array Value} {T : TypeId} (h : w.heap[b]? = some (.cells cs T (0, 0))) (i : Nat) : w.frozen? ⟨b, i, none⟩ = false := by
 simp [World.frozen?, h]

theorem og {w W w1 : World} {o : Obj} (h : Below w.heap.size w W) (e : w1 = W.alloc o) : Below w.heap.size w w1 := by subst e; exact h.alloc h.size _

theorem afd (z1 z2 : Int) : (if decide (iw z1 * iw z2 < 0) = true then -((z1.natAbs * z2.natAbs : Nat) : Int) else ((z1.natAbs * z2.natAbs : Nat) : Int)) = z1 * z2 := by
 rw [Int.natCast_mul]
 rcases Int.lt_trichotomy z1 0 with a | a | a <;> rcases Int.lt_trichotomy z2 0 with b | b | b
 all_goals
  first
   | (subst a; simp [iw])
   | (subst b; simp [iw])
   | skip
 all_goals
  simp only [iw, a, b, if_true, if_neg (Int.not_lt.2 (Int.le_of_lt a)), if_neg (Int.not_lt.2 (Int.le_of_lt b))]
 ·
  rw [Int.ofNat_natAbs_of_nonpos om, Int.ofNat_natAbs_of_nonpos om]; simp [Int.neg_mul_neg]
 ·
  rw [Int.ofNat_natAbs_of_nonpos om, Int.natAbs_of_nonneg om]; simp [Int.neg_mul]
 ·
  rw [Int.natAbs_of_nonneg om, Int.ofNat_natAbs_of_nonpos om]; simp [Int.mul_neg]
 ·
  rw [Int.natAbs_of_nonneg om, Int.natAbs_of_nonneg om]; simp

theorem ig.Ud {w : World} {s : Int} {neg : Bool} {A : Option Addr} {cap : Nat} {l : List Nat} {z : Int} (h : ig w s neg A cap l z) : z.natAbs < fo ^ (max 1 l.length) := by
 rcases h.form with ⟨h1, _, _, h2⟩ | ⟨h1, _, _, h2, _⟩
 ·
  have : Kh < fo := by rw [zn, ic]; omega
  have h3 : fo ^ 1 ≤ fo ^ (max 1 l.length) := Nat.pow_le_pow_right (Nat.lt_trans Nat.zero_lt_one qj) om
  rw [Nat.pow_one] at h3
  omega
 ·
  obtain ⟨n, hn⟩ := h.nat
  rw [← h2]
  have h3 := Wd.Cf (B := fo) l hn.lt
  have h4 : fo ^ l.length ≤ fo ^ (max 1 l.length) := Nat.pow_le_pow_right (Nat.lt_trans Nat.zero_lt_one qj) om
  omega


theorem ig.Jo {w W : World} {s : Int} {neg : Bool} {A A' : Option Addr} {cap cap' : Nat} {l l' : List Nat} {z : Int} (h : ig w s neg A cap l z) (hl : l.length ≤ lim) (g : lv W A' cap' l' z.natAbs) : l'.length ≤ lim ∧ l'.length + 1 ≤ 35184372088832 := by
 have := g.len h.Ud
 rw [Rq] at hl ⊢
 omega

theorem lv.drew {w : World} {A : Option Addr} {cap : Nat} {l : List Nat} {n : Nat} (h : lv w A cap l n) : lv w.drew A cap l n := h.below ((Below.refl _ _).drew)
end Go.Proofs.YtjdnmdlnaoedoaaGreatDoor
namespace Go.Proofs.YtjdnmdlnaoedoaaGreatDoor
open Go.RowKit

theorem iq {w : World} {g : Nat} (u0 u1 u2 : Value) (b o : Nat) (h : b ≠ g) : (((w.setCell ⟨g, 0, none⟩ u0).setCell ⟨g, 1, none⟩ u1).setCell ⟨g, 2, none⟩ u2).cell? ⟨b, o, none⟩ = w.cell? ⟨b, o, none⟩ := by
 rw [World.cell?_setCell_other _ _ _ _ (by intro e; injection e with e1; exact h (by first | exact e1 | exact e1.symm)), World.cell?_setCell_other _ _ _ _ (by intro e; injection e with e1; exact h (by first | exact e1 | exact e1.symm)), World.cell?_setCell_other _ _ _ _ (by intro e; injection e with e1; exact h (by first | exact e1 | exact e1.symm))]
theorem Jk (z : Int) : iw z < 0 ↔ z < 0 := by unfold iw; (repeat' split) <;> omega

end Go.Proofs.YtjdnmdlnaoedoaaGreatDoor
namespace Go.Proofs.YtjdnmdlnaoedoaaGreatDoor
open Go.RowKit

theorem auh (s1 : Int) (dw : Bool) (A1 : Option Addr) (c1 : Nat) (l1 : List Nat) (z1 : Int) (s2 : Int) (ek : Bool) (A2 : Option Addr) (c2 : Nat) (l2 : List Nat) (z2 : Int) (w : World)
  (h1 : ig w s1 dw A1 c1 l1 z1) (h2 : ig w s2 ek A2 c2 l2 z2) (hl1 : l1.length ≤ lim) (hl2 : l2.length ≤ lim) (hT : qy w) :
  Calls Tryz.prog 143 #[.agg #[.int .i64 s1, .bool dw, .slice A1 l1.length c1], .agg #[.int .i64 s2, .bool ek, .slice A2 l2.length c2]] w fun e w' => En w ((z1.natAbs.gcd z2.natAbs : Nat) : Int) e w' := by
 have qm := hide (fun W => uh s1 dw A1 c1 l1.length W)
 have HS2 := hide (fun W => uh s2 ek A2 c2 l2.length W)
 have Sa : ∀ (W : World) (A5 : Option Addr) (c5 : Nat) (l5 : List Nat) (_ : Unit), lv W A5 c5 l5 z1.natAbs → l5.length ≤ lim ∧ l5.length + 1 ≤ 35184372088832 := fun _ _ _ _ _ g => h1.Jo hl1 g
 have Wt : ∀ (W : World) (A5 : Option Addr) (c5 : Nat) (l5 : List Nat) (_ : Unit), lv W A5 c5 l5 z2.natAbs → l5.length ≤ lim ∧ l5.length + 1 ≤ 35184372088832 := fun _ _ _ _ _ g => h2.Jo hl2 g
 have B1 : ∀ W0, Below w.heap.size w W0 → Hid (∀ W, Below W0.heap.size W0 W → Calls Tryz.prog 171 #[.agg #[.int .i64 s1, .bool dw, .slice A1 l1.length c1]] W fun e w' => Fw W z1.natAbs e w') := fun W0 h0 W hW => Dy s1 dw A1 c1 l1 z1 W (ig.below h1 (bz h0 hW))
 have B2 : ∀ W0, Below w.heap.size w W0 → Hid (∀ W, Below W0.heap.size W0 W → Calls Tryz.prog 171 #[.agg #[.int .i64 s2, .bool ek, .slice A2 l2.length c2]] W fun e w' => Fw W z2.natAbs e w') := fun W0 h0 W hW => Dy s2 ek A2 c2 l2 z2 W (ig.below h2 (bz h0 hW))
 have T0 : ∀ W0, Below w.heap.size w W0 → Hid (∀ W, Below W0.heap.size W0 W → qy W) := fun W0 h0 W hW => hT.below (bz h0 hW)
 have Ty := h1.bounds
 have Tx := h2.bounds
 have hsz1 : l1.length = 0 → s1.natAbs = z1.natAbs ∧ z1.natAbs < Kh := fun h => by obtain ⟨e, _, e3⟩ := h1.Bl h; rw [e]; exact ⟨rfl, e3⟩
 have hsz2 : l2.length = 0 → s2.natAbs = z2.natAbs ∧ z2.natAbs < Kh := fun h => by obtain ⟨e, _, e3⟩ := h2.Bl h; rw [e]; exact ⟨rfl, e3⟩
 have Z1 := hide (fun W => Ko s1 Ty.1 Ty.2 W)
 have Z2 := hide (fun W => Ko s2 Tx.1 Tx.2 W)
 obtain ⟨m1, hm1⟩ : ∃ o, o = z1.natAbs := ⟨_, rfl⟩
 obtain ⟨m2, hm2⟩ : ∃ o, o = z2.natAbs := ⟨_, rfl⟩
 rw [← hm1] at B1 Sa hsz1 ⊢
 rw [← hm2] at B2 Wt hsz2 ⊢
 have HB1 := hide B1; have HB2 := hide B2; have HLEN := hide Sa; have Es := hide Wt; have HTT := hide T0
 clear hm1 hm2 B1 B2 h1 h2 Ty Tx Sa Wt hl1 hl2 T0 hT
 by_cases hs : l1.length = 0 ∧ l2.length = 0
 ·
  obtain ⟨a1, a2⟩ := hs
  rw [decide_eq_true a1] at qm
  rw [decide_eq_true a2] at HS2
  obtain ⟨y1, y2⟩ := hsz1 a1
  obtain ⟨y3, y4⟩ := hsz2 a2
  rw [y1] at Z1
  rw [y3] at Z2
  have hB1 : m1 < fo := by have := y2; rw [zn] at this; rw [ic]; omega
  have hB2 : m2 < fo := by have := y4; rw [zn] at this; rw [ic]; omega
  have HM := hide (fun W => Qq m1 m2 hB1 hB2 W)
  have hgB : m1.gcd m2 < fo := by
   rcases Nat.eq_zero_or_pos m1 with h | h
   ·
    rw [h, Nat.gcd_zero_left]; exact hB2
   ·
    exact Nat.lt_of_le_of_lt (Nat.gcd_le_left _ h) hB1
  have HW : Hid (∀ W, Calls Tryz.prog 165 #[.bool false, .int .u64 ((m1.gcd m2 : Nat) : Int)] W fun e w' => En W ((m1.gcd m2 : Nat) : Int) e w') := hide (fun W => by
   have := Sl false (m1.gcd m2) hgB W
   rw [if_neg Bool.false_ne_true] at this; exact this)
  clear hgB hB1 hB2 y1 y2 y3 y4 hsz1 hsz2 a1 a2
  obtain ⟨g, hg⟩ : ∃ g, g = m1.gcd m2 := ⟨_, rfl⟩
  rw [← hg] at HM HW ⊢
  clear hg
  go_enter Tryz.func143, Tryz.ntmps143
  go_wp2_with fail
  obtain ⟨n1, n2, n3, hsz, hw0⟩ := nu w (.cells #[.int .i64 s1, .bool dw, .slice A1 l1.length c1] 72) (.cells #[.int .i64 s2, .bool ek, .slice A2 l2.length c2] 72) (.cells #[.int .i64 0, .bool false, .slice none 0 0] 72)
  generalize (((w.alloc (.cells #[.int .i64 s1, .bool dw, .slice A1 l1.length c1] 72)).alloc (.cells #[.int .i64 s2, .bool ek, .slice A2 l2.length c2] 72)).alloc (.cells #[.int .i64 0, .bool false, .slice none 0 0] 72)) = W0 at *
  have k1 := ah n1 0
  have k2 := ah n1 1
  have k3 := ah n1 2
  simp only [Array.getElem?_eq_getElem, jw, jr, jq] at k1 k2 k3
  have k4 := ah n2 0
  have k5 := ah n2 1
  have k6 := ah n2 2
  simp only [Array.getElem?_eq_getElem, jw, jr, jq] at k4 k5 k6
  have q0 : w.heap.size < W0.heap.size := by omega
  have q1 : w.heap.size + 1 < W0.heap.size := by omega
  have q2 : w.heap.size + 1 + 1 < W0.heap.size := by omega
  have k7 := ah n3 0
  have k8 := ah n3 1
  have k9 := ah n3 2
  simp only [Array.getElem?_eq_getElem, jw, jr, jq] at k7 k8 k9
  have f7 := bf n3 0
  have f8 := bf n3 1
  have f9 := bf n3 2
  have N3 := Lib.hid n3
  clear n3
  clear n1 n2
  have B1 := (aa HB1) W0 hw0; have B2 := (aa HB2) W0 hw0; have TT := (aa HTT) W0 hw0
  refine ((aa qm) _).mono ?_
  rintro e w1 ⟨rfl, hw1⟩
  have yf := og (w := W0) bem hw1
  obtain ⟨hc, hfz⟩ := fu yf
  clear hw1
  go_wp2_with fail
  refine ((aa HS2) _).mono ?_
  rintro e w2 ⟨rfl, hw2⟩
  have hbw2 := og (w := W0) bem hw2
  obtain ⟨hc, hfz⟩ := fu hbw2
  clear hw2
  go_wp2_with fail
  go_region_held3 (fun w' => w'.cell? ⟨w.heap.size, 0, none⟩ = some (.int .i64 s1) ∧ w'.cell? ⟨w.heap.size, 1, none⟩ = some (.bool dw) ∧ w'.cell? ⟨w.heap.size, 2, none⟩ = some (.slice A1 l1.length c1) ∧ w'.cell? ⟨w.heap.size + 1, 0, none⟩ = some (.int .i64 s2) ∧ w'.cell? ⟨w.heap.size + 1, 1, none⟩ = some (.bool ek) ∧ w'.cell? ⟨w.heap.size + 1, 2, none⟩ = some (.slice A2 l2.length c2)) ((first | with_reducible exact ⟨(hc _ _ q0).trans k1, (hc _ _ q0).trans k2, (hc _ _ q0).trans k3, (hc _ _ q1).trans k4, (hc _ _ q1).trans k5, (hc _ _ q1).trans k6⟩ | with_reducible exact ⟨k1, k2, k3, k4, k5, k6⟩ | with_reducible exact ⟨(iq _ _ _ _ _ om).trans ((hc _ _ q0).trans k1), (iq _ _ _ _ _ om).trans ((hc _ _ q0).trans k2), (iq _ _ _ _ _ om).trans ((hc _ _ q0).trans k3), (iq _ _ _ _ _ om).trans ((hc _ _ q1).trans k4), (iq _ _ _ _ _ om).trans ((hc _ _ q1).trans k5), (iq _ _ _ _ _ om).trans ((hc _ _ q1).trans k6)⟩ | exact ⟨(hc _ _ q0).trans k1, (hc _ _ q0).trans k2, (hc _ _ q0).trans k3, (hc _ _ q1).trans k4, (hc _ _ q1).trans k5, (hc _ _ q1).trans k6⟩ | exact ⟨k1, k2, k3, k4, k5, k6⟩)) (first | (go_at_call_of 166 (Value.int .i64 s1); refine ((aa Z1) _).mono ?_; rintro e w' ⟨rfl, Mh⟩; subst Mh) | (go_at_call_of 166 (Value.int .i64 s2); refine ((aa Z2) _).mono ?_; rintro e w' ⟨rfl, Mh⟩; subst Mh) | (go_at_call 125; refine ((aa HM) _ ((aa TT) _ bem)).mono ?_; rintro e w' ⟨rfl, Mh⟩; subst Mh) | (go_at_call 165; refine ((aa HW) _).mono ?_; rintro e w' ⟨s, su, A', cap', l', rfl, hf, hb⟩; have hbw := cu (w := W0) bem hb; obtain ⟨hc, hfz⟩ := fu hbw))
  have hblk : w'.heap[w.heap.size + 1 + 1]? = some (.cells #[.int .i64 0, .bool false, .slice none 0 0] 72 (0, 0)) := (hbw.block _ q2).trans N3.out
  have kg := Lib.hid hblk
  have jh : Below w.heap.size w w' := bz hw0 hbw
  clear hblk
  go_wp2_with fail
  exact bodyPost_ret (v := .agg #[.int .i64 s, .bool su, .slice A' l'.length cap']) (by simp [results, Tryz.results143, go_sem, hc, k7, k8, k9, q2]) rfl
   ⟨s, su, A', cap', l', rfl, hf.upto kg.out (ze _ _ _ _ _) (jl _ _ _ _ _), jh.grown (jl _ _ _ _ _) jh.size (fun k hk => by injection hk with hk; omega)⟩
 ·
  by_cases a1 : l1.length = 0
  ·
   have a2 : ¬ l2.length = 0 := fun h => hs ⟨a1, h⟩
   rw [decide_eq_true a1] at qm
   rw [decide_eq_false a2] at HS2
   clear hsz1 hsz2 hs a1 a2
   go_enter Tryz.func143, Tryz.ntmps143
   go_wp2_with fail
   obtain ⟨n1, n2, n3, hsz, hw0⟩ := nu w (.cells #[.int .i64 s1, .bool dw, .slice A1 l1.length c1] 72) (.cells #[.int .i64 s2, .bool ek, .slice A2 l2.length c2] 72) (.cells #[.int .i64 0, .bool false, .slice none 0 0] 72)
   generalize (((w.alloc (.cells #[.int .i64 s1, .bool dw, .slice A1 l1.length c1] 72)).alloc (.cells #[.int .i64 s2, .bool ek, .slice A2 l2.length c2] 72)).alloc (.cells #[.int .i64 0, .bool false, .slice none 0 0] 72)) = W0 at *
   have k1 := ah n1 0
   have k2 := ah n1 1
   have k3 := ah n1 2
   simp only [Array.getElem?_eq_getElem, jw, jr, jq] at k1 k2 k3
   have k4 := ah n2 0
   have k5 := ah n2 1
   have k6 := ah n2 2
   simp only [Array.getElem?_eq_getElem, jw, jr, jq] at k4 k5 k6
   have q0 : w.heap.size < W0.heap.size := by omega
   have q1 : w.heap.size + 1 < W0.heap.size := by omega
   have q2 : w.heap.size + 1 + 1 < W0.heap.size := by omega
   have k7 := ah n3 0
   have k8 := ah n3 1
   have k9 := ah n3 2
   simp only [Array.getElem?_eq_getElem, jw, jr, jq] at k7 k8 k9
   have f7 := bf n3 0
   have f8 := bf n3 1
   have f9 := bf n3 2
   have N3 := Lib.hid n3
   clear n3
   clear n1 n2
   have B1 := (aa HB1) W0 hw0; have B2 := (aa HB2) W0 hw0; have TT := (aa HTT) W0 hw0
   refine ((aa qm) _).mono ?_
   rintro e w1 ⟨rfl, hw1⟩
   have yf := og (w := W0) bem hw1
   obtain ⟨hc, hfz⟩ := fu yf
   clear hw1
   go_wp2_with fail
   refine ((aa HS2) _).mono ?_
   rintro e w2 ⟨rfl, hw2⟩
   have hbw2 := og (w := W0) bem hw2
   obtain ⟨hc, hfz⟩ := fu hbw2
   clear hw2
   go_wp2_with fail
   go_region_held3 (fun w' => w'.cell? ⟨w.heap.size, 0, none⟩ = some (.int .i64 s1) ∧ w'.cell? ⟨w.heap.size, 1, none⟩ = some (.bool dw) ∧ w'.cell? ⟨w.heap.size, 2, none⟩ = some (.slice A1 l1.length c1) ∧ w'.cell? ⟨w.heap.size + 1, 0, none⟩ = some (.int .i64 s2) ∧ w'.cell? ⟨w.heap.size + 1, 1, none⟩ = some (.bool ek) ∧ w'.cell? ⟨w.heap.size + 1, 2, none⟩ = some (.slice A2 l2.length c2)) ((first | with_reducible exact ⟨(hc _ _ q0).trans k1, (hc _ _ q0).trans k2, (hc _ _ q0).trans k3, (hc _ _ q1).trans k4, (hc _ _ q1).trans k5, (hc _ _ q1).trans k6⟩ | with_reducible exact ⟨k1, k2, k3, k4, k5, k6⟩ | with_reducible exact ⟨(iq _ _ _ _ _ om).trans ((hc _ _ q0).trans k1), (iq _ _ _ _ _ om).trans ((hc _ _ q0).trans k2), (iq _ _ _ _ _ om).trans ((hc _ _ q0).trans k3), (iq _ _ _ _ _ om).trans ((hc _ _ q1).trans k4), (iq _ _ _ _ _ om).trans ((hc _ _ q1).trans k5), (iq _ _ _ _ _ om).trans ((hc _ _ q1).trans k6)⟩ | exact ⟨(hc _ _ q0).trans k1, (hc _ _ q0).trans k2, (hc _ _ q0).trans k3, (hc _ _ q1).trans k4, (hc _ _ q1).trans k5, (hc _ _ q1).trans k6⟩ | exact ⟨k1, k2, k3, k4, k5, k6⟩)) (first | (go_at_call_of 171 (Value.agg #[.int .i64 s1, .bool dw, .slice A1 l1.length c1]); refine ((aa B1) _ bem).mono ?_; rintro e w' ⟨A5, cap5, l5, rfl, yw, hb⟩; have hbw := cu (w := W0) bem hb; obtain ⟨hc, hfz⟩ := fu hbw) | (go_at_call_of 171 (Value.agg #[.int .i64 s2, .bool ek, .slice A2 l2.length c2]); refine ((aa B2) _ bem).mono ?_; rintro e w' ⟨A6, cap6, l6, rfl, oo, hb⟩; have kz := yw.below hb; have hbw := cu (w := W0) bem hb; obtain ⟨hc, hfz⟩ := fu hbw) | (go_at_call 177; refine (afu A5 A6 cap5 cap6 l5 l6 m1 m2 _ (by exact kz) (by exact oo) ((aa TT) _ bem) ((aa HLEN) _ _ _ _ () kz).1 ((aa Es) _ _ _ _ () oo).1).mono ?_; rintro e w' ⟨A7, Af, l7, rfl, Ae, hb⟩; have hbw := cu (w := W0) bem hb; obtain ⟨hc, hfz⟩ := fu hbw) | (go_at_call 170; refine (Bc false A7 Af l7 (m1.gcd m2) _ (by exact Ae)).mono ?_; rw [if_neg Bool.false_ne_true]; rintro e w' ⟨s, su, A', cap', l', rfl, hf, hb⟩; have hbw := cu (w := W0) bem hb; obtain ⟨hc, hfz⟩ := fu hbw))
   have hblk : w'.heap[w.heap.size + 1 + 1]? = some (.cells #[.int .i64 0, .bool false, .slice none 0 0] 72 (0, 0)) := (hbw.block _ q2).trans N3.out
   have kg := Lib.hid hblk
   have jh : Below w.heap.size w w' := bz hw0 hbw
   clear hblk
   go_wp2_with fail
   exact bodyPost_ret (v := .agg #[.int .i64 s, .bool su, .slice A' l'.length cap']) (by simp [results, Tryz.results143, go_sem, hc, k7, k8, k9, q2]) rfl
    ⟨s, su, A', cap', l', rfl, hf.upto kg.out (ze _ _ _ _ _) (jl _ _ _ _ _), jh.grown (jl _ _ _ _ _) jh.size (fun k hk => by injection hk with hk; omega)⟩
  ·
   skip
   rw [decide_eq_false a1] at qm
   clear hsz1 hsz2 hs a1
   go_enter Tryz.func143, Tryz.ntmps143
   go_wp2_with fail
   obtain ⟨n1, n2, n3, hsz, hw0⟩ := nu w (.cells #[.int .i64 s1, .bool dw, .slice A1 l1.length c1] 72) (.cells #[.int .i64 s2, .bool ek, .slice A2 l2.length c2] 72) (.cells #[.int .i64 0, .bool false, .slice none 0 0] 72)
   generalize (((w.alloc (.cells #[.int .i64 s1, .bool dw, .slice A1 l1.length c1] 72)).alloc (.cells #[.int .i64 s2, .bool ek, .slice A2 l2.length c2] 72)).alloc (.cells #[.int .i64 0, .bool false, .slice none 0 0] 72)) = W0 at *
   have k1 := ah n1 0
   have k2 := ah n1 1
   have k3 := ah n1 2
   simp only [Array.getElem?_eq_getElem, jw, jr, jq] at k1 k2 k3
   have k4 := ah n2 0
   have k5 := ah n2 1
   have k6 := ah n2 2
   simp only [Array.getElem?_eq_getElem, jw, jr, jq] at k4 k5 k6
   have q0 : w.heap.size < W0.heap.size := by omega
   have q1 : w.heap.size + 1 < W0.heap.size := by omega
   have q2 : w.heap.size + 1 + 1 < W0.heap.size := by omega
   have k7 := ah n3 0
   have k8 := ah n3 1
   have k9 := ah n3 2
   simp only [Array.getElem?_eq_getElem, jw, jr, jq] at k7 k8 k9
   have f7 := bf n3 0
   have f8 := bf n3 1
   have f9 := bf n3 2
   have N3 := Lib.hid n3
   clear n3
   clear n1 n2
   have B1 := (aa HB1) W0 hw0; have B2 := (aa HB2) W0 hw0; have TT := (aa HTT) W0 hw0
   refine ((aa qm) _).mono ?_
   rintro e w1 ⟨rfl, hw1⟩
   have yf := og (w := W0) bem hw1
   obtain ⟨hc, hfz⟩ := fu yf
   clear hw1
   go_wp2_with fail
   go_region_held3 (fun w' => w'.cell? ⟨w.heap.size, 0, none⟩ = some (.int .i64 s1) ∧ w'.cell? ⟨w.heap.size, 1, none⟩ = some (.bool dw) ∧ w'.cell? ⟨w.heap.size, 2, none⟩ = some (.slice A1 l1.length c1) ∧ w'.cell? ⟨w.heap.size + 1, 0, none⟩ = some (.int .i64 s2) ∧ w'.cell? ⟨w.heap.size + 1, 1, none⟩ = some (.bool ek) ∧ w'.cell? ⟨w.heap.size + 1, 2, none⟩ = some (.slice A2 l2.length c2)) ((first | with_reducible exact ⟨(hc _ _ q0).trans k1, (hc _ _ q0).trans k2, (hc _ _ q0).trans k3, (hc _ _ q1).trans k4, (hc _ _ q1).trans k5, (hc _ _ q1).trans k6⟩ | with_reducible exact ⟨k1, k2, k3, k4, k5, k6⟩ | with_reducible exact ⟨(iq _ _ _ _ _ om).trans ((hc _ _ q0).trans k1), (iq _ _ _ _ _ om).trans ((hc _ _ q0).trans k2), (iq _ _ _ _ _ om).trans ((hc _ _ q0).trans k3), (iq _ _ _ _ _ om).trans ((hc _ _ q1).trans k4), (iq _ _ _ _ _ om).trans ((hc _ _ q1).trans k5), (iq _ _ _ _ _ om).trans ((hc _ _ q1).trans k6)⟩ | exact ⟨(hc _ _ q0).trans k1, (hc _ _ q0).trans k2, (hc _ _ q0).trans k3, (hc _ _ q1).trans k4, (hc _ _ q1).trans k5, (hc _ _ q1).trans k6⟩ | exact ⟨k1, k2, k3, k4, k5, k6⟩)) (first | (go_at_call_of 171 (Value.agg #[.int .i64 s1, .bool dw, .slice A1 l1.length c1]); refine ((aa B1) _ bem).mono ?_; rintro e w' ⟨A5, cap5, l5, rfl, yw, hb⟩; have hbw := cu (w := W0) bem hb; obtain ⟨hc, hfz⟩ := fu hbw) | (go_at_call_of 171 (Value.agg #[.int .i64 s2, .bool ek, .slice A2 l2.length c2]); refine ((aa B2) _ bem).mono ?_; rintro e w' ⟨A6, cap6, l6, rfl, oo, hb⟩; have kz := yw.below hb; have hbw := cu (w := W0) bem hb; obtain ⟨hc, hfz⟩ := fu hbw) | (go_at_call 177; refine (afu A5 A6 cap5 cap6 l5 l6 m1 m2 _ (by exact kz) (by exact oo) ((aa TT) _ bem) ((aa HLEN) _ _ _ _ () kz).1 ((aa Es) _ _ _ _ () oo).1).mono ?_; rintro e w' ⟨A7, Af, l7, rfl, Ae, hb⟩; have hbw := cu (w := W0) bem hb; obtain ⟨hc, hfz⟩ := fu hbw) | (go_at_call 170; refine (Bc false A7 Af l7 (m1.gcd m2) _ (by exact Ae)).mono ?_; rw [if_neg Bool.false_ne_true]; rintro e w' ⟨s, su, A', cap', l', rfl, hf, hb⟩; have hbw := cu (w := W0) bem hb; obtain ⟨hc, hfz⟩ := fu hbw))
   have hblk : w'.heap[w.heap.size + 1 + 1]? = some (.cells #[.int .i64 0, .bool false, .slice none 0 0] 72 (0, 0)) := (hbw.block _ q2).trans N3.out
   have kg := Lib.hid hblk
   have jh : Below w.heap.size w w' := bz hw0 hbw
   clear hblk
   go_wp2_with fail
   exact bodyPost_ret (v := .agg #[.int .i64 s, .bool su, .slice A' l'.length cap']) (by simp [results, Tryz.results143, go_sem, hc, k7, k8, k9, q2]) rfl
    ⟨s, su, A', cap', l', rfl, hf.upto kg.out (ze _ _ _ _ _) (jl _ _ _ _ _), jh.grown (jl _ _ _ _ _) jh.size (fun k hk => by injection hk with hk; omega)⟩

end Go.Proofs.YtjdnmdlnaoedoaaGreatDoor
namespace Go.Proofs.YtjdnmdlnaoedoaaGreatDoor
open Go.RowKit

theorem aiv (z1 z2 : Int) : (if decide (iw z1 * iw z2 < 0) = true then -((z1.natAbs / z2.natAbs : Nat) : Int) else ((z1.natAbs / z2.natAbs : Nat) : Int)) = z1.tdiv z2 := by
 rcases Int.lt_trichotomy z1 0 with a | a | a <;> rcases Int.lt_trichotomy z2 0 with b | b | b
 all_goals
  first
   | (subst a; simp [iw])
   | (subst b; simp [iw])
   | skip
 all_goals
  simp only [iw, a, b, if_true, if_neg (Int.not_lt.2 (Int.le_of_lt a)), if_neg (Int.not_lt.2 (Int.le_of_lt b))]
 ·
  obtain ⟨x, hx⟩ : ∃ x : Nat, z1 = -(x : Int) := ⟨z1.natAbs, by omega⟩
  obtain ⟨y, hy⟩ : ∃ y : Nat, z2 = -(y : Int) := ⟨z2.natAbs, by omega⟩
  subst hx; subst hy
  rw [Int.natAbs_neg, Int.natAbs_neg, Int.natAbs_natCast, Int.natAbs_natCast, Int.neg_tdiv, Int.tdiv_neg, Int.neg_neg]
  simp [Int.ofNat_tdiv]
 ·
  obtain ⟨x, hx⟩ : ∃ x : Nat, z1 = -(x : Int) := ⟨z1.natAbs, by omega⟩
  obtain ⟨y, hy⟩ : ∃ y : Nat, z2 = (y : Int) := ⟨z2.natAbs, by omega⟩
  subst hx; subst hy
  rw [Int.natAbs_neg, Int.natAbs_natCast, Int.natAbs_natCast, Int.neg_tdiv]
  simp [Int.ofNat_tdiv]
 ·
  obtain ⟨x, hx⟩ : ∃ x : Nat, z1 = (x : Int) := ⟨z1.natAbs, by omega⟩
  obtain ⟨y, hy⟩ : ∃ y : Nat, z2 = -(y : Int) := ⟨z2.natAbs, by omega⟩
  subst hx; subst hy
  rw [Int.natAbs_neg, Int.natAbs_natCast, Int.natAbs_natCast, Int.tdiv_neg]
  simp [Int.ofNat_tdiv]
 ·
  obtain ⟨x, hx⟩ : ∃ x : Nat, z1 = (x : Int) := ⟨z1.natAbs, by omega⟩
  obtain ⟨y, hy⟩ : ∃ y : Nat, z2 = (y : Int) := ⟨z2.natAbs, by omega⟩
  subst hx; subst hy
  rw [Int.natAbs_natCast, Int.natAbs_natCast]
  simp [Int.ofNat_tdiv]

theorem auf (s1 : Int) (dw : Bool) (A1 : Option Addr) (c1 : Nat) (l1 : List Nat) (z1 : Int) (s2 : Int) (ek : Bool) (A2 : Option Addr) (c2 : Nat) (l2 : List Nat) (z2 : Int) (w : World)
  (h1 : ig w s1 dw A1 c1 l1 z1) (h2 : ig w s2 ek A2 c2 l2 z2) (hl1 : l1.length ≤ lim) (hl2 : l2.length ≤ lim) (hz0 : z2 ≠ 0) :
  Calls Tryz.prog 144 #[.agg #[.int .i64 s1, .bool dw, .slice A1 l1.length c1], .agg #[.int .i64 s2, .bool ek, .slice A2 l2.length c2]] w fun e w' => En w (z1.tdiv z2) e w' := by
 have qm := hide (fun W => uh s1 dw A1 c1 l1.length W)
 have HS2 := hide (fun W => uh s2 ek A2 c2 l2.length W)
 have hz := aiv z1 z2
 have Sa : ∀ (W : World) (A5 : Option Addr) (c5 : Nat) (l5 : List Nat) (_ : Unit), lv W A5 c5 l5 z1.natAbs → l5.length ≤ lim ∧ l5.length + 1 ≤ 35184372088832 := fun _ _ _ _ _ g => h1.Jo hl1 g
 have Wt : ∀ (W : World) (A5 : Option Addr) (c5 : Nat) (l5 : List Nat) (_ : Unit), lv W A5 c5 l5 z2.natAbs → l5.length ≤ lim ∧ l5.length + 1 ≤ 35184372088832 := fun _ _ _ _ _ g => h2.Jo hl2 g
 have G1 : ∀ W0, Below w.heap.size w W0 → Hid (∀ W, Below W0.heap.size W0 W → Calls Tryz.prog 146 #[.agg #[.int .i64 s1, .bool dw, .slice A1 l1.length c1]] W fun e w' => e = .returned (.int .i64 (iw z1)) ∧ Below W.heap.size W w') := fun W0 h0 W hW => Ap s1 dw A1 c1 l1 z1 W (ig.below h1 (bz h0 hW))
 have G2 : ∀ W0, Below w.heap.size w W0 → Hid (∀ W, Below W0.heap.size W0 W → Calls Tryz.prog 146 #[.agg #[.int .i64 s2, .bool ek, .slice A2 l2.length c2]] W fun e w' => e = .returned (.int .i64 (iw z2)) ∧ Below W.heap.size W w') := fun W0 h0 W hW => Ap s2 ek A2 c2 l2 z2 W (ig.below h2 (bz h0 hW))
 have B1 : ∀ W0, Below w.heap.size w W0 → Hid (∀ W, Below W0.heap.size W0 W → Calls Tryz.prog 171 #[.agg #[.int .i64 s1, .bool dw, .slice A1 l1.length c1]] W fun e w' => Fw W z1.natAbs e w') := fun W0 h0 W hW => Dy s1 dw A1 c1 l1 z1 W (ig.below h1 (bz h0 hW))
 have B2 : ∀ W0, Below w.heap.size w W0 → Hid (∀ W, Below W0.heap.size W0 W → Calls Tryz.prog 171 #[.agg #[.int .i64 s2, .bool ek, .slice A2 l2.length c2]] W fun e w' => Fw W z2.natAbs e w') := fun W0 h0 W hW => Dy s2 ek A2 c2 l2 z2 W (ig.below h2 (bz h0 hW))
 have ho1 : -1 ≤ iw z1 * iw z2 ∧ iw z1 * iw z2 ≤ 1 := by unfold iw; (repeat' split) <;> omega
 have hsz1 : l1.length = 0 → s1 = z1 ∧ z1.natAbs < Kh := fun h => by obtain ⟨e, _, e3⟩ := h1.Bl h; exact ⟨e, e3⟩
 have hsz2 : l2.length = 0 → s2 = z2 ∧ z2.natAbs < Kh := fun h => by obtain ⟨e, _, e3⟩ := h2.Bl h; exact ⟨e, e3⟩
 have ami : 0 < z2.natAbs := by omega
 by_cases hs : l1.length = 0 ∧ l2.length = 0
 ·
  obtain ⟨a1, a2⟩ := hs
  rw [decide_eq_true a1] at qm
  rw [decide_eq_true a2] at HS2
  obtain ⟨y1, y2⟩ := hsz1 a1
  obtain ⟨y3, y4⟩ := hsz2 a2
  subst y1; subst y3
  have hq : (s1.tdiv s2).natAbs < Kh := by rw [Int.natAbs_tdiv]; exact Nat.lt_of_le_of_lt (Nat.div_le_self _ _) y2
  have eq : IntKind.i64.wrap (s1.tdiv s2) = s1.tdiv s2 := IntWalk.i64_in _ (by rw [zn] at hq; omega)
  have eq' : wrap64 (s1.tdiv s2) = s1.tdiv s2 := IntWalk.wrap64_in _ (by rw [zn] at hq; omega)
  have HQ := hide hq
  have b0 : (s2 == 0) = false := beq_eq_false_iff_ne.2 hz0
  clear hz Sa Wt G1 G2 B1 B2 ho1 hsz1 hsz2 ami h1 h2 hl1 hl2 a1 a2 y2 y4 hq
  go_enter Tryz.func144, Tryz.ntmps144
  go_wp2_with fail
  obtain ⟨n1, n2, n3, hsz, hw0⟩ := nu w (.cells #[.int .i64 s1, .bool dw, .slice A1 l1.length c1] 72) (.cells #[.int .i64 s2, .bool ek, .slice A2 l2.length c2] 72) (.cells #[.int .i64 0, .bool false, .slice none 0 0] 72)
  generalize (((w.alloc (.cells #[.int .i64 s1, .bool dw, .slice A1 l1.length c1] 72)).alloc (.cells #[.int .i64 s2, .bool ek, .slice A2 l2.length c2] 72)).alloc (.cells #[.int .i64 0, .bool false, .slice none 0 0] 72)) = W0 at *
  have k1 := ah n1 0
  have k2 := ah n1 1
  have k3 := ah n1 2
  simp only [Array.getElem?_eq_getElem, jw, jr, jq] at k1 k2 k3
  have k4 := ah n2 0
  have k5 := ah n2 1
  have k6 := ah n2 2
  simp only [Array.getElem?_eq_getElem, jw, jr, jq] at k4 k5 k6
  have q0 : w.heap.size < W0.heap.size := by omega
  have q1 : w.heap.size + 1 < W0.heap.size := by omega
  have q2 : w.heap.size + 1 + 1 < W0.heap.size := by omega
  have k7 := ah n3 0
  have k8 := ah n3 1
  have k9 := ah n3 2
  simp only [Array.getElem?_eq_getElem, jw, jr, jq] at k7 k8 k9
  have f7 := bf n3 0
  have f8 := bf n3 1
  have f9 := bf n3 2
  have N3 := Lib.hid n3
  clear n3
  clear n1 n2
  refine ((aa qm) _).mono ?_
  rintro e w1 ⟨rfl, hw1⟩
  have yf := og (w := W0) bem hw1
  obtain ⟨hc, hfz⟩ := fu yf
  clear hw1
  go_wp2_with fail
  refine ((aa HS2) _).mono ?_
  rintro e w2 ⟨rfl, hw2⟩
  have hbw2 := og (w := W0) bem hw2
  obtain ⟨hc, hfz⟩ := fu hbw2
  clear hw2
  go_wp2_with fail
  refine bodyPost_ret (v := .agg #[.int .i64 (s1.tdiv s2), .bool false, .slice none 0 0]) (by simp [results, Tryz.results144, go_sem, hc, k7, k8, k9, q2]) rfl ⟨s1.tdiv s2, false, none, 0, [], rfl, ig.small (aa HQ), ?_⟩
  have jh : Below w.heap.size w w2 := bz hw0 hbw2
  exact jh.grown (jl _ _ _ _ _) jh.size (fun k hk => by injection hk with hk; omega)
 ·
  
  obtain ⟨m1, hm1⟩ : ∃ o, o = z1.natAbs := ⟨_, rfl⟩
  obtain ⟨m2, hm2⟩ : ∃ o, o = z2.natAbs := ⟨_, rfl⟩
  obtain ⟨o1, agq⟩ : ∃ o, o = iw z1 := ⟨_, rfl⟩
  obtain ⟨o2, agp⟩ : ∃ o, o = iw z2 := ⟨_, rfl⟩
  rw [← hm1] at B1 Sa hz
  rw [← hm2] at B2 Wt hz ami
  rw [← agq] at G1 hz ho1
  rw [← agp] at G2 hz ho1
  obtain ⟨op, hop⟩ : ∃ o, o = o1 * o2 := ⟨_, rfl⟩
  have e1 : IntKind.i64.wrap (o1 * o2) = op := by rw [hop]; exact IntWalk.i64_in _ om
  have e1' : wrap64 (o1 * o2) = op := by rw [hop]; exact IntWalk.wrap64_in _ om
  rw [← hop] at hz
  obtain ⟨ng, hng⟩ : ∃ b, b = decide (op < 0) := ⟨_, rfl⟩
  rw [← hng] at hz
  obtain ⟨Z, hZ⟩ : ∃ o, o = z1.tdiv z2 := ⟨_, rfl⟩
  rw [← hZ] at hz ⊢
  have HZ := Lib.hid hz.symm
  have Ep := hide G1; have HG2 := hide G2; have HB1 := hide B1; have HB2 := hide B2; have HLEN := hide Sa; have Es := hide Wt
  have ngE := hng.symm
  clear hm1 hm2 agq agp ho1 hop hng hz hZ G1 G2 B1 B2 h1 h2 Sa Wt hl1 hl2 hz0
  by_cases a1 : l1.length = 0
  ·
   have a2 : ¬ l2.length = 0 := fun h => hs ⟨a1, h⟩
   rw [decide_eq_true a1] at qm
   rw [decide_eq_false a2] at HS2
   clear hsz1 hsz2 hs a1 a2
   go_enter Tryz.func144, Tryz.ntmps144
   go_wp2_with fail
   obtain ⟨n1, n2, n3, hsz, hw0⟩ := nu w (.cells #[.int .i64 s1, .bool dw, .slice A1 l1.length c1] 72) (.cells #[.int .i64 s2, .bool ek, .slice A2 l2.length c2] 72) (.cells #[.int .i64 0, .bool false, .slice none 0 0] 72)
   generalize (((w.alloc (.cells #[.int .i64 s1, .bool dw, .slice A1 l1.length c1] 72)).alloc (.cells #[.int .i64 s2, .bool ek, .slice A2 l2.length c2] 72)).alloc (.cells #[.int .i64 0, .bool false, .slice none 0 0] 72)) = W0 at *
   have k1 := ah n1 0
   have k2 := ah n1 1
   have k3 := ah n1 2
   simp only [Array.getElem?_eq_getElem, jw, jr, jq] at k1 k2 k3
   have k4 := ah n2 0
   have k5 := ah n2 1
   have k6 := ah n2 2
   simp only [Array.getElem?_eq_getElem, jw, jr, jq] at k4 k5 k6
   have q0 : w.heap.size < W0.heap.size := by omega
   have q1 : w.heap.size + 1 < W0.heap.size := by omega
   have q2 : w.heap.size + 1 + 1 < W0.heap.size := by omega
   have k7 := ah n3 0
   have k8 := ah n3 1
   have k9 := ah n3 2
   simp only [Array.getElem?_eq_getElem, jw, jr, jq] at k7 k8 k9
   have f7 := bf n3 0
   have f8 := bf n3 1
   have f9 := bf n3 2
   have N3 := Lib.hid n3
   clear n3
   clear n1 n2
   have G1 := (aa Ep) W0 hw0; have G2 := (aa HG2) W0 hw0; have B1 := (aa HB1) W0 hw0; have B2 := (aa HB2) W0 hw0
   refine ((aa qm) _).mono ?_
   rintro e w1 ⟨rfl, hw1⟩
   have yf := og (w := W0) bem hw1
   obtain ⟨hc, hfz⟩ := fu yf
   clear hw1
   go_wp2_with fail
   refine ((aa HS2) _).mono ?_
   rintro e w2 ⟨rfl, hw2⟩
   have hbw2 := og (w := W0) bem hw2
   obtain ⟨hc, hfz⟩ := fu hbw2
   clear hw2
   go_wp2_with fail
   go_region_with (first | (go_at_call_of 171 (Value.agg #[.int .i64 s1, .bool dw, .slice A1 l1.length c1]); refine ((aa B1) _ bem).mono ?_; rintro e w' ⟨A5, cap5, l5, rfl, yw, hb⟩; have hbw := cu (w := W0) bem hb; obtain ⟨hc, hfz⟩ := fu hbw) | (go_at_call_of 171 (Value.agg #[.int .i64 s2, .bool ek, .slice A2 l2.length c2]); refine ((aa B2) _ bem).mono ?_; rintro e w' ⟨A6, cap6, l6, rfl, oo, hb⟩; have kz := yw.below hb; have hbw := cu (w := W0) bem hb; obtain ⟨hc, hfz⟩ := fu hbw) | (go_at_call 178; refine (acf A5 A6 cap5 cap6 l5 l6 m1 m2 _ (by exact kz) (by exact oo) ami ((aa HLEN) _ _ _ _ () kz).2 ((aa Es) _ _ _ _ () oo).2).mono ?_; rintro e w' ⟨A7, Af, l7, A8, bla, l8, rfl, Ae, hn8, hb⟩; have hbw := cu (w := W0) bem hb; obtain ⟨hc, hfz⟩ := fu hbw))
   all_goals
    go_wp2_with fail
    go_region_with (first | (go_at_call_of 146 (Value.agg #[.int .i64 s1, .bool dw, .slice A1 l1.length c1]); refine ((aa G1) _ bem).mono ?_; rintro e w' ⟨rfl, hb⟩; have Ae : lv w' A7 Af l7 (m1 / m2) := (by first | exact Ae.below hb | exact lv.below (lv.drew Ae) hb | exact lv.below (w := World.drew _) Ae hb); have hbw := cu (w := W0) bem hb; obtain ⟨hc, hfz⟩ := fu hbw) | (go_at_call_of 146 (Value.agg #[.int .i64 s2, .bool ek, .slice A2 l2.length c2]); refine ((aa G2) _ bem).mono ?_; rintro e w' ⟨rfl, hb⟩; have Ae : lv w' A7 Af l7 (m1 / m2) := (by first | exact Ae.below hb | exact lv.below (lv.drew Ae) hb | exact lv.below (w := World.drew _) Ae hb); have hbw := cu (w := W0) bem hb; obtain ⟨hc, hfz⟩ := fu hbw) | (go_at_call 170; refine (Bc ng A7 Af l7 (m1 / m2) _ (by exact Ae)).mono ?_; rw [← HZ.out]; rintro e w' ⟨s, su, A', cap', l', rfl, hf, hb⟩; have hbw := cu (w := W0) bem hb; obtain ⟨hc, hfz⟩ := fu hbw))
    all_goals
     have hblk : w'.heap[w.heap.size + 1 + 1]? = some (.cells #[.int .i64 0, .bool false, .slice none 0 0] 72 (0, 0)) := (hbw.block _ q2).trans N3.out
     have kg := Lib.hid hblk
     have jh : Below w.heap.size w w' := bz hw0 hbw
     clear hblk
     go_wp2_with fail
     exact bodyPost_ret (v := .agg #[.int .i64 s, .bool su, .slice A' l'.length cap']) (by simp [results, Tryz.results144, go_sem, hc, k7, k8, k9, q2]) rfl
      ⟨s, su, A', cap', l', rfl, hf.upto kg.out (ze _ _ _ _ _) (jl _ _ _ _ _), jh.grown (jl _ _ _ _ _) jh.size (fun k hk => by injection hk with hk; omega)⟩
  ·
   skip
   rw [decide_eq_false a1] at qm
   clear hsz1 hsz2 hs a1
   go_enter Tryz.func144, Tryz.ntmps144
   go_wp2_with fail
   obtain ⟨n1, n2, n3, hsz, hw0⟩ := nu w (.cells #[.int .i64 s1, .bool dw, .slice A1 l1.length c1] 72) (.cells #[.int .i64 s2, .bool ek, .slice A2 l2.length c2] 72) (.cells #[.int .i64 0, .bool false, .slice none 0 0] 72)
   generalize (((w.alloc (.cells #[.int .i64 s1, .bool dw, .slice A1 l1.length c1] 72)).alloc (.cells #[.int .i64 s2, .bool ek, .slice A2 l2.length c2] 72)).alloc (.cells #[.int .i64 0, .bool false, .slice none 0 0] 72)) = W0 at *
   have k1 := ah n1 0
   have k2 := ah n1 1
   have k3 := ah n1 2
   simp only [Array.getElem?_eq_getElem, jw, jr, jq] at k1 k2 k3
   have k4 := ah n2 0
   have k5 := ah n2 1
   have k6 := ah n2 2
   simp only [Array.getElem?_eq_getElem, jw, jr, jq] at k4 k5 k6
   have q0 : w.heap.size < W0.heap.size := by omega
   have q1 : w.heap.size + 1 < W0.heap.size := by omega
   have q2 : w.heap.size + 1 + 1 < W0.heap.size := by omega
   have k7 := ah n3 0
   have k8 := ah n3 1
   have k9 := ah n3 2
   simp only [Array.getElem?_eq_getElem, jw, jr, jq] at k7 k8 k9
   have f7 := bf n3 0
   have f8 := bf n3 1
   have f9 := bf n3 2
   have N3 := Lib.hid n3
   clear n3
   clear n1 n2
   have G1 := (aa Ep) W0 hw0; have G2 := (aa HG2) W0 hw0; have B1 := (aa HB1) W0 hw0; have B2 := (aa HB2) W0 hw0
   refine ((aa qm) _).mono ?_
   rintro e w1 ⟨rfl, hw1⟩
   have yf := og (w := W0) bem hw1
   obtain ⟨hc, hfz⟩ := fu yf
   clear hw1
   go_wp2_with fail
   go_region_with (first | (go_at_call_of 171 (Value.agg #[.int .i64 s1, .bool dw, .slice A1 l1.length c1]); refine ((aa B1) _ bem).mono ?_; rintro e w' ⟨A5, cap5, l5, rfl, yw, hb⟩; have hbw := cu (w := W0) bem hb; obtain ⟨hc, hfz⟩ := fu hbw) | (go_at_call_of 171 (Value.agg #[.int .i64 s2, .bool ek, .slice A2 l2.length c2]); refine ((aa B2) _ bem).mono ?_; rintro e w' ⟨A6, cap6, l6, rfl, oo, hb⟩; have kz := yw.below hb; have hbw := cu (w := W0) bem hb; obtain ⟨hc, hfz⟩ := fu hbw) | (go_at_call 178; refine (acf A5 A6 cap5 cap6 l5 l6 m1 m2 _ (by exact kz) (by exact oo) ami ((aa HLEN) _ _ _ _ () kz).2 ((aa Es) _ _ _ _ () oo).2).mono ?_; rintro e w' ⟨A7, Af, l7, A8, bla, l8, rfl, Ae, hn8, hb⟩; have hbw := cu (w := W0) bem hb; obtain ⟨hc, hfz⟩ := fu hbw))
   all_goals
    go_wp2_with fail
    go_region_with (first | (go_at_call_of 146 (Value.agg #[.int .i64 s1, .bool dw, .slice A1 l1.length c1]); refine ((aa G1) _ bem).mono ?_; rintro e w' ⟨rfl, hb⟩; have Ae : lv w' A7 Af l7 (m1 / m2) := (by first | exact Ae.below hb | exact lv.below (lv.drew Ae) hb | exact lv.below (w := World.drew _) Ae hb); have hbw := cu (w := W0) bem hb; obtain ⟨hc, hfz⟩ := fu hbw) | (go_at_call_of 146 (Value.agg #[.int .i64 s2, .bool ek, .slice A2 l2.length c2]); refine ((aa G2) _ bem).mono ?_; rintro e w' ⟨rfl, hb⟩; have Ae : lv w' A7 Af l7 (m1 / m2) := (by first | exact Ae.below hb | exact lv.below (lv.drew Ae) hb | exact lv.below (w := World.drew _) Ae hb); have hbw := cu (w := W0) bem hb; obtain ⟨hc, hfz⟩ := fu hbw) | (go_at_call 170; refine (Bc ng A7 Af l7 (m1 / m2) _ (by exact Ae)).mono ?_; rw [← HZ.out]; rintro e w' ⟨s, su, A', cap', l', rfl, hf, hb⟩; have hbw := cu (w := W0) bem hb; obtain ⟨hc, hfz⟩ := fu hbw))
    all_goals
     have hblk : w'.heap[w.heap.size + 1 + 1]? = some (.cells #[.int .i64 0, .bool false, .slice none 0 0] 72 (0, 0)) := (hbw.block _ q2).trans N3.out
     have kg := Lib.hid hblk
     have jh : Below w.heap.size w w' := bz hw0 hbw
     clear hblk
     go_wp2_with fail
     exact bodyPost_ret (v := .agg #[.int .i64 s, .bool su, .slice A' l'.length cap']) (by simp [results, Tryz.results144, go_sem, hc, k7, k8, k9, q2]) rfl
      ⟨s, su, A', cap', l', rfl, hf.upto kg.out (ze _ _ _ _ _) (jl _ _ _ _ _), jh.grown (jl _ _ _ _ _) jh.size (fun k hk => by injection hk with hk; omega)⟩

end Go.Proofs.YtjdnmdlnaoedoaaGreatDoor
namespace Go.Proofs.YtjdnmdlnaoedoaaGreatDoor
open Go.RowKit

theorem amc (s1 : Int) (dw : Bool) (A1 : Option Addr) (c1 : Nat) (l1 : List Nat) (z1 : Int) (s2 : Int) (ek : Bool) (A2 : Option Addr) (c2 : Nat) (l2 : List Nat) (z2 : Int) (w : World)
  (h1 : ig w s1 dw A1 c1 l1 z1) (h2 : ig w s2 ek A2 c2 l2 z2) (hl1 : l1.length ≤ lim) (hl2 : l2.length ≤ lim) (a1 : l1.length = 0) (a2 : l2.length = 0) (hz : (z1 + z2).natAbs < Kh) :
  Calls Tryz.prog 145 #[.agg #[.int .i64 s1, .bool dw, .slice A1 l1.length c1], .agg #[.int .i64 s2, .bool ek, .slice A2 l2.length c2]] w fun e w' => En w (z1 + z2) e w' := by
 have qm := hide (fun W => uh s1 dw A1 c1 l1.length W)
 have HS2 := hide (fun W => uh s2 ek A2 c2 l2.length W)
 rw [decide_eq_true a1] at qm
 rw [decide_eq_true a2] at HS2
 obtain ⟨e1, en1, b1⟩ := h1.Bl a1
 obtain ⟨e2, en2, b2⟩ := h2.Bl a2
 clear en1 en2
 subst e1 e2
 obtain ⟨Z, hZ⟩ : ∃ o, o = s1 + s2 := ⟨_, rfl⟩
 rw [← hZ] at hz ⊢
 rw [zn] at b1 b2
 have hz' := hz
 rw [zn] at hz'
 have w1 : IntKind.i64.wrap (s1 + s2) = Z := by rw [hZ]; exact IntWalk.i64_in _ om
 have w2 : wrap64 (s1 + s2) = Z := by rw [hZ]; exact IntWalk.wrap64_in _ om
 have n1 : (Z == -9223372036854775808) = false := beq_eq_false_iff_ne.2 om
 have n2 : (Z != -9223372036854775808) = true := by simp [bne, n1]
 have HZ := hide hz
 by_cases hp : 0 < s2
 ·
  have d1 : decide (s1 < Z) = true := decide_eq_true om
  have d2 : decide (0 < s2) = true := decide_eq_true hp
  clear h1 h2 hl1 hl2 a1 a2 hz hz' hZ b1 b2 hp
  go_enter Tryz.func145, Tryz.ntmps145
  go_wp2_with fail
  obtain ⟨n1, n2, n3, hsz, hw0⟩ := nu w (.cells #[.int .i64 s1, .bool dw, .slice A1 l1.length c1] 72) (.cells #[.int .i64 s2, .bool ek, .slice A2 l2.length c2] 72) (.cells #[.int .i64 0, .bool false, .slice none 0 0] 72)
  generalize (((w.alloc (.cells #[.int .i64 s1, .bool dw, .slice A1 l1.length c1] 72)).alloc (.cells #[.int .i64 s2, .bool ek, .slice A2 l2.length c2] 72)).alloc (.cells #[.int .i64 0, .bool false, .slice none 0 0] 72)) = W0 at *
  have k1 := ah n1 0
  have k2 := ah n1 1
  have k3 := ah n1 2
  simp only [Array.getElem?_eq_getElem, jw, jr, jq] at k1 k2 k3
  have k4 := ah n2 0
  have k5 := ah n2 1
  have k6 := ah n2 2
  simp only [Array.getElem?_eq_getElem, jw, jr, jq] at k4 k5 k6
  have q0 : w.heap.size < W0.heap.size := by omega
  have q1 : w.heap.size + 1 < W0.heap.size := by omega
  have q2 : w.heap.size + 1 + 1 < W0.heap.size := by omega
  have k7 := ah n3 0
  have k8 := ah n3 1
  have k9 := ah n3 2
  simp only [Array.getElem?_eq_getElem, jw, jr, jq] at k7 k8 k9
  have f7 := bf n3 0
  have f8 := bf n3 1
  have f9 := bf n3 2
  have N3 := Lib.hid n3
  clear n3
  clear n1 n2
  refine ((aa qm) _).mono ?_
  rintro e w1 ⟨rfl, hw1⟩
  have yf := og (w := W0) bem hw1
  obtain ⟨hc, hfz⟩ := fu yf
  clear hw1
  go_wp2_with fail
  refine ((aa HS2) _).mono ?_
  rintro e w2 ⟨rfl, hw2⟩
  have hbw2 := og (w := W0) bem hw2
  obtain ⟨hc, hfz⟩ := fu hbw2
  clear hw2
  go_wp2_with fail
  have hbw : Below W0.heap.size W0 w2 := by (first | assumption | (repeat (first | exact Below.refl _ _ | assumption | refine Below.drew ?_ | (refine Below.alloc ?_ (by simp <;> omega) _))))
  have hblk : w2.heap[w.heap.size + 1 + 1]? = some (.cells #[.int .i64 0, .bool false, .slice none 0 0] 72 (0, 0)) := (hbw.block _ q2).trans N3.out
  have jh : Below w.heap.size w w2 := bz hw0 hbw
  exact bodyPost_ret (v := .agg #[.int .i64 Z, .bool false, .slice none 0 0]) (by simp [results, Tryz.results145, go_sem, hc, k7, k8, k9, q2]) rfl
   ⟨Z, false, none, 0, [], rfl, ig.small (aa HZ), jh.grown (jl _ _ _ _ _) jh.size (fun k hk => by injection hk with hk; omega)⟩
 ·
  have d1 : decide (s1 < Z) = false := decide_eq_false om
  have d2 : decide (0 < s2) = false := decide_eq_false hp
  clear h1 h2 hl1 hl2 a1 a2 hz hz' hZ b1 b2 hp
  go_enter Tryz.func145, Tryz.ntmps145
  go_wp2_with fail
  obtain ⟨n1, n2, n3, hsz, hw0⟩ := nu w (.cells #[.int .i64 s1, .bool dw, .slice A1 l1.length c1] 72) (.cells #[.int .i64 s2, .bool ek, .slice A2 l2.length c2] 72) (.cells #[.int .i64 0, .bool false, .slice none 0 0] 72)
  generalize (((w.alloc (.cells #[.int .i64 s1, .bool dw, .slice A1 l1.length c1] 72)).alloc (.cells #[.int .i64 s2, .bool ek, .slice A2 l2.length c2] 72)).alloc (.cells #[.int .i64 0, .bool false, .slice none 0 0] 72)) = W0 at *
  have k1 := ah n1 0
  have k2 := ah n1 1
  have k3 := ah n1 2
  simp only [Array.getElem?_eq_getElem, jw, jr, jq] at k1 k2 k3
  have k4 := ah n2 0
  have k5 := ah n2 1
  have k6 := ah n2 2
  simp only [Array.getElem?_eq_getElem, jw, jr, jq] at k4 k5 k6
  have q0 : w.heap.size < W0.heap.size := by omega
  have q1 : w.heap.size + 1 < W0.heap.size := by omega
  have q2 : w.heap.size + 1 + 1 < W0.heap.size := by omega
  have k7 := ah n3 0
  have k8 := ah n3 1
  have k9 := ah n3 2
  simp only [Array.getElem?_eq_getElem, jw, jr, jq] at k7 k8 k9
  have f7 := bf n3 0
  have f8 := bf n3 1
  have f9 := bf n3 2
  have N3 := Lib.hid n3
  clear n3
  clear n1 n2
  refine ((aa qm) _).mono ?_
  rintro e w1 ⟨rfl, hw1⟩
  have yf := og (w := W0) bem hw1
  obtain ⟨hc, hfz⟩ := fu yf
  clear hw1
  go_wp2_with fail
  refine ((aa HS2) _).mono ?_
  rintro e w2 ⟨rfl, hw2⟩
  have hbw2 := og (w := W0) bem hw2
  obtain ⟨hc, hfz⟩ := fu hbw2
  clear hw2
  go_wp2_with fail
  have hbw : Below W0.heap.size W0 w2 := by (first | assumption | (repeat (first | exact Below.refl _ _ | assumption | refine Below.drew ?_ | (refine Below.alloc ?_ (by simp <;> omega) _))))
  have hblk : w2.heap[w.heap.size + 1 + 1]? = some (.cells #[.int .i64 0, .bool false, .slice none 0 0] 72 (0, 0)) := (hbw.block _ q2).trans N3.out
  have jh : Below w.heap.size w w2 := bz hw0 hbw
  exact bodyPost_ret (v := .agg #[.int .i64 Z, .bool false, .slice none 0 0]) (by simp [results, Tryz.results145, go_sem, hc, k7, k8, k9, q2]) rfl
   ⟨Z, false, none, 0, [], rfl, ig.small (aa HZ), jh.grown (jl _ _ _ _ _) jh.size (fun k hk => by injection hk with hk; omega)⟩

end Go.Proofs.YtjdnmdlnaoedoaaGreatDoor
