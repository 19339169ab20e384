/- Texts beneath a law of layer 1. -/
import Derived.Test.YtfgeaakhlcaibaaGreatDoorCy12
set_option maxRecDepth 100000
set_option maxHeartbeats 16000000
namespace Go.Proofs.YtfgeaakhlcaibaaGreatDoor
open Go.RowKit

namespace Sb
def Ad (f : Nat → Int) : Prop := ∀ j, j < 7 → -9 ≤ f j ∧ f j ≤ 9
instance (f : Nat → Int) : Decidable (Ad f) := by unfold Ad; infer_instance
theorem ahi (z : Int) (w : World) : Calls Tryz.prog 167 #[.int .i64 z] w (ib (Rg.au (.bool (decide (z < -9 ∨ 9 < z)))) w) := by
 obtain ⟨o, ho⟩ : ∃ o, o = decide (z < -9 ∨ 9 < z) := ⟨_, rfl⟩
 rw [← ho]
 have HR := hide ho
 clear ho
 go_enter Tryz.func167, Tryz.ntmps167
 go_upto_region 1 with fail
 have hO := (Own.nil w)
 have HO := hide hO
 clear hO
 by_cases g1 : z < -9
 ·
  have k1 : decide (z < -9) = true := decide_eq_true g1
  have hr : o = true := by rw [aa HR]; exact decide_eq_true om
  subst hr
  go_upto_region 1 with fail
  refine Rg.dh 7 9 (Rg.pick [Rg.au (.int .i64 z), Rg.au (.bool true), Rg.au (.bool true), Rg.au undef, Rg.au undef, Rg.au (.bool true), Rg.au (.bool true)]) (ay w _ w) eu [] kr rfl (Rg.dw.pick ⟨Rg.ae _, Rg.ae _, Rg.ae _, Rg.ae _, Rg.ae _, Rg.ae _, Rg.ae _, trivial⟩) (ay.begin (aa HO))
   (ah (di rfl aF)
   (ah (rz rfl (aT 0) (Rg.iy _) rfl k1)
   (ah (di rfl (aT 1))
   (Rg.df (Rg.mf (d := 5) rfl kr rfl rfl mg rfl rfl)
   (Rg.df (Rg.mf (d := 5) rfl kr rfl rfl mg rfl rfl)
   (ah (vg rfl (aT 2) (Rg.iy _))
   (ah (jk rfl (aT 5))
   Rg.bf))))))) ?_
  intro v1 V1 hG1 hv1 hne1
  simp only [Rg.puts, Act.put, tA]
  have e5 : v1 5 = .bool true := hv1 5 de
  have e6 : v1 6 = .bool true := hv1 6 de
  simp only [e5, e6]
  have hO := hG1.1
  clear HO
  have HO := hide hO
  clear hO hG1 hv1 hne1
  try clear e5 e6
  go_wp2_with fail
  exact xw Tryz.results167 rfl (aa HO).bel rfl
 ·
  by_cases g2 : 9 < z
  ·
   have k1 : decide (z < -9) = false := decide_eq_false g1
   have k2 : decide (9 < z) = true := decide_eq_true g2
   have hr : o = true := by rw [aa HR]; exact decide_eq_true om
   subst hr
   go_upto_region 1 with fail
   refine Rg.dh 7 9 (Rg.pick [Rg.au (.int .i64 z), Rg.au (.bool false), Rg.au (.bool false), Rg.au (.int .i64 z), Rg.au (.bool true), Rg.au (.bool true), Rg.au (.bool true)]) (ay w _ w) eu [] kr rfl (Rg.dw.pick ⟨Rg.ae _, Rg.ae _, Rg.ae _, Rg.ae _, Rg.ae _, Rg.ae _, Rg.ae _, trivial⟩) (ay.begin (aa HO))
    (ah (di rfl aF)
    (ah (rz rfl (aT 0) (Rg.iy _) rfl k1)
    (ah (di rfl (aT 1))
    (Rg.df (Rg.fu (d := 5) rfl kr rfl (di rfl aF))
    (Rg.df (Rg.fu (d := 5) rfl kr rfl (Va rfl (aT 3) (Rg.iy _) rfl k2))
    (ah (pg rfl (aT 2) (aT 4))
    (ah (jk rfl (aT 5))
    Rg.bf))))))) ?_
   intro v1 V1 hG1 hv1 hne1
   simp only [Rg.puts, Act.put, tA]
   have e5 : v1 5 = .bool true := hv1 5 de
   have e6 : v1 6 = .bool true := hv1 6 de
   simp only [e5, e6]
   have hO := hG1.1
   clear HO
   have HO := hide hO
   clear hO hG1 hv1 hne1
   try clear e5 e6
   go_wp2_with fail
   exact xw Tryz.results167 rfl (aa HO).bel rfl
  ·
   have k1 : decide (z < -9) = false := decide_eq_false g1
   have k2 : decide (9 < z) = false := decide_eq_false g2
   have hr : o = false := by rw [aa HR]; exact decide_eq_false om
   subst hr
   go_upto_region 1 with fail
   refine Rg.dh 7 9 (Rg.pick [Rg.au (.int .i64 z), Rg.au (.bool false), Rg.au (.bool false), Rg.au (.int .i64 z), Rg.au (.bool false), Rg.au (.bool false), Rg.au (.bool false)]) (ay w _ w) eu [] kr rfl (Rg.dw.pick ⟨Rg.ae _, Rg.ae _, Rg.ae _, Rg.ae _, Rg.ae _, Rg.ae _, Rg.ae _, trivial⟩) (ay.begin (aa HO))
    (ah (di rfl aF)
    (ah (rz rfl (aT 0) (Rg.iy _) rfl k1)
    (ah (di rfl (aT 1))
    (Rg.df (Rg.fu (d := 5) rfl kr rfl (di rfl aF))
    (Rg.df (Rg.fu (d := 5) rfl kr rfl (Va rfl (aT 3) (Rg.iy _) rfl k2))
    (ah (pg rfl (aT 2) (aT 4))
    (ah (jk rfl (aT 5))
    Rg.bf))))))) ?_
   intro v1 V1 hG1 hv1 hne1
   simp only [Rg.puts, Act.put, tA]
   have e5 : v1 5 = .bool false := hv1 5 de
   have e6 : v1 6 = .bool false := hv1 6 de
   simp only [e5, e6]
   have hO := hG1.1
   clear HO
   have HO := hide hO
   clear hO hG1 hv1 hne1
   try clear e5 e6
   go_wp2_with fail
   exact xw Tryz.results167 rfl (aa HO).bel rfl
theorem avu {f : Nat → Int} {post : List ji} {TB : TypeId} {b0 : Nat} (o : Int) (w : World) (hb : yf w b0 TB (.k (eK f) :: post))
  (ho : ((∀ j, j < 7 → -9 ≤ f j ∧ f j ≤ 9) → o = -1) ∧ (∀ k : Nat, k < 7 → (f k < -9 ∨ 9 < f k) → (∀ j, j < k → -9 ≤ f j ∧ f j ≤ 9) → o = (k : Int))) :
  Calls Tryz.prog 204 #[.slice (some ⟨b0, 0, none⟩) 7 7, .func (.func 167) #[] #[]] w (ib (Rg.au (.int .i64 o)) w) := by
 have HB := hide hb
 have HR := hide ho
 clear hb ho
 go_enter Tryz.func204, Tryz.ntmps204
 go_upto_region 1 with fail
 have hO := (Own.nil w)
 have HO := hide hO
 clear hO
 go_wp2_with fail
 go_loopw [8] (fun vk wr => ∃ k : Nat, k ≤ 7 ∧ vk = .int .i64 ((k : Nat) : Int) ∧ (∀ j, j < k → -9 ≤ f j ∧ f j ≤ 9) ∧ Hid (Own w [] wr)) (fun vk _ => 7 - (intOf vk).toNat)
 case atStart => exact ⟨0, by omega, rfl, (by intro j hj; omega), HO⟩
 case round =>
  obtain ⟨k, hk, rfl, hall, HO⟩ := hrel
  have HK := hide hk
  have Iw := hide hall
  clear hk hall
  by_cases g1 : k < 7
  ·
   have d1 : decide ((k : Int) < 7) = true := decide_eq_true om
   have yc := hide g1
   clear g1
   go_upto_region 2 with fail
   refine Rg.dh 1 19 (Rg.pick [Rg.au (.bool true)]) (ay w _ wr) eu [] kr rfl (Rg.dw.pick ⟨Rg.ae _, trivial⟩) (ay.begin (aa HO))
    (ah (rz rfl aF aF rfl d1)
    Rg.bf) ?_
   intro v1 V1 hG1 hv1 hne1
   simp only [Rg.puts, Act.put, tA]
   have e0 : v1 0 = .bool true := hv1 0 de
   simp only [e0]
   have hO := hG1.1
   clear HO
   have HO := hide hO
   clear hO hG1 hv1 hne1
   try clear e0
   clear d1
   go_upto_region 3 with fail
   refine Rg.dh 2 19 (Rg.pick [Rg.au (.int .i64 (k : Int)), Rg.au (.int .i64 (k : Int))]) (ay w _ V1) eu [] kr rfl (Rg.dw.pick ⟨Rg.ae _, Rg.ae _, trivial⟩) (ay.begin (aa HO))
    (ah (di rfl aF)
    (ah (jk rfl (aT 0))
    Rg.bf)) ?_
   intro v2 V2 hG2 hv2 hne2
   simp only [Rg.puts, Act.put, tA]
   have e0 : v2 0 = .int .i64 (k : Int) := hv2 0 de
   have e1 : v2 1 = .int .i64 (k : Int) := hv2 1 de
   simp only [e0, e1]
   have hO := hG2.1
   clear HO
   have HO := hide hO
   clear hO hG2 hv2 hne2
   try clear e0 e1
   by_cases g2 : f k < -9 ∨ 9 < f k
   ·
    have k2 : decide (f k < -9 ∨ 9 < f k) = true := decide_eq_true g2
    go_upto_region 4 with fail
    refine Rg.dh 6 19 (Rg.pick [Rg.au (.func (.func 167) #[] #[]), Rg.au (.slice (some ⟨b0, 0, none⟩) 7 7), Rg.au (.int .i64 (k : Int)), Rg.au (.pointer (some ⟨b0, k, none⟩)), Rg.au (.int .i64 (f k)), Rg.au (.bool true)]) (ay w _ V2) eu [] kr rfl (Rg.dw.pick ⟨Rg.ae _, Rg.ae _, Rg.ae _, Rg.ae _, Rg.ae _, Rg.ae _, trivial⟩) (ay.begin (aa HO))
     (ah (di rfl aF)
     (ah (di rfl aF)
     (ah (di rfl aF)
     (ah (aor (i := k) (m := 7) rfl (aT 1) (aT 2) (aa yc) (by simp; rfl))
     (ah (awr (f := f) (b := b0) (TB := TB) (post := post) (fun W h => (aa HB).below h.1.bel) rfl (aT 3) (aa yc) rfl)
     (ah (aeh Tryz.func167 kr rfl ay.step (aT 0) (aT 4) (fun W v0 hG h0 => by cases h0; exact k2 ▸ ahi _ W))
     Rg.bf)))))) ?_
    intro v3 V3 hG3 hv3 ma
    simp only [Rg.puts, Act.put, tA]
    have e5 : v3 5 = .bool true := hv3 5 de
    simp only [e5]
    have hO := hG3.1
    clear HO
    have HO := hide hO
    clear hO hG3 hv3 ma
    try clear e5
    clear k2
    have hr : o = (k : Int) := (aa HR).2 k (aa yc) g2 (aa Iw)
    subst hr
    go_upto_region 5 with fail
    refine Rg.dh 2 19 (Rg.pick [Rg.au (.int .i64 (k : Int)), Rg.au (.int .i64 (k : Int))]) (ay w _ V3) eu [] kr rfl (Rg.dw.pick ⟨Rg.ae _, Rg.ae _, trivial⟩) (ay.begin (aa HO))
     (ah (di rfl aF)
     (ah (jk rfl (aT 0))
     Rg.bf)) ?_
    intro v4 V4 hG4 hv4 sw
    simp only [Rg.puts, Act.put, tA]
    have e0 : v4 0 = .int .i64 (k : Int) := hv4 0 de
    have e1 : v4 1 = .int .i64 (k : Int) := hv4 1 de
    simp only [e0, e1]
    have hO := hG4.1
    clear HO
    have HO := hide hO
    clear hO hG4 hv4 sw
    try clear e0 e1
    go_wp2_with fail
    exact xw Tryz.results204 rfl (aa HO).bel rfl
   ·
    have k2 : decide (f k < -9 ∨ 9 < f k) = false := decide_eq_false g2
    go_upto_region 4 with fail
    refine Rg.dh 6 19 (Rg.pick [Rg.au (.func (.func 167) #[] #[]), Rg.au (.slice (some ⟨b0, 0, none⟩) 7 7), Rg.au (.int .i64 (k : Int)), Rg.au (.pointer (some ⟨b0, k, none⟩)), Rg.au (.int .i64 (f k)), Rg.au (.bool false)]) (ay w _ V2) eu [] kr rfl (Rg.dw.pick ⟨Rg.ae _, Rg.ae _, Rg.ae _, Rg.ae _, Rg.ae _, Rg.ae _, trivial⟩) (ay.begin (aa HO))
     (ah (di rfl aF)
     (ah (di rfl aF)
     (ah (di rfl aF)
     (ah (aor (i := k) (m := 7) rfl (aT 1) (aT 2) (aa yc) (by simp; rfl))
     (ah (awr (f := f) (b := b0) (TB := TB) (post := post) (fun W h => (aa HB).below h.1.bel) rfl (aT 3) (aa yc) rfl)
     (ah (aeh Tryz.func167 kr rfl ay.step (aT 0) (aT 4) (fun W v0 hG h0 => by cases h0; exact k2 ▸ ahi _ W))
     Rg.bf)))))) ?_
    intro v3 V3 hG3 hv3 ma
    simp only [Rg.puts, Act.put, tA]
    have e5 : v3 5 = .bool false := hv3 5 de
    simp only [e5]
    have hO := hG3.1
    clear HO
    have HO := hide hO
    clear hO hG3 hv3 ma
    try clear e5
    clear k2
    have HN := hide (show ∀ j, j < k + 1 → -9 ≤ f j ∧ f j ≤ 9 from fun j hj => by
     rcases Nat.lt_succ_iff_lt_or_eq.1 hj with h | rfl
     ·
      exact (aa Iw) j h
     ·
      omega)
    clear g2
    go_wp2_with fail
    go_roundw
    case rel =>
     exact ⟨k + 1, by have := aa yc; omega, Ld (aa yc) om, aa HN, HO⟩
    case measure =>
     have h1 := aa yc
     clear HO
     rw [Jp h1 om]
     exact measS h1
  ·
   obtain rfl : k = 7 := by have := aa HK; omega
   have hr : o = -1 := (aa HR).1 (aa Iw)
   subst hr
   clear g1
   go_upto_region 2 with fail
   refine Rg.dh 1 19 (Rg.pick [Rg.au (.bool false)]) (ay w _ wr) eu [] kr rfl (Rg.dw.pick ⟨Rg.ae _, trivial⟩) (ay.begin (aa HO))
    (ah (rz rfl aF aF rfl rfl)
    Rg.bf) ?_
   intro v1 V1 hG1 hv1 hne1
   simp only [Rg.puts, Act.put, tA]
   have e0 : v1 0 = .bool false := hv1 0 de
   simp only [e0]
   have hO := hG1.1
   clear HO
   have HO := hide hO
   clear hO hG1 hv1 hne1
   try clear e0
   go_upto_region 7 with fail
   refine Rg.dh 1 19 (Rg.pick [Rg.au (.int .i64 (-1))]) (ay w _ V1) eu [] kr rfl (Rg.dw.pick ⟨Rg.ae _, trivial⟩) (ay.begin (aa HO))
    (ah (jk rfl (Rg.iy _))
    Rg.bf) ?_
   intro v2 V2 hG2 hv2 hne2
   simp only [Rg.puts, Act.put, tA]
   have e0 : v2 0 = .int .i64 (-1) := hv2 0 de
   simp only [e0]
   have hO := hG2.1
   clear HO
   have HO := hide hO
   clear hO hG2 hv2 hne2
   try clear e0
   go_wp2_with fail
   exact xw Tryz.results204 rfl (aa HO).bel rfl
theorem bfl (f : Nat → Int) : ∃ o : Int, (((∀ j, j < 7 → -9 ≤ f j ∧ f j ≤ 9) → o = -1) ∧ (∀ k : Nat, k < 7 → (f k < -9 ∨ 9 < f k) → (∀ j, j < k → -9 ≤ f j ∧ f j ≤ 9) → o = (k : Int))) ∧ decide (0 ≤ o) = decide (¬ Ad f) := by
 by_cases h : Ad f
 ·
  exact ⟨-1, ⟨fun _ => rfl, fun k hk hb _ => by have := h k hk; omega⟩, by rw [decide_eq_false (fun hn : ¬ Ad f => hn h)]; rfl⟩
 ·
  have hex : ∃ k, k < 7 ∧ (f k < -9 ∨ 9 < f k) ∧ ∀ j, j < k → -9 ≤ f j ∧ f j ≤ 9 := by
   have key : ∀ n, n ≤ 7 → (∀ j, j < n → -9 ≤ f j ∧ f j ≤ 9) ∨ ∃ k, k < 7 ∧ (f k < -9 ∨ 9 < f k) ∧ ∀ j, j < k → -9 ≤ f j ∧ f j ≤ 9 := by
    intro n
    induction n with
    | zero => exact fun _ => .inl (by intro j hj; omega)
    | succ n ih =>
     intro hn
     rcases ih om with h1 | h1
     ·
      by_cases h2 : -9 ≤ f n ∧ f n ≤ 9
      ·
       exact .inl fun j hj => by
        rcases Nat.lt_succ_iff_lt_or_eq.1 hj with h3 | rfl
        ·
         exact h1 j h3
        ·
         exact h2
      ·
       exact .inr ⟨n, by omega, by omega, h1⟩
     ·
      exact .inr h1
   rcases key 7 om with h1 | h1
   ·
    exact absurd h1 h
   ·
    exact h1
  obtain ⟨k, hk, hb, ha⟩ := hex
  refine ⟨(k : Int), ⟨fun h1 => absurd h1 h, fun k' hk' hb' ha' => ?_⟩, by rw [decide_eq_true om, decide_eq_true h]⟩
  rcases Nat.lt_trichotomy k k' with h1 | h1 | h1
  ·
   have := ha' k h1; omega
  ·
   rw [h1]
  ·
   have := ha k' h1; omega
theorem amy {f : Nat → Int} {post : List ji} {TB : TypeId} {b0 : Nat} (c : Bool) (w : World) (hb : yf w b0 TB (.k (eK f) :: post)) (hc : decide (¬ Ad f) = c) :
  Calls Tryz.prog 168 #[.slice (some ⟨b0, 0, none⟩) 7 7, .func (.func 167) #[] #[]] w (ib (Rg.au (.bool c)) w) := by
 obtain ⟨o, hr, hd⟩ := bfl f
 rw [hc] at hd
 have HB := hide hb
 have HR := hide hr
 have HC := hide hd
 clear hb hr hc hd
 go_enter Tryz.func168, Tryz.ntmps168
 go_upto_region 1 with fail
 have hO := (Own.nil w)
 have HO := hide hO
 clear hO
 go_upto_region 1 with fail
 refine Rg.dh 5 9 (Rg.pick [Rg.au (.slice (some ⟨b0, 0, none⟩) 7 7), Rg.au (.func (.func 167) #[] #[]), Rg.au (.int .i64 o), Rg.au (.bool c), Rg.au (.bool c)]) (ay w _ w) eu [] kr rfl (Rg.dw.pick ⟨Rg.ae _, Rg.ae _, Rg.ae _, Rg.ae _, Rg.ae _, trivial⟩) (ay.begin (aa HO))
  (ah (di rfl aF)
  (ah (di rfl aF)
  (ah (sc2 Tryz.func204 (aT 0) (aT 1) (fun W v0 v1 hG h0 h1 => by cases h0; cases h1; exact avu o W ((aa HB).below hG.bel) (aa HR)))
  (ah (bhm rfl (aT 2) (Rg.iy _) rfl (aa HC))
  (ah (jk rfl (aT 3))
  Rg.bf))))) ?_
 intro v1 V1 hG1 hv1 hne1
 simp only [Rg.puts, Act.put, tA]
 have e3 : v1 3 = .bool c := hv1 3 de
 have e4 : v1 4 = .bool c := hv1 4 de
 simp only [e3, e4]
 have hO := hG1.1
 clear HO
 have HO := hide hO
 clear hO hG1 hv1 hne1
 try clear e3 e4
 go_wp2_with fail
 exact xw Tryz.results168 rfl (aa HO).bel rfl
theorem Rn {f : Nat → Int} (d : Bool) (w : World) (u0 : Value) (h0 : ax [.k (eK f)] w u0) (hd : decide (Ad f) = d) :
  Calls Tryz.prog 96 #[u0] w (ib (Rg.au (.bool d)) w) := by
 obtain ⟨c, hc⟩ : ∃ c, decide (¬ Ad f) = c := ⟨_, rfl⟩
 have HC := hide hc
 have HD := hide (show (!c) = d by rw [← hc, ← hd, decide_not, Bool.not_not])
 clear hc hd
 have hu0 := bis h0
 subst hu0
 go_enter Tryz.func96, Tryz.ntmps96
 go_upto_region 1 with fail
 have hO := (Own.push (T := 42) (ls := [.k (eK f)]) (Own.nil w) (fo.e rfl) (w.heap.size) rfl)
 generalize w.alloc (.cells #[.int .i64 (f 0), .int .i64 (f 1), .int .i64 (f 2), .int .i64 (f 3), .int .i64 (f 4), .int .i64 (f 5), .int .i64 (f 6)] 42) = W0 at *
 have HO := hide hO
 clear hO
 go_upto_region 2 with fail
 refine Rg.dh 5 8 (Rg.pick [Rg.au (.slice (some ⟨w.heap.size, 0, none⟩) 7 7), Rg.au (.func (.func 167) #[] #[]), Rg.au (.bool c), Rg.au (.bool d), Rg.au (.bool d)]) (ay w _ W0) eu [] kr rfl (Rg.dw.pick ⟨Rg.ae _, Rg.ae _, Rg.ae _, Rg.ae _, Rg.ae _, trivial⟩) (ay.begin (aa HO))
  (ah (asv (b := w.heap.size) (f := f) (post := []) (fun W h => ay.box me0 h) rfl aF rfl)
  (ah (di rfl aF)
  (ah (sc2 Tryz.func168 (aT 0) (aT 1) (fun W v0 v1 hG h0 h1 => by cases h0; cases h1; exact amy c W (ay.box me0 hG) (aa HC)))
  (ah (zb rfl (aT 2) rfl (aa HD))
  (ah (jk rfl (aT 3))
  Rg.bf))))) ?_
 intro v1 V1 hG1 hv1 hne1
 simp only [Rg.puts, Act.put, tA]
 have e3 : v1 3 = .bool d := hv1 3 de
 have e4 : v1 4 = .bool d := hv1 4 de
 simp only [e3, e4]
 have hO := hG1.1
 clear HO
 have HO := hide hO
 clear hO hG1 hv1 hne1
 try clear e3 e4
 go_wp2_with fail
 exact xw Tryz.results96 rfl (aa HO).bel rfl
end Sb


namespace Sb
theorem Lv {B K : Nat} {z : Int} (hB : 1 < B) (h : Wd.Sz B K z) : ∀ n : Nat, Wd.Sz B (K * n + 1) (z ^ n)
 | 0 => by rw [Int.pow_zero]; exact Wd.Sz.of_le (by show 1 < B; omega) hB om
 | n + 1 => by
  have := (Lv hB h n).mul h
  rw [Int.pow_succ, Nat.mul_succ, Nat.add_right_comm]
  exact this
theorem apf (x : Rat) (m : Nat) : x ^ (m + 1) = x ^ m * x := Rat.pow_succ x m
theorem apd (x : Rat) : x ^ 0 = 1 := Rat.pow_zero x
theorem Je (x : Rat) (m : Nat) : (x ^ m).num = x.num ^ m ∧ ((x ^ m).den : Int) = (x.den : Int) ^ m := ⟨rfl, Int.natCast_pow _ _⟩
theorem Sm.pow {K : Nat} {x : Rat} (h : Sm K x) (m : Nat) (hm : K * m + 1 ≤ 1000000) : Sm (K * m + 1) (x ^ m) :=
 ⟨⟨by rw [(Je x m).1]; exact Lv pz h.1.1 m, by rw [(Je x m).2]; exact Lv pz h.1.2 m⟩, hm⟩
theorem uu.pow {K : Nat} {x : Rat} (h : uu K x) (m : Nat) (hm : K * m + 1 ≤ 1000000) : uu (K * m + 1) (x ^ m) :=
 ⟨⟨by rw [(Je x m).1]; exact Lv Py h.1.1 m, by rw [(Je x m).2]; exact Lv Py h.1.2 m⟩, hm⟩
theorem bdc {F : Nat} {vs : Array Value} {W : World} {a b : Rat} (e : a = b) (h : Calls Tryz.prog F vs W (ib (ax [.r a]) W)) : Calls Tryz.prog F vs W (ib (ax [.r b]) W) := e ▸ h
theorem blu {F : Nat} {vs : Array Value} {W : World} {a b : Int} (e : a = b) (h : Calls Tryz.prog F vs W (ib (ax [.z a]) W)) : Calls Tryz.prog F vs W (ib (ax [.z b]) W) := e ▸ h
theorem bls {W : World} {x : Rat} {v : Value} (h : ax [.z x.num, .z (x.den : Int)] W v) : ax [.q x] W v := by
 obtain ⟨s1, n1, A1, c1, l1, s2, n2, A2, c2, l2, rfl, f1, f2⟩ := Nb h
 exact ⟨_, rfl, fo.q f1 f2 rfl⟩
theorem bbv {w w' : World} {q : Rat} {e : Ending} (h : ib (ax [.z q.num, .z (q.den : Int)]) w e w') : ib (ax [.q q]) w e w' := by
 obtain ⟨u, h1, h2, h3⟩ := h
 exact ⟨u, h1, h2, bls h3⟩
theorem kle {K m k : Nat} (h : K * m + 1 ≤ 1000000) (hk : k < m) : K ≤ K * m + 1 := by
 have : K * 1 ≤ K * m := Nat.mul_le_mul_left K om
 omega
theorem arh {x : Int} {K m : Nat} (sx : Wd.Sz dm K x) (hK : K * m + 1 ≤ 1000000) (hm : m ≤ 1000000) (w : World) (u0 : Value) (h0 : ax [.z x] w u0) :
  Calls Tryz.prog 139 #[u0, .int .i64 (m : Int)] w (ib (ax [.z (x ^ m)]) w) := by
 have HS := hide (And.intro sx (And.intro hK hm))
 clear sx hK hm
 obtain ⟨Ii, Ee, Cu, c0a, Cr, rfl, f0a⟩ := Zm h0
 go_enter Tryz.func139, Tryz.ntmps139
 go_upto_region 1 with fail
 have hO := (Own.push (T := 77) (ls := zZ) (Own.push (T := 77) (ls := [.z x]) (Own.nil w) (fo.z f0a rfl) (w.heap.size) rfl) (fo.below (by repeat (first | exact Below.refl _ _ | refine gy ?_ _)) (fo.vs w [.int .i64 0, .bool false, .slice none 0 0] rfl)) (w.heap.size + 1) (by simp only [World.size_alloc]))
 generalize (w.alloc (.cells #[.int .i64 Ii, .bool Ee, .slice Cu (List.length Cr) c0a] 77)).alloc (.cells #[.int .i64 0, .bool false, .slice none 0 0] 77) = W0 at *
 have HO := hide hO
 clear hO
 go_upto_region 1 with fail
 refine Rg.dh 2 15 (Rg.pick [ax [.z (x ^ 0)], nk 77 zZ W0.heap.size]) (ay w _ W0) eu [1] kr rfl (Rg.dw.pick ⟨az _, ny _ _ _, trivial⟩) (ay.begin (aa HO))
  (ah (sc1 Tryz.func137 (Rg.iy _) (fun W v0 hG h0 => by cases h0; exact blu (by rw [Int.pow_zero]) (bfu 1 om om W)))
  (ah (oq Nr rfl ay.step ay.size rfl (qp (by intro j hj; simp at hj; (repeat' (first | (rcases hj with rfl | hj))) <;> first | (subst hj; exact ⟨_, _, _, rfl⟩) | exact ⟨_, _, _, rfl⟩)))
  Rg.bf)) ?_
 intro v1 V1 hG1 hv1 hne1
 simp only [Rg.puts, Act.put, tA]
 obtain ⟨bnt, e1, Mr, hz1⟩ := (show nk 77 zZ W0.heap.size V1 (v1 1) from hv1 1 de)
 simp only [e1]
 have hO := hG1.1
 replace hO := Own.add (aa HO) hG1.2 Mr hz1
 clear Mr hz1
 refine jq hO 0 [] zZ [.z (x ^ 0)] [] rfl Ep rfl (show ax [.z (x ^ 0)] V1 (v1 0) from hv1 0 de) rfl rfl rfl ?_
 intro za gm hk0
 replace hO := gm
 clear gm
 clear HO
 have HO := hide hO
 clear hO hG1 hv1 hne1 hk0
 try clear e1
 go_upto_region 2 with fail
 refine Rg.dh 2 15 (Rg.pick [Rg.au (.int .i64 (m : Int)), Rg.au (.int .i64 0)]) (ay w _ za) eu [] kr rfl (Rg.dw.pick ⟨Rg.ae _, Rg.ae _, trivial⟩) (ay.begin (aa HO))
  (ah (di rfl aF)
  (ah (di rfl (Rg.iy _))
  Rg.bf)) ?_
 intro v2 V2 hG2 hv2 hne2
 simp only [Rg.puts, Act.put, tA]
 have e0 : v2 0 = .int .i64 (m : Int) := hv2 0 de
 have e1 : v2 1 = .int .i64 0 := hv2 1 de
 simp only [e0, e1]
 have hO := hG2.1
 clear HO
 have HO := hide hO
 clear hO hG2 hv2 hne2
 try clear e0 e1
 go_wp2_with fail
 go_loopw [8] (fun vk wr => ∃ k : Nat, k ≤ m ∧ vk = .int .i64 ((k : Nat) : Int) ∧ Hid (Own w [(bnt, 77, [.z (x ^ k)]), (w.heap.size + 1, 77, zZ), (w.heap.size, 77, [.z x])] wr)) (fun vk _ => m - (intOf vk).toNat)
 case atStart => exact ⟨0, by omega, rfl, HO⟩
 case round =>
  obtain ⟨k, hk, rfl, HO⟩ := hrel
  have HK := hide hk
  clear hk
  by_cases g1 : (k : Int) < (m : Int)
  ·
   have d1 : decide ((k : Int) < (m : Int)) = true := decide_eq_true g1
   have qb := hide (show k < m by omega)
   go_upto_region 3 with fail
   refine Rg.dh 1 15 (Rg.pick [Rg.au (.bool true)]) (ay w _ wr) eu [] kr rfl (Rg.dw.pick ⟨Rg.ae _, trivial⟩) (ay.begin (aa HO))
    (ah (rz rfl aF aF rfl d1)
    Rg.bf) ?_
   intro v3 V3 hG3 hv3 ma
   simp only [Rg.puts, Act.put, tA]
   have e0 : v3 0 = .bool true := hv3 0 de
   simp only [e0]
   have hO := hG3.1
   clear HO
   have HO := hide hO
   clear hO hG3 hv3 ma
   try clear e0
   clear d1 g1
   go_upto_region 4 with fail
   refine Rg.dh 3 15 (Rg.pick [ax [.z (x ^ k)], ax [.z x], ax [.z (x ^ (k + 1))]]) (ay w _ V3) eu [] kr rfl (Rg.dw.pick ⟨az _, az _, az _, trivial⟩) (ay.begin (aa HO))
    (ah (ic qh me0 aF [] [.z (x ^ k)] [])
    (ah (ic qh Bv aF [] [.z x] [])
    (ah (sc2 Tryz.func147 (aT 0) (aT 1) (fun W v0 v1 hG h0 h1 => bfw (Ka (Lv pz (aa HS).1 k |>.mono pz (Nat.succ_le_succ (Nat.mul_le_mul_left K (aa HK)))) ((aa HS).1.mono pz (kle (aa HS).2.1 (aa qb))) (by have := (aa HS).2.1; have := Jh; omega) (Int.pow_succ x k)) h0 h1))
    Rg.bf))) ?_
   intro v4 V4 hG4 hv4 sw
   simp only [Rg.puts, Act.put, tA]
   have hO := hG4.1
   refine jq hO 0 [] [.z (x ^ k)] [.z (x ^ (k + 1))] [] rfl Ep rfl (show ax [.z (x ^ (k + 1))] V4 (v4 2) from hv4 2 de) rfl rfl rfl ?_
   intro Dk gm hk0
   replace hO := gm
   clear gm
   clear HO
   have HO := hide hO
   clear hO hG4 hv4 sw hk0
   go_wp2_with fail
   go_roundw
   case rel =>
    exact ⟨k + 1, by have := aa qb; omega, Ld (aa qb) (aa HS).2.2, HO⟩
   case measure =>
    have h1 := aa qb
    have h2 := (aa HS).2.2
    clear HO
    rw [Jp h1 h2]
    exact measS h1
  ·
   have d1 : decide ((k : Int) < (m : Int)) = false := decide_eq_false g1
   obtain rfl : k = m := by have := aa HK; omega
   go_upto_region 3 with fail
   refine Rg.dh 1 15 (Rg.pick [Rg.au (.bool false)]) (ay w _ wr) eu [] kr rfl (Rg.dw.pick ⟨Rg.ae _, trivial⟩) (ay.begin (aa HO))
    (ah (rz rfl aF aF rfl d1)
    Rg.bf) ?_
   intro v3 V3 hG3 hv3 ma
   simp only [Rg.puts, Act.put, tA]
   have e0 : v3 0 = .bool false := hv3 0 de
   simp only [e0]
   have hO := hG3.1
   clear HO
   have HO := hide hO
   clear hO hG3 hv3 ma
   try clear e0
   clear d1 g1
   go_upto_region 6 with fail
   refine Rg.dh 1 15 (Rg.pick [ax [.z (x ^ k)]]) (ay w _ V3) eu [] kr rfl (Rg.dw.pick ⟨az _, trivial⟩) (ay.begin (aa HO))
    (ah (ic qh me0 aF [] [.z (x ^ k)] [])
    Rg.bf) ?_
   intro v4 V4 hG4 hv4 sw
   simp only [Rg.puts, Act.put, tA]
   have hO := hG4.1
   refine jq hO 1 [] zZ [.z (x ^ k)] [] rfl Ep rfl (show ax [.z (x ^ k)] V4 (v4 0) from hv4 0 de) rfl rfl rfl ?_
   intro Dk gm hk0
   replace hO := gm
   clear gm
   clear HO
   have HO := hide hO
   clear hO hG4 hv4 sw hk0
   go_wp2_with fail
   exact Cs Tryz.results139 bas rfl (aa HO) qg rfl rfl
theorem ape {p q : Int} {K m : Nat} (sp : Wd.Sz dm K p) (sq : Wd.Sz dm K q) (hK : K * m + 1 ≤ 1000000) (hm : m ≤ 1000000) (w : World) (u0 : Value) (h0 : ax [.z p, .z q] w u0) :
  Calls Tryz.prog 68 #[u0, .int .i64 (m : Int)] w (ib (ax [.z (p ^ m), .z (q ^ m)]) w) := by
 have HS := hide (And.intro sp (And.intro sq (And.intro hK hm)))
 clear sp sq hK hm
 obtain ⟨Ii, Ee, Cu, c0a, Cr, Jw, Kc, Gw, c0b, Gp, rfl, f0a, Gs⟩ := Nb h0
 go_enter Tryz.func68, Tryz.ntmps68
 go_upto_region 1 with fail
 have hO := (Own.push (T := 79) (ls := zQ) (Own.push (T := 79) (ls := [.z p, .z q]) (Own.nil w) (fo.z f0a (fo.z Gs rfl)) (w.heap.size) rfl) (fo.below (by repeat (first | exact Below.refl _ _ | refine gy ?_ _)) (fo.vs w [.int .i64 0, .bool false, .slice none 0 0, .int .i64 0, .bool false, .slice none 0 0] rfl)) (w.heap.size + 1) (by simp only [World.size_alloc]))
 generalize (w.alloc (.cells #[.int .i64 Ii, .bool Ee, .slice Cu (List.length Cr) c0a, .int .i64 Jw, .bool Kc, .slice Gw (List.length Gp) c0b] 79)).alloc (.cells #[.int .i64 0, .bool false, .slice none 0 0, .int .i64 0, .bool false, .slice none 0 0] 79) = W0 at *
 have HO := hide hO
 clear hO
 have d1 : decide ((m : Int) < 0) = false := decide_eq_false om
 go_upto_region 1 with fail
 refine Rg.dh 2 21 (Rg.pick [Rg.au (.int .i64 (m : Int)), Rg.au (.bool false)]) (ay w _ W0) eu [] kr rfl (Rg.dw.pick ⟨Rg.ae _, Rg.ae _, trivial⟩) (ay.begin (aa HO))
  (ah (di rfl aF)
  (ah (rz rfl (aT 0) (Rg.iy _) rfl d1)
  Rg.bf)) ?_
 intro v1 V1 hG1 hv1 hne1
 simp only [Rg.puts, Act.put, tA]
 have e1 : v1 1 = .bool false := hv1 1 de
 simp only [e1]
 have hO := hG1.1
 clear HO
 have HO := hide hO
 clear hO hG1 hv1 hne1
 try clear e1
 clear d1
 go_upto_region 3 with fail
 refine Rg.region 9 21 (Rg.pick [Rg.au (.pointer (some ⟨w.heap.size, 0, none⟩)), ax [.z p], Rg.au (.int .i64 (m : Int)), ax [.z (p ^ m)], Rg.au (.pointer (some ⟨w.heap.size, 3, none⟩)), ax [.z q], Rg.au (.int .i64 (m : Int)), ax [.z (q ^ m)], ax [.z (p ^ m), .z (q ^ m)]]) (ay w _ V1) eu [] kr kr rfl (Rg.dw.pick ⟨Rg.ae _, az _, Rg.ae _, az _, Rg.ae _, az _, Rg.ae _, az _, az _, trivial⟩) (ay.start (aa HO))
  (ah (Ff (b := w.heap.size) (off := 0) rfl aF rfl rfl)
  (ah (ic qh qg (aT 0) [] [.z p] [.z q])
  (ah (di rfl aF)
  (ah (sc2 Tryz.func139 (aT 1) (aT 2) (fun W v0 v1 hG h0 h1 => by cases h1; exact arh (aa HS).1 (aa HS).2.2.1 (aa HS).2.2.2 W _ h0))
  (ah (Bg (b := w.heap.size) (off := 0) rfl aF rfl rfl)
  (ah (ic qh qg (aT 4) [.z p] [.z q] [])
  (ah (di rfl aF)
  (ah (sc2 Tryz.func139 (aT 5) (aT 6) (fun W v0 v1 hG h0 h1 => by cases h1; exact arh (aa HS).2.1 (aa HS).2.2.1 (aa HS).2.2.2 W _ h0))
  (ah (Hf aar rfl (aT 3) (aT 7) rfl rfl rfl)
  Rg.bf))))))))) ?_
 intro v2 V2 hG2 hv2 hne2
 simp only [Rg.puts, Act.put, tA]
 have hO := hG2.1
 refine jq hO 0 [] zQ [.z (p ^ m), .z (q ^ m)] [] rfl Es rfl (show ax [.z (p ^ m), .z (q ^ m)] V2 (v2 8) from hv2 8 de) rfl rfl rfl ?_
 intro Et gm hk0
 replace hO := gm
 clear gm
 clear HO
 have HO := hide hO
 clear hO hG2 hv2 hne2 hk0
 go_wp2_with fail
 exact Cs Tryz.results68 Mc rfl (aa HO) me0 rfl rfl
theorem ayd {x a : Rat} {K m : Nat} (e : a = x ^ m) (sx : Sm K x) (hK : K * m + 1 ≤ 1000000) (hm : m ≤ 1000000) (w : World) (u0 : Value) (h0 : ax [.q x] w u0) :
  Calls Tryz.prog 68 #[u0, .int .i64 (m : Int)] w (ib (ax [.q a]) w) := by
 subst e
 refine (ape (m := m) sx.1.1 sx.1.2 hK hm w u0 (bmb h0)).mono fun e w' h => bbv ?_
 rw [(Je x m).1, (Je x m).2]
 exact h
theorem bmd {K m k : Nat} (h : K * m + 1 ≤ 1000000) (hk : k ≤ m) : K * k + 1 ≤ 1000000 := by
 have : K * k ≤ K * m := Nat.mul_le_mul_left K hk
 omega
theorem anz {x : Rat} {K m : Nat} (sx : uu K x) (hK : K * m + 1 ≤ 1000000) (hm : m ≤ 1000000) (w : World) (u0 : Value) (h0 : ax [.r x] w u0) :
  Calls Tryz.prog 71 #[u0, .int .i64 (m : Int)] w (ib (ax [.r (x ^ m)]) w) := by
 have HS := hide (And.intro sx (And.intro hK hm))
 clear sx hK hm
 obtain ⟨Cu, c0a, Cr, Ym, B0a, d0a, k0a, Ee, rfl, f0a⟩ := Rp h0
 go_enter Tryz.func71, Tryz.ntmps71
 go_upto_region 1 with fail
 have hO := (Own.push (T := 68) (ls := zX) (Own.push (T := 68) (ls := [.r x]) (Own.nil w) (fo.r f0a rfl) (w.heap.size) rfl) (fo.below (by repeat (first | exact Below.refl _ _ | refine gy ?_ _)) (fo.vs w [.slice none 0 0, .bool false, .slice none 0 0, .bool false] rfl)) (w.heap.size + 1) (by simp only [World.size_alloc]))
 generalize (w.alloc (.cells #[.slice Cu (List.length Cr) c0a, .bool Ym, .slice B0a (List.length k0a) d0a, .bool Ee] 68)).alloc (.cells #[.slice none 0 0, .bool false, .slice none 0 0, .bool false] 68) = W0 at *
 have HO := hide hO
 clear hO
 have d1 : decide ((m : Int) < 0) = false := decide_eq_false om
 go_upto_region 1 with fail
 refine Rg.dh 2 24 (Rg.pick [Rg.au (.int .i64 (m : Int)), Rg.au (.bool false)]) (ay w _ W0) eu [] kr rfl (Rg.dw.pick ⟨Rg.ae _, Rg.ae _, trivial⟩) (ay.begin (aa HO))
  (ah (di rfl aF)
  (ah (rz rfl (aT 0) (Rg.iy _) rfl d1)
  Rg.bf)) ?_
 intro v1 V1 hG1 hv1 hne1
 simp only [Rg.puts, Act.put, tA]
 have e1 : v1 1 = .bool false := hv1 1 de
 simp only [e1]
 have hO := hG1.1
 clear HO
 have HO := hide hO
 clear hO hG1 hv1 hne1
 try clear e1
 clear d1
 go_upto_region 3 with fail
 refine Rg.dh 2 24 (Rg.pick [ax [.r (x ^ 0)], nk 68 zX V1.heap.size]) (ay w _ V1) eu [1] kr rfl (Rg.dw.pick ⟨az _, ny _ _ _, trivial⟩) (ay.begin (aa HO))
  (ah (sc1 Tryz.func95 (Rg.iy _) (fun W v0 hG h0 => by cases h0; exact bdc (apd x).symm (awv 1 om om W)))
  (ah (oq axd rfl ay.step ay.size rfl (qp (by intro j hj; simp at hj; (repeat' (first | (rcases hj with rfl | hj))) <;> first | (subst hj; exact ⟨_, _, _, rfl⟩) | exact ⟨_, _, _, rfl⟩)))
  Rg.bf)) ?_
 intro v2 V2 hG2 hv2 hne2
 simp only [Rg.puts, Act.put, tA]
 obtain ⟨bnr, e1, Mr, hz1⟩ := (show nk 68 zX V1.heap.size V2 (v2 1) from hv2 1 de)
 simp only [e1]
 have hO := hG2.1
 replace hO := Own.add (aa HO) hG2.2 Mr hz1
 clear Mr hz1
 refine jq hO 0 [] zX [.r (x ^ 0)] [] rfl Er rfl (show ax [.r (x ^ 0)] V2 (v2 0) from hv2 0 de) rfl rfl rfl ?_
 intro Et gm hk0
 replace hO := gm
 clear gm
 clear HO
 have HO := hide hO
 clear hO hG2 hv2 hne2 hk0
 try clear e1
 go_upto_region 4 with fail
 refine Rg.dh 1 24 (Rg.pick [Rg.au (.int .i64 0)]) (ay w _ Et) eu [] kr rfl (Rg.dw.pick ⟨Rg.ae _, trivial⟩) (ay.begin (aa HO))
  (ah (jk rfl (Rg.iy _))
  Rg.bf) ?_
 intro v3 V3 hG3 hv3 ma
 simp only [Rg.puts, Act.put, tA]
 have e0 : v3 0 = .int .i64 0 := hv3 0 de
 simp only [e0]
 have hO := hG3.1
 clear HO
 have HO := hide hO
 clear hO hG3 hv3 ma
 try clear e0
 go_wp2_with fail
 go_loopw [6] (fun vk wr => ∃ k : Nat, k ≤ m ∧ vk = .int .i64 ((k : Nat) : Int) ∧ Hid (Own w [(bnr, 68, [.r (x ^ k)]), (w.heap.size + 1, 68, zX), (w.heap.size, 68, [.r x])] wr)) (fun vk _ => m - (intOf vk).toNat)
 case atStart => exact ⟨0, by omega, rfl, HO⟩
 case round =>
  obtain ⟨k, hk, rfl, HO⟩ := hrel
  have HK := hide hk
  clear hk
  by_cases g1 : (k : Int) < (m : Int)
  ·
   have d1 : decide ((k : Int) < (m : Int)) = true := decide_eq_true g1
   have qb := hide (show k < m by omega)
   go_upto_region 5 with fail
   refine Rg.dh 3 24 (Rg.pick [Rg.au (.int .i64 (k : Int)), Rg.au (.int .i64 (m : Int)), Rg.au (.bool true)]) (ay w _ wr) eu [] kr rfl (Rg.dw.pick ⟨Rg.ae _, Rg.ae _, Rg.ae _, trivial⟩) (ay.begin (aa HO))
    (ah (di rfl aF)
    (ah (di rfl aF)
    (ah (rz rfl (aT 0) (aT 1) rfl d1)
    Rg.bf))) ?_
   intro v4 V4 hG4 hv4 sw
   simp only [Rg.puts, Act.put, tA]
   have e2 : v4 2 = .bool true := hv4 2 de
   simp only [e2]
   have hO := hG4.1
   clear HO
   have HO := hide hO
   clear hO hG4 hv4 sw
   try clear e2
   clear d1 g1
   go_upto_region 7 with fail
   refine Rg.dh 3 24 (Rg.pick [ax [.r (x ^ k)], ax [.r x], ax [.r (x ^ (k + 1))]]) (ay w _ V4) eu [] kr rfl (Rg.dw.pick ⟨az _, az _, az _, trivial⟩) (ay.begin (aa HO))
    (ah (ic Ef me0 aF [] [.r (x ^ k)] [])
    (ah (ic Ef Bv aF [] [.r x] [])
    (ah (sc2 Tryz.func62 (aT 0) (aT 1) (fun W v0 v1 hG h0 h1 => bdc (apf x k).symm (ali (K := K * m + 1) (uu.mono (uu.pow (aa HS).1 k (bmd (aa HS).2.1 (aa HK))) (Nat.succ_le_succ (Nat.mul_le_mul_left K (aa HK))) (aa HS).2.1) (uu.mono (aa HS).1 (kle (aa HS).2.1 (aa qb)) (aa HS).2.1) h0 h1)))
    Rg.bf))) ?_
   intro v5 V5 uk hv5 hne5
   simp only [Rg.puts, Act.put, tA]
   have hO := uk.1
   refine jq hO 0 [] [.r (x ^ k)] [.r (x ^ (k + 1))] [] rfl Er rfl (show ax [.r (x ^ (k + 1))] V5 (v5 2) from hv5 2 de) rfl rfl rfl ?_
   intro Da gm hk0
   replace hO := gm
   clear gm
   clear HO
   have HO := hide hO
   clear hO uk hv5 hne5 hk0
   go_wp2_with fail
   go_roundw
   case rel =>
    exact ⟨k + 1, by have := aa qb; omega, Ld (aa qb) (aa HS).2.2, HO⟩
   case measure =>
    have h1 := aa qb
    have h2 := (aa HS).2.2
    clear HO
    rw [Jp h1 h2]
    exact measS h1
  ·
   have d1 : decide ((k : Int) < (m : Int)) = false := decide_eq_false g1
   obtain rfl : k = m := by have := aa HK; omega
   go_upto_region 5 with fail
   refine Rg.dh 3 24 (Rg.pick [Rg.au (.int .i64 (k : Int)), Rg.au (.int .i64 (k : Int)), Rg.au (.bool false)]) (ay w _ wr) eu [] kr rfl (Rg.dw.pick ⟨Rg.ae _, Rg.ae _, Rg.ae _, trivial⟩) (ay.begin (aa HO))
    (ah (di rfl aF)
    (ah (di rfl aF)
    (ah (rz rfl (aT 0) (aT 1) rfl d1)
    Rg.bf))) ?_
   intro v4 V4 hG4 hv4 sw
   simp only [Rg.puts, Act.put, tA]
   have e2 : v4 2 = .bool false := hv4 2 de
   simp only [e2]
   have hO := hG4.1
   clear HO
   have HO := hide hO
   clear hO hG4 hv4 sw
   try clear e2
   clear d1 g1
   go_upto_region 8 with fail
   refine Rg.dh 1 24 (Rg.pick [ax [.r (x ^ k)]]) (ay w _ V4) eu [] kr rfl (Rg.dw.pick ⟨az _, trivial⟩) (ay.begin (aa HO))
    (ah (ic Ef me0 aF [] [.r (x ^ k)] [])
    Rg.bf) ?_
   intro v5 V5 uk hv5 hne5
   simp only [Rg.puts, Act.put, tA]
   have hO := uk.1
   refine jq hO 1 [] zX [.r (x ^ k)] [] rfl Er rfl (show ax [.r (x ^ k)] V5 (v5 0) from hv5 0 de) rfl rfl rfl ?_
   intro Da gm hk0
   replace hO := gm
   clear gm
   clear HO
   have HO := hide hO
   clear hO uk hv5 hne5 hk0
   go_wp2_with fail
   exact Cs Tryz.results71 Ma rfl (aa HO) qg rfl rfl
theorem awu {x a : Rat} {K m : Nat} (e : a = x ^ m) (sx : uu K x) (hK : K * m + 1 ≤ 1000000) (hm : m ≤ 1000000) (w : World) (u0 : Value) (h0 : ax [.r x] w u0) : Calls Tryz.prog 71 #[u0, .int .i64 (m : Int)] w (ib (ax [.r a]) w) := e ▸ anz sx hK hm w u0 h0
end Sb


namespace Sb
theorem ata {ρ : Operand → Value} {w : World} {d : Option Tmp} {x : Operand} {m : Nat} {tb : TypeId} {ty : TypeId} {pos : String} {af : Array Edge} {gd : Option (Nat × Bool)} (hm : m ≤ 1000000) (h : ρ x = .int .i64 (-(m : Int))) :
  (execOp ρ { dst := d, op := .unOp .neg 3 x, type := ty, pos := pos, after := af, guard := gd }).run Tryz.prog w = .ok (.value (.int .i64 (m : Int))) w := by
 have hw : wrap64 (-(-(m : Int))) = (m : Int) := by rw [Int.neg_neg]; exact IntWalk.wrap64_in _ om
 rw [Int.neg_neg] at hw
 simp only [execOp, h]
 have hw2 : IntKind.i64.wrap (m : Int) = (m : Int) := IntWalk.i64_in _ om
 simp [go_sem, Tryz.underlying3, hw, hw2]
theorem aop {Q : Exit → Act → World → Prop} {l : List Oper} {n : Nat} {T : Nat → World → Value → Prop} {G : World → Prop} {al : List Nat} {a0 : Act} {k d : Nat} {ty : TypeId} {pos : String} {af : Array Edge} {gd : Option (Nat × Bool)} {x : Operand} {m : Nat} (hm : m ≤ 1000000) (hal : al.contains k = false) (hx : Rg.ig l n T a0 k x (Rg.au (.int .i64 (-(m : Int))))) (hT : T k = Rg.au (.int .i64 (m : Int))) :
  Rg.Step Tryz.prog Q l n T G eu al a0 k { dst := some d, op := .unOp .neg 3 x, type := ty, pos := pos, after := af, guard := gd } := by
 intro a w hG hO hN
 exact je (P := Tryz.prog) (ata (tb := 0) hm (hx a w hO hN)) ⟨_, rfl, hG, Below.refl _ _, by rw [hT]; rfl, fun h => by rw [hal] at h; cases h⟩
noncomputable def xk (x : Rat) (k : Int) : Rat := if k < 0 then x⁻¹ ^ (-k).toNat else x ^ k.toNat
theorem alr {x : Rat} (h : 0 < x) : x.num ≠ 0 := fun e => by
 have h2 : x = 0 := by rw [← Wd.ajg x, e]; exact Rat.zero_divInt _
 rw [h2] at h
 exact absurd h de
theorem Sm.xk {K : Nat} {x : Rat} (h : Sm K x) (h0 : x.num ≠ 0) {k : Int} {b : Nat} (hk : -(b : Int) ≤ k ∧ k ≤ b) (hm : K * b + 1 ≤ 1000000) : Sm (K * b + 1) (Sb.xk x k) := by
 have le : ∀ j : Nat, j ≤ b → K * j + 1 ≤ K * b + 1 := fun j hj => Nat.succ_le_succ (Nat.mul_le_mul_left K hj)
 unfold Sb.xk
 split
 ·
  exact ((h.inv h0).pow _ (Nat.le_trans (le _ om) hm)).mono (le _ om) hm
 ·
  exact (h.pow _ (Nat.le_trans (le _ om) hm)).mono (le _ om) hm
theorem uu.xk {K : Nat} {x : Rat} (h : uu K x) (h0 : x.num ≠ 0) {k : Int} {b : Nat} (hk : -(b : Int) ≤ k ∧ k ≤ b) (hm : K * b + 1 ≤ 1000000) : uu (K * b + 1) (Sb.xk x k) := by
 have le : ∀ j : Nat, j ≤ b → K * j + 1 ≤ K * b + 1 := fun j hj => Nat.succ_le_succ (Nat.mul_le_mul_left K hj)
 unfold Sb.xk
 split
 ·
  exact uu.mono ((h.inv h0).pow _ (Nat.le_trans (le _ om) hm)) (le _ om) hm
 ·
  exact uu.mono (h.pow _ (Nat.le_trans (le _ om) hm)) (le _ om) hm
theorem aip {x a : Rat} {K m : Nat} (sx : Sm K x) (Ub : x.num ≠ 0) (h1m : 0 < m) (hK : K * m + 1 ≤ 1000000) (hm : m ≤ 1000000) (e : a = x⁻¹ ^ m) (w : World) (u0 : Value) (h0 : ax [.q x] w u0) :
  Calls Tryz.prog 68 #[u0, .int .i64 (-(m : Int))] w (ib (ax [.q a]) w) := by
 have HS := hide (And.intro sx (And.intro Ub (And.intro h1m (And.intro hK (And.intro hm e)))))
 clear sx Ub h1m hK hm e
 obtain ⟨Ii, Ee, Cu, c0a, Cr, Jw, Kc, Gw, c0b, Gp, rfl, f0a, Gs⟩ := Ew h0
 go_enter Tryz.func68, Tryz.ntmps68
 go_upto_region 1 with fail
 have hO := (Own.push (T := 79) (ls := zQ) (Own.push (T := 79) (ls := [.q x]) (Own.nil w) (fo.q f0a Gs rfl) (w.heap.size) rfl) (fo.below (by repeat (first | exact Below.refl _ _ | refine gy ?_ _)) (fo.vs w [.int .i64 0, .bool false, .slice none 0 0, .int .i64 0, .bool false, .slice none 0 0] rfl)) (w.heap.size + 1) (by simp only [World.size_alloc]))
 generalize (w.alloc (.cells #[.int .i64 Ii, .bool Ee, .slice Cu (List.length Cr) c0a, .int .i64 Jw, .bool Kc, .slice Gw (List.length Gp) c0b] 79)).alloc (.cells #[.int .i64 0, .bool false, .slice none 0 0, .int .i64 0, .bool false, .slice none 0 0] 79) = W0 at *
 have HO := hide hO
 clear hO
 have d1 : decide (-(m : Int) < 0) = true := decide_eq_true (by have := (aa HS).2.2.1; omega)
 go_upto_region 1 with fail
 refine Rg.dh 2 21 (Rg.pick [Rg.au (.int .i64 (-(m : Int))), Rg.au (.bool true)]) (ay w _ W0) eu [] kr rfl (Rg.dw.pick ⟨Rg.ae _, Rg.ae _, trivial⟩) (ay.begin (aa HO))
  (ah (di rfl aF)
  (ah (rz rfl (aT 0) (Rg.iy _) rfl d1)
  Rg.bf)) ?_
 intro v1 V1 hG1 hv1 hne1
 simp only [Rg.puts, Act.put, tA]
 have e1 : v1 1 = .bool true := hv1 1 de
 simp only [e1]
 have hO := hG1.1
 clear HO
 have HO := hide hO
 clear hO hG1 hv1 hne1
 try clear e1
 clear d1
 go_upto_region 2 with fail
 refine Rg.dh 5 21 (Rg.pick [ax [.q x], ax [.q (x⁻¹)], Rg.au (.int .i64 (-(m : Int))), Rg.au (.int .i64 (m : Int)), ax [.q a]]) (ay w _ V1) eu [] kr rfl (Rg.dw.pick ⟨az _, az _, Rg.ae _, Rg.ae _, az _, trivial⟩) (ay.begin (aa HO))
  (ah (ic Eg qg aF [] [.q x] [])
  (ah (sc1 Tryz.func94 (aT 0) (fun W v0 hG h0 => bio (aa HS).2.1 h0))
  (ah (di rfl aF)
  (ah (aop (aa HS).2.2.2.2.1 rfl (aT 2) rfl)
  (ah (sc2 Tryz.func68 (aT 1) (aT 3) (fun W v0 v1 hG h0 h1 => by cases h1; exact ayd (aa HS).2.2.2.2.2 (Sm.inv (aa HS).1 (aa HS).2.1) (aa HS).2.2.2.1 (aa HS).2.2.2.2.1 W _ h0))
  Rg.bf))))) ?_
 intro v2 V2 hG2 hv2 hne2
 simp only [Rg.puts, Act.put, tA]
 have hO := hG2.1
 refine jq hO 0 [] zQ [.q a] [] rfl Es rfl (show ax [.q a] V2 (v2 4) from hv2 4 de) rfl rfl rfl ?_
 intro Et gm hk0
 replace hO := gm
 clear gm
 clear HO
 have HO := hide hO
 clear hO hG2 hv2 hne2 hk0
 go_wp2_with fail
 exact Cs Tryz.results68 Mc rfl (aa HO) me0 rfl rfl
theorem ahf {x : Rat} {K b : Nat} {k : Int} (sx : Sm K x) (Ub : x.num ≠ 0) (hk : -(b : Int) ≤ k ∧ k ≤ b) (hK : K * b + 1 ≤ 1000000) (hb : b ≤ 1000000) (w : World) (u0 : Value) (h0 : ax [.q x] w u0) :
  Calls Tryz.prog 68 #[u0, .int .i64 k] w (ib (ax [.q (xk x k)]) w) := by
 have le : ∀ j : Nat, j ≤ b → K * j + 1 ≤ 1000000 := fun j hj => Nat.le_trans (Nat.succ_le_succ (Nat.mul_le_mul_left K hj)) hK
 unfold xk
 split
 ·
  rename_i h
  have e : k = -(((-k).toNat : Nat) : Int) := by omega
  generalize (-k).toNat = m at *
  subst e
  exact aip sx Ub om (le _ om) om rfl w u0 h0
 ·
  rename_i h
  have e : k = ((k.toNat : Nat) : Int) := by omega
  generalize k.toNat = m at *
  subst e
  exact ayd rfl sx (le _ om) om w u0 h0
theorem aif {x a : Rat} {K m : Nat} (sx : uu (K + 1) x) (Ub : x.num ≠ 0) (h1m : 0 < m) (hK : (K + 1) * m + 1 ≤ 1000000) (hm : m ≤ 1000000) (e : a = x⁻¹ ^ m) (w : World) (u0 : Value) (h0 : ax [.r x] w u0) :
  Calls Tryz.prog 71 #[u0, .int .i64 (-(m : Int))] w (ib (ax [.r a]) w) := by
 have HS := hide (And.intro sx (And.intro Ub (And.intro h1m (And.intro hK (And.intro hm e)))))
 clear sx Ub h1m hK hm e
 obtain ⟨Cu, c0a, Cr, Ym, B0a, d0a, k0a, Ee, rfl, f0a⟩ := Rp h0
 go_enter Tryz.func71, Tryz.ntmps71
 go_upto_region 1 with fail
 have hO := (Own.push (T := 68) (ls := zX) (Own.push (T := 68) (ls := [.r x]) (Own.nil w) (fo.r f0a rfl) (w.heap.size) rfl) (fo.below (by repeat (first | exact Below.refl _ _ | refine gy ?_ _)) (fo.vs w [.slice none 0 0, .bool false, .slice none 0 0, .bool false] rfl)) (w.heap.size + 1) (by simp only [World.size_alloc]))
 generalize (w.alloc (.cells #[.slice Cu (List.length Cr) c0a, .bool Ym, .slice B0a (List.length k0a) d0a, .bool Ee] 68)).alloc (.cells #[.slice none 0 0, .bool false, .slice none 0 0, .bool false] 68) = W0 at *
 have HO := hide hO
 clear hO
 have d1 : decide (-(m : Int) < 0) = true := decide_eq_true (by have := (aa HS).2.2.1; omega)
 go_upto_region 1 with fail
 refine Rg.dh 2 24 (Rg.pick [Rg.au (.int .i64 (-(m : Int))), Rg.au (.bool true)]) (ay w _ W0) eu [] kr rfl (Rg.dw.pick ⟨Rg.ae _, Rg.ae _, trivial⟩) (ay.begin (aa HO))
  (ah (di rfl aF)
  (ah (rz rfl (aT 0) (Rg.iy _) rfl d1)
  Rg.bf)) ?_
 intro v1 V1 hG1 hv1 hne1
 simp only [Rg.puts, Act.put, tA]
 have e1 : v1 1 = .bool true := hv1 1 de
 simp only [e1]
 have hO := hG1.1
 clear HO
 have HO := hide hO
 clear hO hG1 hv1 hne1
 try clear e1
 clear d1
 go_upto_region 2 with fail
 refine Rg.dh 5 24 (Rg.pick [ax [.r x], ax [.r (x⁻¹)], Rg.au (.int .i64 (-(m : Int))), Rg.au (.int .i64 (m : Int)), ax [.r a]]) (ay w _ V1) eu [] kr rfl (Rg.dw.pick ⟨az _, az _, Rg.ae _, Rg.ae _, az _, trivial⟩) (ay.begin (aa HO))
  (ah (ic Ef qg aF [] [.r x] [])
  (ah (sc1 Tryz.func90 (aT 0) (fun W v0 hG h0 => alj (aa HS).1 (aa HS).2.1 h0))
  (ah (di rfl aF)
  (ah (aop (aa HS).2.2.2.2.1 rfl (aT 2) rfl)
  (ah (sc2 Tryz.func71 (aT 1) (aT 3) (fun W v0 v1 hG h0 h1 => by cases h1; exact awu (aa HS).2.2.2.2.2 (uu.inv (aa HS).1 (aa HS).2.1) (aa HS).2.2.2.1 (aa HS).2.2.2.2.1 W _ h0))
  Rg.bf))))) ?_
 intro v2 V2 hG2 hv2 hne2
 simp only [Rg.puts, Act.put, tA]
 have hO := hG2.1
 refine jq hO 0 [] zX [.r a] [] rfl Er rfl (show ax [.r a] V2 (v2 4) from hv2 4 de) rfl rfl rfl ?_
 intro Et gm hk0
 replace hO := gm
 clear gm
 clear HO
 have HO := hide hO
 clear hO hG2 hv2 hne2 hk0
 go_wp2_with fail
 exact Cs Tryz.results71 Ma rfl (aa HO) me0 rfl rfl
theorem bdb {x : Rat} {K b : Nat} {k : Int} (sx : uu (K + 1) x) (Ub : x.num ≠ 0) (hk : -(b : Int) ≤ k ∧ k ≤ b) (hK : (K + 1) * b + 1 ≤ 1000000) (hb : b ≤ 1000000) (w : World) (u0 : Value) (h0 : ax [.r x] w u0) :
  Calls Tryz.prog 71 #[u0, .int .i64 k] w (ib (ax [.r (xk x k)]) w) := by
 have le : ∀ j : Nat, j ≤ b → (K + 1) * j + 1 ≤ 1000000 := fun j hj => Nat.le_trans (Nat.succ_le_succ (Nat.mul_le_mul_left (K + 1) hj)) hK
 unfold xk
 split
 ·
  rename_i h
  have e : k = -(((-k).toNat : Nat) : Int) := by omega
  generalize (-k).toNat = m at *
  subst e
  exact aif sx Ub om (le _ om) om rfl w u0 h0
 ·
  rename_i h
  have e : k = ((k.toNat : Nat) : Int) := by omega
  generalize k.toNat = m at *
  subst e
  exact awu rfl sx (le _ om) om w u0 h0
end Sb

end Go.Proofs.YtfgeaakhlcaibaaGreatDoor
