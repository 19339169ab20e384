/- Texts beneath a law of layer 1. -/
import Derived.Test.YtfbcdfoohpkfeaaGreatDoorCq9
import Derived.BigQuiet
import Derived.Deep.DeepCutAuto
set_option maxRecDepth 100000
namespace Go.Proofs.YtfbcdfoohpkfeaaGreatDoor
open Go.RowKit

def OpC (w : World) (F : Nat) (x y : Rat) (o : Int) : Prop := ∀ (s1 : Int) (fu : Bool) (A1 : Option Addr) (c1 : Nat) (l1 : List Nat) (s2 : Int) (fw : Bool) (A2 : Option Addr) (c2 : Nat) (l2 : List Nat) (s3 : Int) (uq : Bool) (A3 : Option Addr) (c3 : Nat) (l3 : List Nat) (s4 : Int) (uk : Bool) (A4 : Option Addr) (c4 : Nat) (l4 : List Nat) (W : World), Below w.heap.size w W → ig W s1 fu A1 c1 l1 x.num → ig W s2 fw A2 c2 l2 (x.den : Int) → ig W s3 uq A3 c3 l3 y.num → ig W s4 uk A4 c4 l4 (y.den : Int) → Calls Tryz.prog F #[(Value.agg #[.int .i64 s1, .bool fu, .slice A1 l1.length c1, .int .i64 s2, .bool fw, .slice A2 l2.length c2]), (Value.agg #[.int .i64 s3, .bool uq, .slice A3 l3.length c3, .int .i64 s4, .bool uk, .slice A4 l4.length c4])] W fun e w' => e = .returned (.int .i64 o) ∧ Below W.heap.size W w'
set_option maxHeartbeats 16000000 in
theorem aof (s1 : Int) (fu : Bool) (A1 : Option Addr) (c1 : Nat) (l1 : List Nat) (s2 : Int) (fw : Bool) (A2 : Option Addr) (c2 : Nat) (l2 : List Nat) (s3 : Int) (uq : Bool) (A3 : Option Addr) (c3 : Nat) (l3 : List Nat) (s4 : Int) (uk : Bool) (A4 : Option Addr) (c4 : Nat) (l4 : List Nat) (z1 z2 z3 z4 m1 m2 : Int) (w : World) (f1 : ig w s1 fu A1 c1 l1 z1) (f2 : ig w s2 fw A2 c2 l2 z2) (f3 : ig w s3 uq A3 c3 l3 z3) (f4 : ig w s4 uk A4 c4 l4 z4) (g1 : Ec w 135 z1 z4 m1) (g2 : Ec w 135 z3 z2 m2) :
  Calls Tryz.prog 69 #[(Value.agg #[.int .i64 s1, .bool fu, .slice A1 l1.length c1, .int .i64 s2, .bool fw, .slice A2 l2.length c2]), (Value.agg #[.int .i64 s3, .bool uq, .slice A3 l3.length c3, .int .i64 s4, .bool uk, .slice A4 l4.length c4])] w fun e w' => e = .returned (.int .i64 (ja (m1 - m2))) ∧ Below w.heap.size w w' := by
 have H1 := hide f1
 have H2 := hide f2
 have H3 := hide f3
 have H4 := hide f4
 have Fa := hide g1
 have HG2 := hide g2
 obtain ⟨o, ho⟩ : ∃ o, o = ja (m1 - m2) := ⟨_, rfl⟩
 have HCM := hide (fun (s5 : Int) (yf : Bool) (A5 : Option Addr) (c5 : Nat) (l5 : List Nat) (s6 : Int) (Bw : Bool) (A6 : Option Addr) (c6 : Nat) (l6 : List Nat) (W : World) (f5 : ig W s5 yf A5 c5 l5 m1) (f6 : ig W s6 Bw A6 c6 l6 m2) => (show Calls Tryz.prog 136 #[(Value.agg #[.int .i64 s5, .bool yf, .slice A5 l5.length c5]), (Value.agg #[.int .i64 s6, .bool Bw, .slice A6 l6.length c6])] W fun e w' => e = .returned (.int .i64 o) ∧ Below W.heap.size W w' by rw [ho]; exact afi s5 yf A5 c5 l5 m1 s6 Bw A6 c6 l6 m2 W f5 f6))
 rw [← ho]
 clear f1 f2 f3 f4 g1 g2 ho
 go_enter Tryz.func69, Tryz.ntmps69
 go_wp2_with fail
 obtain ⟨n0_, Md, hsz, hw0⟩ := xk w (.cells #[.int .i64 s1, .bool fu, .slice A1 l1.length c1, .int .i64 s2, .bool fw, .slice A2 l2.length c2] 74) (.cells #[.int .i64 s3, .bool uq, .slice A3 l3.length c3, .int .i64 s4, .bool uk, .slice A4 l4.length c4] 74)
 generalize ((w.alloc (.cells #[.int .i64 s1, .bool fu, .slice A1 l1.length c1, .int .i64 s2, .bool fw, .slice A2 l2.length c2] 74)).alloc (.cells #[.int .i64 s3, .bool uq, .slice A3 l3.length c3, .int .i64 s4, .bool uk, .slice A4 l4.length c4] 74)) = W0 at *
 have oz : W0.cell? ⟨w.heap.size, 0, none⟩ = some (.int .i64 s1) := ae n0_ 0
 have ou : W0.cell? ⟨w.heap.size, 1, none⟩ = some (.bool fu) := ae n0_ 1
 have qh : W0.cell? ⟨w.heap.size, 2, none⟩ = some (.slice A1 l1.length c1) := ae n0_ 2
 have qz : W0.cell? ⟨w.heap.size, 3, none⟩ = some (.int .i64 s2) := ae n0_ 3
 have zf : W0.cell? ⟨w.heap.size, 4, none⟩ = some (.bool fw) := ae n0_ 4
 have ze : W0.cell? ⟨w.heap.size, 5, none⟩ = some (.slice A2 l2.length c2) := ae n0_ 5
 have qb : W0.cell? ⟨w.heap.size + 1, 0, none⟩ = some (.int .i64 s3) := ae Md 0
 have qa : W0.cell? ⟨w.heap.size + 1, 1, none⟩ = some (.bool uq) := ae Md 1
 have rz : W0.cell? ⟨w.heap.size + 1, 2, none⟩ = some (.slice A3 l3.length c3) := ae Md 2
 have uj : W0.cell? ⟨w.heap.size + 1, 3, none⟩ = some (.int .i64 s4) := ae Md 3
 have Bp : W0.cell? ⟨w.heap.size + 1, 4, none⟩ = some (.bool uk) := ae Md 4
 have Bo : W0.cell? ⟨w.heap.size + 1, 5, none⟩ = some (.slice A4 l4.length c4) := ae Md 5
 have q0 : w.heap.size < W0.heap.size := by omega
 have q1 : w.heap.size + 1 < W0.heap.size := by omega
 clear n0_ Md hsz
 replace H1 := hide ((aa H1).below hw0)
 replace H2 := hide ((aa H2).below hw0)
 replace H3 := hide ((aa H3).below hw0)
 replace H4 := hide ((aa H4).below hw0)
 have KEEP := hide (show ∀ X, Below W0.heap.size W0 X → X.cell? ⟨w.heap.size, 0, none⟩ = some (.int .i64 s1) ∧ X.cell? ⟨w.heap.size, 1, none⟩ = some (.bool fu) ∧ X.cell? ⟨w.heap.size, 2, none⟩ = some (.slice A1 l1.length c1) ∧ X.cell? ⟨w.heap.size, 3, none⟩ = some (.int .i64 s2) ∧ X.cell? ⟨w.heap.size, 4, none⟩ = some (.bool fw) ∧ X.cell? ⟨w.heap.size, 5, none⟩ = some (.slice A2 l2.length c2) ∧ X.cell? ⟨w.heap.size + 1, 0, none⟩ = some (.int .i64 s3) ∧ X.cell? ⟨w.heap.size + 1, 1, none⟩ = some (.bool uq) ∧ X.cell? ⟨w.heap.size + 1, 2, none⟩ = some (.slice A3 l3.length c3) ∧ X.cell? ⟨w.heap.size + 1, 3, none⟩ = some (.int .i64 s4) ∧ X.cell? ⟨w.heap.size + 1, 4, none⟩ = some (.bool uk) ∧ X.cell? ⟨w.heap.size + 1, 5, none⟩ = some (.slice A4 l4.length c4) from fun X hX => ⟨au hX q0 oz, au hX q0 ou, au hX q0 qh, au hX q0 qz, au hX q0 zf, au hX q0 ze, au hX q1 qb, au hX q1 qa, au hX q1 rz, au hX q1 uj, au hX q1 Bp, au hX q1 Bo⟩)
 go_region_held3 (fun w' => w'.cell? ⟨w.heap.size, 0, none⟩ = some (.int .i64 s1) ∧ w'.cell? ⟨w.heap.size, 1, none⟩ = some (.bool fu) ∧ w'.cell? ⟨w.heap.size, 2, none⟩ = some (.slice A1 l1.length c1) ∧ w'.cell? ⟨w.heap.size, 3, none⟩ = some (.int .i64 s2) ∧ w'.cell? ⟨w.heap.size, 4, none⟩ = some (.bool fw) ∧ w'.cell? ⟨w.heap.size, 5, none⟩ = some (.slice A2 l2.length c2) ∧ w'.cell? ⟨w.heap.size + 1, 0, none⟩ = some (.int .i64 s3) ∧ w'.cell? ⟨w.heap.size + 1, 1, none⟩ = some (.bool uq) ∧ w'.cell? ⟨w.heap.size + 1, 2, none⟩ = some (.slice A3 l3.length c3) ∧ w'.cell? ⟨w.heap.size + 1, 3, none⟩ = some (.int .i64 s4) ∧ w'.cell? ⟨w.heap.size + 1, 4, none⟩ = some (.bool uk) ∧ w'.cell? ⟨w.heap.size + 1, 5, none⟩ = some (.slice A4 l4.length c4)) (exact (aa KEEP) _ bel) (first | (go_at_call_of 135 (Value.agg #[.int .i64 s1, .bool fu, .slice A1 l1.length c1]); refine ((aa Fa) s1 fu A1 c1 l1 s4 uk A4 c4 l4 _ (ek hw0 bel) (ig.below (aa H1) bel) (ig.below (aa H4) bel)).mono ?_; rintro e w' ⟨s5, yf, A5, c5, l5, rfl, tq, hb5⟩; have hbw := fo (w := W0) bel hb5; have hsw := hbw.size; obtain ⟨hc, hfz⟩ := gp hbw) | (go_at_call_of 135 (Value.agg #[.int .i64 s3, .bool uq, .slice A3 l3.length c3]); refine ((aa HG2) s3 uq A3 c3 l3 s2 fw A2 c2 l2 _ (ek hw0 bel) (ig.below (aa H3) bel) (ig.below (aa H2) bel)).mono ?_; rintro e w' ⟨s6, Bw, A6, c6, l6, rfl, xm, hb6⟩; have tq := ig.below (ig.below tq bel) hb6; have hbw := fo (w := W0) bel hb6; have hsw := hbw.size; obtain ⟨hc, hfz⟩ := gp hbw) | (go_at_call_of 136 (Value.agg #[.int .i64 s5, .bool yf, .slice A5 l5.length c5]); refine ((aa HCM) s5 yf A5 c5 l5 s6 Bw A6 c6 l6 _ (ig.below tq bel) (ig.below xm bel)).mono ?_; rintro e w' ⟨rfl, Eg⟩; have hbw := fo (w := W0) bel Eg; have hsw := hbw.size; obtain ⟨hc, hfz⟩ := gp hbw))
 all_goals
  have ky : Below w.heap.size w w' := ek hw0 hbw
  go_wp2_with fail
  exact bodyPost_ret (v := .int .i64 o) (by simp [results, Tryz.results69, go_sem]) rfl ⟨rfl, ky⟩
theorem aiq (w : World) {K : Nat} (x y : Rat) (hx : Dc K x) (hy : Dc K y) (hK : K ≤ lim) : OpC w 69 x y (ja (x.num * y.den - y.num * x.den)) :=
 fun s1 fu A1 c1 l1 s2 fw A2 c2 l2 s3 uq A3 c3 l3 s4 uk A4 c4 l4 W hW f1 f2 f3 f4 => aof s1 fu A1 c1 l1 s2 fw A2 c2 l2 s3 uq A3 c3 l3 s4 uk A4 c4 l4 x.num (x.den : Int) y.num (y.den : Int) _ _ W f1 f2 f3 f4 (Mc hx.1 hy.2 hK rfl) (Mc hy.1 hx.2 hK rfl)

end Go.Proofs.YtfbcdfoohpkfeaaGreatDoor
namespace Go.Proofs.YtfbcdfoohpkfeaaGreatDoor
open Go.RowKit

theorem aew {n d : Int} (h : Wd.wm n d) : Dc 1 (Wd.qR n d) := by
 obtain ⟨e1, e2⟩ := Wd.Ni h
 obtain ⟨h1, h2, h3, h4, _⟩ := h
 have B : (1000000000000 : Nat) < gy := by rw [jg]; omega
 exact ⟨by rw [e1]; exact Wd.Sz.of_le om wu (Nat.le_refl _), by rw [e2]; exact Wd.Sz.of_le om wu (Nat.le_refl _)⟩
end Go.Proofs.YtfbcdfoohpkfeaaGreatDoor
namespace Go.Proofs.YtfbcdfoohpkfeaaGreatDoor
open Go.RowKit

theorem Js {W : World} {b : Nat} {a0 a1 u0 u1 : Value} {T : TypeId} (h : W.heap[b]? = some (.cells #[a0, a1] T (0, 0))) : ((W.setCell ⟨b, 0, none⟩ u0).setCell ⟨b, 1, none⟩ u1).heap[b]? = some (.cells #[u0, u1] T (0, 0)) := by
 simp [World.setCell, Array.getElem?_modify, h]
structure NbW (w wr : World) (b0 b1 l0 l1 : Int) : Prop where
 below : Below w.heap.size w wr
 x : wr.heap[w.heap.size]? = some (.cells #[.int .i64 22, .int .i64 7] 23 (0, 0))
 lo : wr.heap[w.heap.size + 1]? = some (.cells #[.int .i64 0, .int .i64 0] 23 (0, 0))
 hi : wr.heap[w.heap.size + 2]? = some (.cells #[.int .i64 0, .int .i64 0] 23 (0, 0))
 bef : wr.heap[w.heap.size + 3]? = some (.cells #[.int .i64 b0, .int .i64 b1] 23 (0, 0))
 last : wr.heap[w.heap.size + 4]? = some (.cells #[.int .i64 l0, .int .i64 l1] 23 (0, 0))
theorem NbW.step {w wr w' : World} {b0 b1 l0 l1 : Int} (h : NbW w wr b0 b1 l0 l1) (hb : Below wr.heap.size wr w') : NbW w w' b0 b1 l0 l1 :=
 ⟨ek h.below hb, (hb.block _ (lt_of_block h.x)).trans h.x, (hb.block _ (lt_of_block h.lo)).trans h.lo, (hb.block _ (lt_of_block h.hi)).trans h.hi, (hb.block _ (lt_of_block h.bef)).trans h.bef, (hb.block _ (lt_of_block h.last)).trans h.last⟩
theorem NbW.set {w wr : World} {b0 b1 l0 l1 : Int} (h : NbW w wr b0 b1 l0 l1) (u0 u1 v0 v1 : Int) :
  NbW w ((((wr.setCell ⟨w.heap.size + 3, 0, none⟩ (.int .i64 u0)).setCell ⟨w.heap.size + 3, 1, none⟩ (.int .i64 u1)).setCell ⟨w.heap.size + 4, 0, none⟩ (.int .i64 v0)).setCell ⟨w.heap.size + 4, 1, none⟩ (.int .i64 v1)) u0 u1 v0 v1 := by
 have g1 := oh wr (w.heap.size + 3) (.int .i64 u0) (.int .i64 u1)
 have g2 := oh ((wr.setCell ⟨w.heap.size + 3, 0, none⟩ (.int .i64 u0)).setCell ⟨w.heap.size + 3, 1, none⟩ (.int .i64 u1)) (w.heap.size + 4) (.int .i64 v0) (.int .i64 v1)
 have s1 := g1.size
 have old : ∀ k, k < w.heap.size + 3 → ((((wr.setCell ⟨w.heap.size + 3, 0, none⟩ (.int .i64 u0)).setCell ⟨w.heap.size + 3, 1, none⟩ (.int .i64 u1)).setCell ⟨w.heap.size + 4, 0, none⟩ (.int .i64 v0)).setCell ⟨w.heap.size + 4, 1, none⟩ (.int .i64 v1)).heap[k]? = wr.heap[k]? := fun k hk => by
  have hl := lt_of_block h.last
  exact (g2.block k om (fun e => by injection e with e; omega)).trans (g1.block k om (fun e => by injection e with e; omega))
 have hl := lt_of_block h.last
 have e1 := Js (u0 := .int .i64 u0) (u1 := .int .i64 u1) h.bef
 refine ⟨(h.below.grown g1 h.below.size (fun k hk => by injection hk with hk; omega)).grown g2 (by have := h.below.size; omega) (fun k hk => by injection hk with hk; omega), (old _ om).trans h.x, (old _ om).trans h.lo, (old _ om).trans h.hi, ?_, ?_⟩
 ·
  exact (g2.block _ (lt_of_block e1) (fun e => by injection e with e; omega)).trans e1
 ·
  exact Js ((g1.block _ hl (fun e => by injection e with e; omega)).trans h.last)
end Go.Proofs.YtfbcdfoohpkfeaaGreatDoor
namespace Go.Proofs.YtfbcdfoohpkfeaaGreatDoor
open Go.RowKit

def zw (w : World) (b : Nat) (z : Int) : Prop := ∃ A cap l m, w.heap[b]? = some (.cells #[.slice A (List.length l) cap, .bool m] 61 (0, 0)) ∧ jc w A cap l m z
theorem zw.below {w w' : World} {b : Nat} {z : Int} (h : zw w b z) (hb : Below w.heap.size w w') : zw w' b z := by
 obtain ⟨A, cap, l, m, h1, h2⟩ := h
 exact ⟨A, cap, l, m, (hb.block _ (lt_of_block h1)).trans h1, h2.below hb⟩
theorem zw.lt {w : World} {b : Nat} {z : Int} (h : zw w b z) : b < w.heap.size := by
 obtain ⟨A, cap, l, m, h1, _⟩ := h; exact lt_of_block h1
theorem zw.put {w : World} {b : Nat} {z0 z : Int} {A : Option Addr} {cap : Nat} {l : List Nat} {m : Bool} (h : zw w b z0) (hf : jc w A cap l m z) :
  zw ((w.setCell ⟨b, 0, none⟩ (.slice A l.length cap)).setCell ⟨b, 1, none⟩ (.bool m)) b z := by
 obtain ⟨A0, c0, l0, m0, h1, _⟩ := h
 exact ⟨A, cap, l, m, Js h1, hf.upto h1 (Di _ _ _ _) (oh _ _ _ _)⟩
theorem zw.other {w : World} {b b' : Nat} {z z' : Int} (u0 u1 : Value) (h : zw w b z) (hb : zw w b' z') (hne : b ≠ b') : zw ((w.setCell ⟨b', 0, none⟩ u0).setCell ⟨b', 1, none⟩ u1) b z := by
 obtain ⟨A, cap, l, m, h1, h2⟩ := h
 obtain ⟨A0, c0, l0, m0, h3, _⟩ := hb
 have hg := oh w b' u0 u1
 exact ⟨A, cap, l, m, (hg.block b (lt_of_block h1) (fun e => hne (by injection e))).trans h1, h2.upto h3 (Di _ _ _ _) hg⟩
theorem jc.put {w : World} {b : Nat} {z z' : Int} {A : Option Addr} {cap : Nat} {l : List Nat} {m : Bool} (u0 u1 : Value) (hf : jc w A cap l m z) (hb : zw w b z') : jc ((w.setCell ⟨b, 0, none⟩ u0).setCell ⟨b, 1, none⟩ u1) A cap l m z := by
 obtain ⟨A0, c0, l0, m0, h1, _⟩ := hb
 exact hf.upto h1 (Di _ _ _ _) (oh _ _ _ _)

structure Vi (w W : World) (n d : Int) : Prop where
 bn : zw W w.heap.size n
 bd : zw W (w.heap.size + 1) d
 bq : W.heap[w.heap.size + 1 + 1]? = some (.cells #[.slice none 0 0, .bool false, .slice none 0 0, .bool false] 63 (0, 0))
 hb : Below w.heap.size w W
theorem Vi.below {w W W' : World} {n d : Int} (h : Vi w W n d) (hb : Below W.heap.size W W') : Vi w W' n d :=
 ⟨h.bn.below hb, h.bd.below hb, (hb.block _ (lt_of_block h.bq)).trans h.bq, ek h.hb hb⟩
theorem Vi.put {w W : World} {n d n' d' : Int} {A1 : Option Addr} {c1 : Nat} {l1 : List Nat} {m1 : Bool} {A2 : Option Addr} {c2 : Nat} {l2 : List Nat} {m2 : Bool} (h : Vi w W n d) (h1 : jc W A1 c1 l1 m1 n') (h2 : jc W A2 c2 l2 m2 d') :
  Vi w ((((W.setCell ⟨w.heap.size, 0, none⟩ (.slice A1 l1.length c1)).setCell ⟨w.heap.size, 1, none⟩ (.bool m1)).setCell ⟨w.heap.size + 1, 0, none⟩ (.slice A2 l2.length c2)).setCell ⟨w.heap.size + 1, 1, none⟩ (.bool m2)) n' d' := by
 have a1 := h.bn.put h1
 have a2 := h.bd.other (.slice A1 l1.length c1) (.bool m1) h.bn om
 have a3 := h2.put (.slice A1 l1.length c1) (.bool m1) h.bn
 have g1 := oh W w.heap.size (.slice A1 l1.length c1) (.bool m1)
 generalize ((W.setCell ⟨w.heap.size, 0, none⟩ (.slice A1 l1.length c1)).setCell ⟨w.heap.size, 1, none⟩ (.bool m1)) = W1 at *
 have b1 := a2.put a3
 have b2 := a1.other (.slice A2 l2.length c2) (.bool m2) a2 om
 have g2 := oh W1 (w.heap.size + 1) (.slice A2 l2.length c2) (.bool m2)
 have q1 := (g1.block _ (lt_of_block h.bq) (fun e => by injection e with e; omega)).trans h.bq
 exact ⟨b2, b1, (g2.block _ (lt_of_block q1) (fun e => by injection e with e; omega)).trans q1,
  (h.hb.grown g1 h.hb.size (fun k hk => by injection hk with hk; omega)).grown g2 (by have := g1.size; have := h.hb.size; omega) (fun k hk => by injection hk with hk; omega)⟩

theorem Vi.keep {w W : World} {n d : Int} (u0 u1 u2 u3 : Value) {A : Option Addr} {cap : Nat} {l : List Nat} {m : Bool} {z : Int} (h : Vi w W n d) (x : jc W A cap l m z) :
  jc ((((W.setCell ⟨w.heap.size, 0, none⟩ u0).setCell ⟨w.heap.size, 1, none⟩ u1).setCell ⟨w.heap.size + 1, 0, none⟩ u2).setCell ⟨w.heap.size + 1, 1, none⟩ u3) A cap l m z :=
 (x.put u0 u1 h.bn).put u2 u3 (h.bd.other u0 u1 h.bn om)

def QR (w : World) (q : Rat) (e : Ending) (w' : World) : Prop := ∃ A1 c1 l1 m1 A2 c2 l2 m2, e = .returned (.agg #[.slice A1 (List.length l1) c1, .bool m1, .slice A2 (List.length l2) c2, .bool m2]) ∧ jc w' A1 c1 l1 m1 q.num ∧ jc w' A2 c2 l2 m2 (q.den : Int) ∧ Below w.heap.size w w'

theorem amc (n d : Int) (hd : 0 < d) : (Rat.divInt n d).num = (if decide (n < 0) = true then -((n.natAbs / (n.natAbs.gcd d.natAbs) : Nat) : Int) else ((n.natAbs / (n.natAbs.gcd d.natAbs) : Nat) : Int)) ∧ ((Rat.divInt n d).den : Int) = ((d.natAbs / (n.natAbs.gcd d.natAbs) : Nat) : Int) := by
 obtain ⟨h1, h2⟩ := Wd.Vg n d om
 rw [Int.sign_eq_one_of_pos hd, Int.one_mul] at h1 h2
 rw [h1, h2]
 generalize n.natAbs.gcd d.natAbs = g
 constructor
 ·
  by_cases hn : n < 0
  ·
   rw [if_pos (decide_eq_true hn)]
   obtain ⟨k, hk⟩ : ∃ k : Nat, n = -(k : Int) := ⟨n.natAbs, by omega⟩
   subst hk
   rw [Int.neg_tdiv, Int.natAbs_neg, Int.natAbs_natCast, Int.ofNat_tdiv]
  ·
   rw [if_neg (by simpa using hn)]
   obtain ⟨k, hk⟩ : ∃ k : Nat, n = (k : Int) := ⟨n.natAbs, by omega⟩
   subst hk
   rw [Int.natAbs_natCast, Int.ofNat_tdiv]
 ·
  obtain ⟨k, hk⟩ : ∃ k : Nat, d = (k : Int) := ⟨d.natAbs, by omega⟩
  subst hk
  rw [Int.natAbs_natCast, Int.ofNat_tdiv]
theorem ado (n d : Int) (hd : d ≠ 0) : Rat.divInt (-n) (-d) = Rat.divInt n d := by
 rw [Rat.divInt_eq_divInt_iff om hd, Int.neg_mul, Int.mul_neg]
end Go.Proofs.YtfbcdfoohpkfeaaGreatDoor
namespace Go.Proofs.YtfbcdfoohpkfeaaGreatDoor
open Go.RowKit

structure QV (w : World) (A1 : Option Addr) (c1 : Nat) (l1 : List Nat) (m1 : Bool) (A2 : Option Addr) (c2 : Nat) (l2 : List Nat) (m2 : Bool) (q : Rat) : Prop where
 num : jc w A1 c1 l1 m1 q.num
 den : ∃ d : Int, jc w A2 c2 l2 m2 d ∧ (d = (q.den : Int) ∨ (d = 0 ∧ q.den = 1))
theorem QV.below {w w' : World} {A1 : Option Addr} {c1 : Nat} {l1 : List Nat} {m1 : Bool} {A2 : Option Addr} {c2 : Nat} {l2 : List Nat} {m2 : Bool} {q : Rat} (h : QV w A1 c1 l1 m1 A2 c2 l2 m2 q) (hb : Below w.heap.size w w') : QV w' A1 c1 l1 m1 A2 c2 l2 m2 q := by
 obtain ⟨d, h2, h3⟩ := h.den
 exact ⟨h.num.below hb, d, h2.below hb, h3⟩
theorem QV.of {w : World} {A1 : Option Addr} {c1 : Nat} {l1 : List Nat} {m1 : Bool} {A2 : Option Addr} {c2 : Nat} {l2 : List Nat} {m2 : Bool} {q : Rat} (h1 : jc w A1 c1 l1 m1 q.num) (h2 : jc w A2 c2 l2 m2 (q.den : Int)) : QV w A1 c1 l1 m1 A2 c2 l2 m2 q :=
 ⟨h1, _, h2, .inl rfl⟩
theorem jc.len {w : World} {A : Option Addr} {cap : Nat} {l : List Nat} {m : Bool} {z : Int} {K : Nat} (h : jc w A cap l m z) (hz : z.natAbs < ic ^ K) : l.length ≤ K := h.nat.len hz

set_option maxHeartbeats 1000000 in
theorem aef (w : World) :
  Calls Tryz.prog 129 #[] w fun e w' => Al w 1 e w' := by
 go_enter Tryz.func129, Tryz.ntmps129
 go_wp2_with fail
 obtain ⟨n0, n1, hsz, hw0⟩ := xk w (.cells #[.slice (some ⟨w.heap.size + 1, 0, none⟩) 1 1, .bool false] 61) (.cells #[.int .u32 1] 156)
 generalize ((w.alloc (.cells #[.slice (some ⟨w.heap.size + 1, 0, none⟩) 1 1, .bool false] 61)).alloc (.cells #[.int .u32 1] 156)) = W0 at *
 have hz : ZB .u32 W0 (w.heap.size + 1) 156 [1] := n1
 have hn : vg W0 (some ⟨w.heap.size + 1, 0, none⟩) 1 [1] 1 := ⟨hz.Ff _ hz.lt, by simp, by omega, by intro x hx; rw [List.mem_singleton] at hx; subst hx; exact Cf, .inr (by simp), by simp [Wd.val]⟩
 have k0 : W0.cell? ⟨w.heap.size, 0, none⟩ = some (.slice (some ⟨w.heap.size + 1, 0, none⟩) 1 1) := ae n0 0
 have k1 : W0.cell? ⟨w.heap.size, 1, none⟩ = some (.bool false) := ae n0 1
 exact bodyPost_ret (v := .agg #[.slice (some ⟨w.heap.size + 1, 0, none⟩) 1 1, .bool false]) (by simp [results, Tryz.results129, go_sem, k0, k1]) rfl
  ⟨_, 1, [1], false, rfl, ⟨hn, rfl⟩, hw0⟩

set_option maxHeartbeats 1000000 in
theorem aeh (A1 : Option Addr) (c1 : Nat) (l1 : List Nat) (m1 : Bool) (A2 : Option Addr) (c2 : Nat) (l2 : List Nat) (m2 : Bool) (w : World) (h2 : jc w A2 c2 l2 m2 0) :
  Calls Tryz.prog 117 #[.agg #[.slice A1 l1.length c1, .bool m1, .slice A2 l2.length c2, .bool m2]] w fun e w' => Al w 1 e w' := by
 have hl : l2.length = 0 := h2.nat.Ha.1 rfl
 have HI := hide (fun W => Wx A2 c2 l2.length m2 W)
 rw [decide_eq_true hl] at HI
 have HO := hide aef
 clear h2 hl
 go_enter Tryz.func117, Tryz.ntmps117
 go_wp2_with fail
 obtain ⟨n0, n1, hsz, hw0⟩ := xk w (.cells #[.slice A1 l1.length c1, .bool m1, .slice A2 l2.length c2, .bool m2] 63) (.cells #[.slice none 0 0, .bool false] 61)
 generalize ((w.alloc (.cells #[.slice A1 l1.length c1, .bool m1, .slice A2 l2.length c2, .bool m2] 63)).alloc (.cells #[.slice none 0 0, .bool false] 61)) = W0 at *
 have q1 : w.heap.size + 1 < W0.heap.size := by omega
 have r0 : W0.cell? ⟨w.heap.size + 1, 0, none⟩ = some (.slice none 0 0) := ae n1 0
 have r1 : W0.cell? ⟨w.heap.size + 1, 1, none⟩ = some (.bool false) := ae n1 1
 have f0 := bz n1 0
 have f1 := bz n1 1
 have NR := Lib.hid n1
 clear n0 n1 hsz
 refine ((aa HI) _).mono ?_
 rintro e W1 ⟨rfl, hb⟩
 have HB := hide hb
 clear hb
 go_wp2_with fail
 refine ((aa HO) _).mono ?_
 rintro e w' ⟨A5, c5, l5, m5, rfl, tq, hb2⟩
 have hb := ek (aa HB) hb2
 obtain ⟨hc, hfz⟩ := gp hb
 have hblk : w'.heap[w.heap.size + 1]? = some (.cells #[.slice none 0 0, .bool false] 61 (0, 0)) := (hb.block _ q1).trans NR.out
 have mo := Lib.hid hblk
 have ky : Below w.heap.size w w' := ek hw0 hb
 clear hblk hb2
 go_wp2_with fail
 exact bodyPost_ret (v := .agg #[.slice A5 l5.length c5, .bool m5]) (by simp [results, Tryz.results117, go_sem, hc, r0, r1, q1]) rfl
  ⟨A5, c5, l5, m5, rfl, tq.upto mo.out (Di _ _ _ _) (oh _ _ _ _), ky.grown (oh _ _ _ _) ky.size (fun k hk => by injection hk with hk; omega)⟩

theorem Jg (A1 : Option Addr) (c1 : Nat) (l1 : List Nat) (m1 : Bool) (A2 : Option Addr) (c2 : Nat) (l2 : List Nat) (m2 : Bool) (q : Rat) (w : World) (h : QV w A1 c1 l1 m1 A2 c2 l2 m2 q) :
  Calls Tryz.prog 117 #[.agg #[.slice A1 l1.length c1, .bool m1, .slice A2 l2.length c2, .bool m2]] w fun e w' => Al w (q.den : Int) e w' := by
 obtain ⟨d, h2, rfl | ⟨rfl, h1⟩⟩ := h.den
 ·
  refine (asz A1 c1 l1 m1 A2 c2 l2 m2 _ w h2 (by have := q.den_nz; omega)).mono ?_
  rintro e w' ⟨rfl, hb⟩
  exact ⟨A2, c2, l2, m2, rfl, h2.below hb, hb⟩
 ·
  rw [h1]
  exact aeh A1 c1 l1 m1 A2 c2 l2 m2 w h2
end Go.Proofs.YtfbcdfoohpkfeaaGreatDoor
namespace Go.Proofs.YtfbcdfoohpkfeaaGreatDoor
open Go.RowKit

namespace Wd
structure Hz (B : Nat) (xl yl l : List Nat) (i c : Nat) : Prop where
 len : l.length = i
 lt : ∀ x ∈ l, x < B
 c1 : c ≤ 1
 eq : Wd.val B l + B ^ i * c = Wd.val B (xl.take i) + Wd.val B (yl.take i)
theorem Hz.start (B : Nat) (xl yl : List Nat) : Hz B xl yl [] 0 0 := ⟨rfl, by simp, by omega, by simp [val]⟩
theorem Xh {B : Nat} {l : List Nat} {d : Nat} (h : ∀ x ∈ l, x < B) (hd : d < B) : ∀ x ∈ l ++ [d], x < B := by
 intro t ht
 rw [List.mem_append] at ht
 rcases ht with h1 | h1
 ·
  exact h t h1
 ·
  rw [List.mem_singleton] at h1; subst h1; exact hd
theorem Hz.step {B : Nat} {xl yl l : List Nat} {i c x y s : Nat} (hB : 1 < B) (h : Hz B xl yl l i c) (hx : x = xl.getD i 0) (Aj : x < B) (hy : y = yl.getD i 0) (Dw : y < B) (hs : s = c + x + y) :
  Hz B xl yl (l ++ [s % B]) (i + 1) (s / B) := by
 have hc := h.c1
 refine ⟨by simp [h.len], Xh h.lt (Nat.mod_lt _ om), ?_, ?_⟩
 ·
  exact Nat.lt_succ_iff.1 ((Nat.div_lt_iff_lt_mul om).2 om)
 ·
  rw [Bz, h.len, Nat.pow_succ, qo, qo, ← hx, ← hy]
  have e := Nat.mod_add_div s B
  have h1 := h.eq
  have e2 : B ^ i * (s % B) + B ^ i * B * (s / B) = B ^ i * c + B ^ i * x + B ^ i * y := by
   rw [Nat.mul_assoc, ← Nat.mul_add, e, hs, Nat.mul_add, Nat.mul_add]
  omega
theorem Hz.done {B : Nat} {xl yl l : List Nat} {i c : Nat} (h : Hz B xl yl l i c) (hx : xl.length ≤ i) (hy : yl.length ≤ i) : Wd.val B (l ++ [c]) = Wd.val B xl + Wd.val B yl := by
 have h1 := h.eq
 rw [lu _ _ _ hx, lu _ _ _ hy] at h1
 rw [Bz, h.len, h1]
structure Li (B : Nat) (xl yl l : List Nat) (i b : Nat) : Prop where
 len : l.length = i
 lt : ∀ x ∈ l, x < B
 b1 : b ≤ 1
 eq : Wd.val B l + Wd.val B (yl.take i) = Wd.val B (xl.take i) + B ^ i * b
theorem Li.start (B : Nat) (xl yl : List Nat) : Li B xl yl [] 0 0 := ⟨rfl, by simp, by omega, by simp [val]⟩
theorem Li.step {B : Nat} {xl yl l : List Nat} {i b x y d b' : Nat} (h : Li B xl yl l i b) (hx : x = xl.getD i 0) (hy : y = yl.getD i 0) (hd : d < B) (hb : b' ≤ 1) (hs : d + y + b = x + B * b') :
  Li B xl yl (l ++ [d]) (i + 1) b' := by
 refine ⟨by simp [h.len], Xh h.lt hd, hb, ?_⟩
 rw [Bz, h.len, Nat.pow_succ, qo, qo, ← hx, ← hy]
 have h1 := h.eq
 have e2 : B ^ i * d + B ^ i * y + B ^ i * b = B ^ i * x + B ^ i * B * b' := by
  rw [← Nat.mul_add, ← Nat.mul_add, hs, Nat.mul_add, Nat.mul_assoc]
 omega
theorem Li.done {B : Nat} {xl yl l : List Nat} {i b : Nat} (h : Li B xl yl l i b) (hx : xl.length = i) (hy : yl.length ≤ i) (hle : Wd.val B yl ≤ Wd.val B xl) : Wd.val B l = Wd.val B xl - Wd.val B yl := by
 have h1 := h.eq
 rw [lu B xl i om, lu B yl i hy] at h1
 have h2 := Cn l h.lt
 rw [h.len] at h2
 have hb := h.b1
 rcases (show b = 0 ∨ b = 1 by omega) with rfl | rfl
 ·
  omega
 ·
  rw [Nat.mul_one] at h1; omega
end Wd

theorem bau {w : World} {base g cap B : Nat} {T : TypeId} {l : List Nat} {n : Nat} (hn : n = l.length) (h : w.ownsRow base T 1 (.slice (some ⟨g, 0, none⟩) n cap) n (Ap .u32 l)) (hB : g < B) :
  Ws .u32 w B (some ⟨g, 0, none⟩) l ∧ l.length ≤ cap ∧ cap ≤ maxLen := by
 subst hn
 obtain ⟨_, ⟨h1, _⟩ | ⟨g', cap', cur, he, hb, hh, hn, hc, hs, ht⟩⟩ := h
 ·
  injection h1 with h2; cases h2
 ·
  injection he with e1 _ e2
  injection e1 with e1; injection e1 with e1
  subst e1 e2
  refine ⟨fun hl => ⟨g, 0, rfl, hB, fun j hj => ?_⟩, hn, hc⟩
  have hj2 : (cur.toList.take (l.length * 1))[j]? = some (.int .u32 ((Wd.g l j : Nat) : Int)) := by
   rw [ht]
   simp [Ap, Wd.g, List.getD, hj]
  rw [List.getElem?_take] at hj2
  simp only [World.cell?, hh, Option.isSome_none, Bool.false_eq_true, if_false]
  rw [if_pos om] at hj2
  simpa using hj2
theorem aoo {w : World} {base g cap : Nat} {T : TypeId} {l : List Value} {n : Nat} (h : w.ownsRow base T 1 (.slice (some ⟨g, 0, none⟩) n cap) n l) : g < w.heap.size := by
 obtain ⟨_, ⟨h1, _⟩ | ⟨g', cap', cur, he, hb, hh, hn, hc, hs, ht⟩⟩ := h
 ·
  injection h1 with h2; cases h2
 ·
  injection he with e1 _ e2
  injection e1 with e1; injection e1 with e1
  subst e1
  exact lt_of_block hh
theorem aot (n : Nat) (h : n ≤ 35184372088832) (w : World) : (Instr.makeSlice 59 (.int .i64 0) (.int .i64 (n : Int))).run Tryz.prog w =
  .ok (.slice (some ⟨w.heap.size, 0, none⟩) 0 n) (w.alloc (.cells (zh .u32 (List.replicate n 0)) 156)) := by
 obtain ⟨i0, hi, hz0, hz1, hz2⟩ := info_parts afh
 have hr := run_make (P := Tryz.prog) w 59 156 i0 (.int .u32 0) Tryz.underlying59 hi hz0 .i64 .i64 0 n om om (by rw [hz2]; omega) om
 simp only [Int.toNat_natCast, Int.toNat_zero] at hr
 rw [hr, hz1, Jw]
theorem atw (w : World) (n : Nat) (h : n ≤ 35184372088832) (T : TypeId) : (w.alloc (.cells (zh .u32 (List.replicate n 0)) T)).ownsRow w.heap.size T 1 (.slice (some ⟨w.heap.size, 0, none⟩) 0 n) 0 (Ap .u32 []) :=
 ⟨by simp [Ap], .inr ⟨w.heap.size, n, _, rfl, Nat.le_refl _, heap_alloc_new w _, Nat.zero_le _, by unfold maxLen; omega, by simp [zh], by simp [Ap]⟩⟩
theorem atv {w : World} {base g n C d : Nat} {T : TypeId} {l : List Nat} (h : w.ownsRow base T 1 (.slice (some ⟨g, 0, none⟩) n C) n (Ap .u32 l ++ [.int .u32 (d : Int)])) : w.ownsRow base T 1 (.slice (some ⟨g, 0, none⟩) n C) n (Ap .u32 (l ++ [d])) := by
 simpa [Ap] using h
theorem vg.ald {w : World} {A : Option Addr} {cap : Nat} {zs : List Nat} {k : Nat} (hz : Ws .u32 w w.heap.size A zs) (hlt : ∀ x ∈ zs, x < ic) (ht : Wd.Hq zs (zs.take k)) (hk : k ≤ zs.length) (hc : zs.length ≤ cap) (hc2 : cap ≤ 9223372036854775807) :
  vg w A cap (zs.take k) (Wd.val ic zs) :=
 ⟨hz.Pj k, by simp; omega, hc2, fun x hx => hlt x (List.mem_of_mem_take hx), ht.norm, ht.val _⟩
theorem one_cell (w : World) (v : Value) (T : TypeId) : ∀ j u, [v][j]? = some u → (w.alloc (.cells #[v] T)).cell? ((⟨w.heap.size, 0, none⟩ : Addr).add j) = some u := by
 intro j u hj
 match j, hj with
 | 0, hj => simp at hj; subst hj; simp [Addr.add]
 | j + 1, hj => simp at hj
theorem Vx (d : Nat) : ∀ u ∈ [Value.int .u32 (d : Int)], u.oneCell' = true := by
 intro u hu
 rw [List.mem_singleton] at hu; subst hu; rfl
theorem Iu {w X w1 : World} {n C d : Nat} {l : List Nat} {W0 : Nat} (hW : W0 = w.heap.size) (hb : Below W0 w X) (hlt : W0 ≤ X.heap.size)
  (hown1 : w1.ownsRow W0 156 1 (.slice (some ⟨W0, 0, none⟩) n C) n (Ap .u32 l ++ [.int .u32 ((d : Nat) : Int)])) (hgrow1 : X.grownBy w1 (some W0)) :
  w1.ownsRow W0 156 1 (.slice (some ⟨W0, 0, none⟩) n C) n (Ap .u32 (l ++ [d])) ∧ Below W0 w w1 :=
 ⟨atv hown1, hb.grown hgrow1 hlt (fun k hk => by injection hk with hk; omega)⟩
end Go.Proofs.YtfbcdfoohpkfeaaGreatDoor
namespace Go.Proofs.YtfbcdfoohpkfeaaGreatDoor
open Go.RowKit

set_option maxHeartbeats 2000000 in
theorem ane (Ax Ay : Option Addr) (cx cy : Nat) (xl yl : List Nat) (n m : Nat) (w : World) (hx : vg w Ax cx xl n) (hy : vg w Ay cy yl m) (hk : xl.length + 1 ≤ 35184372088832) (hk2 : yl.length + 1 ≤ 35184372088832) :
  Calls Tryz.prog 161 #[.slice Ax xl.length cx, .slice Ay yl.length cy] w fun e w' => awg w (n + m) e w' := by
 obtain ⟨M, hM⟩ : ∃ M, M = max xl.length yl.length := ⟨_, rfl⟩
 have hMx : xl.length ≤ M := by omega
 have hMy : yl.length ≤ M := by omega
 have hMd : M = xl.length ∨ M = yl.length := by omega
 have hM2 : M + 1 ≤ 35184372088832 := by omega
 have e0 : max (xl.length : Int) (yl.length : Int) = (M : Int) := by omega
 have hmk := aot (M + 1) hM2
 have axi := atw w (M + 1) hM2 156
 obtain ⟨C, hC⟩ : ∃ C, C = M + 1 := ⟨_, rfl⟩
 have Uy : (w.alloc (.cells (zh .u32 (List.replicate (M + 1) 0)) 156)).ownsRow w.heap.size 156 1 (.slice (some ⟨w.heap.size, 0, none⟩) 0 C) 0 (Ap .u32 []) := by rw [hC]; exact axi
 have hmk' : ∀ W : World, (Instr.makeSlice 59 (.int .i64 0) (.int .i64 ((M : Int) + 1))).run Tryz.prog W = .ok (.slice (some ⟨W.heap.size, 0, none⟩) 0 C) (W.alloc (.cells (zh .u32 (List.replicate (M + 1) 0)) 156)) := by
  intro W; rw [hC]; have := hmk W; simp only [Int.natCast_add, Int.cast_ofNat_Int] at this; exact this
 have HC := Lib.hid hC
 clear hmk axi hC
 obtain ⟨i0, hi0, hz0, hz1, hz2⟩ := info_parts afh
 have hx1 := hx.wh; have hx2 := hx.cap2; have hy1 := hy.wh; have hy2 := hy.cap2
 clear hM
 go_enter Tryz.func161, Tryz.ntmps161
 go_wp2_with fail
 go_loopw [5, 6, 7] (fun ov cv iv wr => ∃ (i c : Nat) (l : List Nat), i ≤ M ∧ ov = .slice (some ⟨w.heap.size, 0, none⟩) i C ∧ cv = .int .u64 ((c : Nat) : Int) ∧ iv = .int .i64 ((i : Nat) : Int) ∧ Hid (Wd.Hz ic xl yl l i c) ∧ wr.ownsRow w.heap.size 156 1 (.slice (some ⟨w.heap.size, 0, none⟩) i C) i (Ap .u32 l) ∧ Below w.heap.size w wr) (fun _ _ iv _ => M - (intOf iv).toNat)
 case atStart => exact ⟨0, 0, [], Nat.zero_le _, rfl, rfl, rfl, Wd.Hz.start _ _ _, Uy, (Below.refl _ _).alloc (Nat.le_refl _) _⟩
 case round =>
  obtain ⟨i, c, l, hi, rfl, rfl, rfl, HI, hown, hg⟩ := hrel
  have hCi : i + 1 ≤ C := by have := HC.out; omega
  have hcB := HI.out.c1
  have alz : c < gy := by rw [jg]; omega
  have b64 : ∀ t : Nat, t < ic → t < gy := fun t ht => by rw [iw] at ht; rw [jg]; omega
  have hli := HI.out.len
  have hgl := aoo hown
  obtain ⟨x, Il⟩ : ∃ x, x = Wd.g xl i := ⟨_, rfl⟩
  obtain ⟨y, Uv⟩ : ∃ y, y = Wd.g yl i := ⟨_, rfl⟩
  have Aj : x < ic := by rw [Il]; exact Wd.getD_lt (by rw [iw]; omega) _ hx.lt i
  have Dw : y < ic := by rw [Uv]; exact Wd.getD_lt (by rw [iw]; omega) _ hy.lt i
  obtain ⟨s1, hs1⟩ : ∃ t, t = c + x := ⟨_, rfl⟩
  obtain ⟨s, hs⟩ : ∃ t, t = s1 + y := ⟨_, rfl⟩
  obtain ⟨d, hd⟩ : ∃ t, t = s % ic := ⟨_, rfl⟩
  obtain ⟨q, hq⟩ : ∃ t, t = s / ic := ⟨_, rfl⟩
  have hsB : s < gy := by rw [iw] at Aj Dw; rw [jg]; omega
  have afp : s1 < gy := by rw [iw] at Aj Dw; rw [jg]; omega
  have e1 : IntKind.u64.wrap (x : Int) = (x : Int) := kz rfl (b64 _ Aj)
  have e2 : IntKind.u64.wrap (y : Int) = (y : Int) := kz rfl (b64 _ Dw)
  have e3 : IntKind.u64.wrap ((c : Int) + (x : Int)) = (s1 : Int) := kz (by rw [hs1]; simp) afp
  have e4 : IntKind.u64.wrap ((s1 : Int) + (y : Int)) = (s : Int) := kz (by rw [hs]; simp) hsB
  have e5 : IntKind.u32.wrap (s : Int) = (d : Int) := by rw [Ct, hd]
  have e5' : (s : Int) % 4294967296 = (d : Int) := by rw [hd, iw]; omega
  have e6 : (s : Int) / 4294967296 = (q : Int) := by rw [hq, iw]; omega
  have hst := HI.out.step Cf (by rw [← Wd.vk]; exact Il) Aj (by rw [← Wd.vk]; exact Uv) Dw (s := s) om
  rw [← hd, ← hq] at hst
  have HST := hide hst
  have Rn : i < xl.length → ∃ b o, Ax = some ⟨b, o, none⟩ ∧ wr.cell? ⟨b, o + i, none⟩ = some (.int .u32 (x : Int)) := fun h => by
   obtain ⟨b, o, rfl, hbb, hc⟩ := hx.ws om
   exact ⟨b, o, rfl, by rw [Il]; exact (hg.cell (p := ⟨b, o + i, none⟩) hbb).trans (hc i h)⟩
  have Rm : i < yl.length → ∃ b o, Ay = some ⟨b, o, none⟩ ∧ wr.cell? ⟨b, o + i, none⟩ = some (.int .u32 (y : Int)) := fun h => by
   obtain ⟨b, o, rfl, hbb, hc⟩ := hy.ws om
   exact ⟨b, o, rfl, by rw [Uv]; exact (hg.cell (p := ⟨b, o + i, none⟩) hbb).trans (hc i h)⟩
  have hx0 : ¬ i < xl.length → x = 0 := fun h => by rw [Il]; simp [Wd.g, List.getD, h]
  have hy0 : ¬ i < yl.length → y = 0 := fun h => by rw [Uv]; simp [Wd.g, List.getD, h]
  have hsz := hg.size
  by_cases hlx : i < xl.length
  ·
   by_cases hly : i < yl.length
   ·
    have dx : decide ((i : Int) < (xl.length : Int)) = true := decide_eq_true om
    have dy : decide ((i : Int) < (yl.length : Int)) = true := decide_eq_true om
    have dx' : decide (i < xl.length) = true := decide_eq_true om
    have dy' : decide (i < yl.length) = true := decide_eq_true om
    obtain ⟨bx, ox, rfl, Fs⟩ := Rn om
    obtain ⟨by', oy, rfl, Qb⟩ := Rm om
    clear Rn Rm hx0 hy0 Il Uv hs1 hs hd hq hst Aj Dw hsB afp alz b64 Uy hmk' hz0 hz2
    go_wp2_with (first | (at_builtin; refine wpList_append_fits _ rfl _ _ 59 rfl w.heap.size 156 i0 1 Tryz.underlying59 hi0 hz1 w.heap.size _ C (Ap .u32 l) rfl (hown.alloc _) ⟨_, 0, none⟩ 1 1 [.int .u32 ((d : Nat) : Int)] rfl rfl (one_cell _ _ _) (Vx _) om ?_; intro w1 hown1 hgrow1) | fail)
    obtain ⟨r1, r2⟩ := Iu rfl (hg.alloc hsz _) (by simp <;> omega) hown1 hgrow1
    clear hown1 hgrow1 hown hg
    go_wp2_with fail
    go_roundw
    case rel => exact ⟨i + 1, q, l ++ [d], by omega, rfl, rfl, by go_num, aa HST, r1, r2⟩
    case measure => simp [intOf] <;> omega
   ·
    have dx : decide ((i : Int) < (xl.length : Int)) = true := decide_eq_true om
    have dy : decide ((i : Int) < (yl.length : Int)) = false := decide_eq_false om
    have dx' : decide (i < xl.length) = true := decide_eq_true om
    have dy' : decide (i < yl.length) = false := decide_eq_false om
    obtain ⟨bx, ox, rfl, Fs⟩ := Rn om
    obtain rfl : s = s1 := by have := hy0 om; omega
    clear Rn Rm hx0 hy0 Il Uv hs1 hs hd hq hst Aj Dw hsB afp alz b64 Uy hmk' hz0 hz2
    go_wp2_with (first | (at_builtin; refine wpList_append_fits _ rfl _ _ 59 rfl w.heap.size 156 i0 1 Tryz.underlying59 hi0 hz1 w.heap.size _ C (Ap .u32 l) rfl (hown.alloc _) ⟨_, 0, none⟩ 1 1 [.int .u32 ((d : Nat) : Int)] rfl rfl (one_cell _ _ _) (Vx _) om ?_; intro w1 hown1 hgrow1) | fail)
    obtain ⟨r1, r2⟩ := Iu rfl (hg.alloc hsz _) (by simp <;> omega) hown1 hgrow1
    clear hown1 hgrow1 hown hg
    go_wp2_with fail
    go_roundw
    case rel => exact ⟨i + 1, q, l ++ [d], by omega, rfl, rfl, by go_num, aa HST, r1, r2⟩
    case measure => simp [intOf] <;> omega
  ·
   by_cases hly : i < yl.length
   ·
    have dx : decide ((i : Int) < (xl.length : Int)) = false := decide_eq_false om
    have dy : decide ((i : Int) < (yl.length : Int)) = true := decide_eq_true om
    have dx' : decide (i < xl.length) = false := decide_eq_false om
    have dy' : decide (i < yl.length) = true := decide_eq_true om
    obtain ⟨by', oy, rfl, Qb⟩ := Rm om
    obtain rfl : s1 = c := by have := hx0 om; omega
    clear Rn Rm hx0 hy0 Il Uv hs1 hs hd hq hst Aj Dw hsB afp alz b64 Uy hmk' hz0 hz2
    go_wp2_with (first | (at_builtin; refine wpList_append_fits _ rfl _ _ 59 rfl w.heap.size 156 i0 1 Tryz.underlying59 hi0 hz1 w.heap.size _ C (Ap .u32 l) rfl (hown.alloc _) ⟨_, 0, none⟩ 1 1 [.int .u32 ((d : Nat) : Int)] rfl rfl (one_cell _ _ _) (Vx _) om ?_; intro w1 hown1 hgrow1) | fail)
    obtain ⟨r1, r2⟩ := Iu rfl (hg.alloc hsz _) (by simp <;> omega) hown1 hgrow1
    clear hown1 hgrow1 hown hg
    go_wp2_with fail
    go_roundw
    case rel => exact ⟨i + 1, q, l ++ [d], by omega, rfl, rfl, by go_num, aa HST, r1, r2⟩
    case measure => simp [intOf] <;> omega
   ·
    have dx : decide ((i : Int) < (xl.length : Int)) = false := decide_eq_false om
    have dy : decide ((i : Int) < (yl.length : Int)) = false := decide_eq_false om
    have dx' : decide (i < xl.length) = false := decide_eq_false om
    have dy' : decide (i < yl.length) = false := decide_eq_false om
    have hv := HI.out.done om om
    rw [hx.val, hy.val] at hv
    have hcc : IntKind.u32.wrap (c : Int) = (c : Int) := by rw [IntKind.wrap_u32]; omega
    have buo : (c : Int) % 4294967296 = (c : Int) := by omega
    have hlt := Wd.Xh HI.out.lt (show c < ic by rw [iw]; omega)
    have HV := Lib.hid hv; have zu := hide hlt
    clear hv hlt Rn Rm hx0 hy0 Il Uv hs1 hs hd hq hst Aj Dw hsB afp alz b64 Uy hmk' hz0 hz2 e1 e2 e3 e4 e5 e5' e6 HST
    go_wp2_with (first | (at_builtin; refine wpList_append_fits _ rfl _ _ 59 rfl w.heap.size 156 i0 1 Tryz.underlying59 hi0 hz1 w.heap.size _ C (Ap .u32 l) rfl (hown.alloc _) ⟨_, 0, none⟩ 1 1 [.int .u32 ((c : Nat) : Int)] rfl rfl (one_cell _ _ _) (Vx _) om ?_; intro w1 hown1 hgrow1) | fail)
    obtain ⟨r1, r2⟩ := Iu rfl (hg.alloc hsz _) (by simp <;> omega) hown1 hgrow1
    have hlen : i + 1 = (l ++ [c]).length := by simp; omega
    obtain ⟨hws, hcap, hmax⟩ := bau hlen r1 (aoo r1)
    have htr := Dp (some ⟨w.heap.size, 0, none⟩) C (l ++ [c]) w1.heap.size w1 hws hcap (by have := HC.out; omega)
    rw [← hlen] at htr
    have HTR := hide htr; have HWS := hide hws
    clear hown1 hgrow1 hown hg r1 htr hws hcap hmax
    go_wp2_with fail
    refine (aa HTR).mono ?_
    rintro e w' ⟨⟨k, rfl, ht, hk2⟩, rfl⟩
    dsimp only
    go_wp2_with fail
    go_ret
    have hk3 : k = ((l ++ [c]).take k).length := by rw [List.length_take]; omega
    refine ⟨some ⟨w.heap.size, 0, none⟩, C, (l ++ [c]).take k, Hg hk3, ?_, r2⟩
    have := vg.ald (cap := C) (aa HWS) (aa zu) ht om om (by have := HC.out; omega)
    rwa [HV.out] at this

end Go.Proofs.YtfbcdfoohpkfeaaGreatDoor
namespace Go.Proofs.YtfbcdfoohpkfeaaGreatDoor
open Go.RowKit

end Go.Proofs.YtfbcdfoohpkfeaaGreatDoor
namespace Go.Proofs.YtfbcdfoohpkfeaaGreatDoor
open Go.RowKit

end Go.Proofs.YtfbcdfoohpkfeaaGreatDoor
namespace Go.Proofs.YtfbcdfoohpkfeaaGreatDoor
open Go.RowKit

structure jm (Wp W : World) (b : Nat) : Prop where
 old : Wp.heap.size ≤ b
 zero : W.heap[b]? = some (.cells #[.slice none 0 0, .bool false] 61 (0, 0))
theorem jm.lt {Wp W : World} {b : Nat} (h : jm Wp W b) : b < W.heap.size := lt_of_block h.zero
theorem jm.drew {Wp W : World} {b : Nat} (h : jm Wp W b) : jm Wp W.drew b := ⟨h.old, h.zero⟩
theorem jm.below {Wp W w' : World} {b : Nat} (h : jm Wp W b) (hb : Below W.heap.size W w') : jm Wp w' b := ⟨h.old, (hb.block _ h.lt).trans h.zero⟩
theorem jm.new {Wp W : World} {b : Nat} (hb : Below Wp.heap.size Wp W) (e : b = W.heap.size) : jm Wp (W.alloc (.cells #[.slice none 0 0, .bool false] 61 (0, 0))) b := by
 subst e; exact ⟨hb.size, heap_alloc_new W _⟩
theorem jm.alloc {Wp W : World} {b : Nat} {o : Obj} (h : jm Wp W b) : jm Wp (W.alloc o) b := ⟨h.old, (Below.heap_alloc W _ b h.lt).trans h.zero⟩
structure Pb (Wp W : World) (b c : Nat) : Prop where
 one : jm Wp W b
 two : jm Wp W c
 ne : b ≠ c
theorem Pb.Xe {Wp W : World} {b c : Nat} (h : jm Wp W b) (e : c = W.heap.size) : Pb Wp (W.alloc (.cells #[.slice none 0 0, .bool false] 61 (0, 0))) b c := by
 have hl := h.lt
 have ho := h.old
 subst e
 exact ⟨h.alloc, ⟨by omega, heap_alloc_new W _⟩, by omega⟩
theorem Pb.Xf {Wp W : World} {b c : Nat} (h : jm Wp W c) (e : b = W.heap.size) : Pb Wp (W.alloc (.cells #[.slice none 0 0, .bool false] 61 (0, 0))) b c := by
 have hl := h.lt
 have ho := h.old
 subst e
 exact ⟨⟨by omega, heap_alloc_new W _⟩, h.alloc, by omega⟩
theorem zw.new {W : World} {b : Nat} {A1 : Option Addr} {c1 : Nat} {l1 : List Nat} {m1 : Bool} {z1 : Int} (h1 : jc W A1 c1 l1 m1 z1) (e : b = W.heap.size) : zw (W.alloc (.cells #[.slice A1 l1.length c1, .bool m1] 61)) b z1 := by
 subst e; exact ⟨A1, c1, l1, m1, heap_alloc_new W _, h1.below ((Below.refl _ _).alloc (Nat.le_refl _) _)⟩
theorem zw.alloc {W : World} {b : Nat} {z : Int} {o : Obj} (h : zw W b z) : zw (W.alloc o) b z := h.below ((Below.refl _ _).alloc (Nat.le_refl _) _)
theorem jc.alloc {W : World} {o : Obj} {A1 : Option Addr} {c1 : Nat} {l1 : List Nat} {m1 : Bool} {z1 : Int} (h1 : jc W A1 c1 l1 m1 z1) : jc (W.alloc o) A1 c1 l1 m1 z1 := h1.below ((Below.refl _ _).alloc (Nat.le_refl _) _)
theorem jm.facts {Wp W : World} {b : Nat} (h : jm Wp W b) : (W.cell? ⟨b, 0, none⟩ = some (.slice none 0 0) ∧ W.cell? ⟨b, 1, none⟩ = some (.bool false)) ∧
  (W.frozen? ⟨b, 0, none⟩ = false ∧ W.frozen? ⟨b, 1, none⟩ = false) ∧
  ((∀ o, (W.alloc o).cell? ⟨b, 0, none⟩ = some (.slice none 0 0)) ∧ (∀ o, (W.alloc o).cell? ⟨b, 1, none⟩ = some (.bool false))) ∧
  ((∀ o, (W.alloc o).frozen? ⟨b, 0, none⟩ = false) ∧ (∀ o, (W.alloc o).frozen? ⟨b, 1, none⟩ = false)) ∧
  ¬ (b = W.heap.size) ∧ ¬ (W.heap.size = b) :=
 ⟨⟨ae h.zero 0, ae h.zero 1⟩, ⟨bz h.zero 0, bz h.zero 1⟩,
  ⟨fun o => ae (h.alloc (o := o)).zero 0, fun o => ae (h.alloc (o := o)).zero 1⟩,
  ⟨fun o => bz (h.alloc (o := o)).zero 0, fun o => bz (h.alloc (o := o)).zero 1⟩, by have := h.lt; omega, by have := h.lt; omega⟩
theorem aea {Wp W : World} {b : Nat} {A1 : Option Addr} {c1 : Nat} {l1 : List Nat} {m1 : Bool} {z1 : Int} (hf : jm Wp W b) (h1 : jc W A1 c1 l1 m1 z1) (hb : Below Wp.heap.size Wp W) :
  zw ((W.setCell ⟨b, 0, none⟩ (.slice A1 l1.length c1)).setCell ⟨b, 1, none⟩ (.bool m1)) b z1 ∧ Below Wp.heap.size Wp ((W.setCell ⟨b, 0, none⟩ (.slice A1 l1.length c1)).setCell ⟨b, 1, none⟩ (.bool m1)) ∧ Wp.heap.size ≤ b :=
 ⟨⟨A1, c1, l1, m1, Js hf.zero, h1.upto hf.zero (Di _ _ _ _) (oh _ _ _ _)⟩, hb.grown (oh _ _ _ _) hb.size (fun k hk => by injection hk with hk; have := hf.old; omega), hf.old⟩
theorem Gd {Wp W : World} {b c : Nat} {A1 : Option Addr} {c1 : Nat} {l1 : List Nat} {m1 : Bool} {z1 : Int} {A2 : Option Addr} {c2 : Nat} {l2 : List Nat} {m2 : Bool} {z2 : Int} (hf : Pb Wp W b c) (h1 : jc W A1 c1 l1 m1 z1) (h2 : jc W A2 c2 l2 m2 z2) (hb : Below Wp.heap.size Wp W) :
  zw ((((W.setCell ⟨b, 0, none⟩ (.slice A1 l1.length c1)).setCell ⟨b, 1, none⟩ (.bool m1)).setCell ⟨c, 0, none⟩ (.slice A2 l2.length c2)).setCell ⟨c, 1, none⟩ (.bool m2)) b z1 ∧ zw ((((W.setCell ⟨b, 0, none⟩ (.slice A1 l1.length c1)).setCell ⟨b, 1, none⟩ (.bool m1)).setCell ⟨c, 0, none⟩ (.slice A2 l2.length c2)).setCell ⟨c, 1, none⟩ (.bool m2)) c z2 ∧ Below Wp.heap.size Wp ((((W.setCell ⟨b, 0, none⟩ (.slice A1 l1.length c1)).setCell ⟨b, 1, none⟩ (.bool m1)).setCell ⟨c, 0, none⟩ (.slice A2 l2.length c2)).setCell ⟨c, 1, none⟩ (.bool m2)) ∧ Wp.heap.size ≤ b ∧ Wp.heap.size ≤ c := by
 have g1 := oh W b (.slice A1 l1.length c1) (.bool m1)
 have k2 := h2.upto hf.one.zero (Di _ _ _ _) g1
 have kc := (g1.block c hf.two.lt (fun e => hf.ne (by injection e with e; exact e.symm))).trans hf.two.zero
 have kb := (aea hf.one h1 hb)
 have ks := kb.2.1.size
 obtain ⟨⟨A, cap, l, m, e1, e2⟩, kb2, _⟩ := kb
 have g2 := oh ((W.setCell ⟨b, 0, none⟩ (.slice A1 l1.length c1)).setCell ⟨b, 1, none⟩ (.bool m1)) c (.slice A2 l2.length c2) (.bool m2)
 exact ⟨⟨A, cap, l, m, (g2.block b (lt_of_block e1) (fun e => hf.ne (by injection e))).trans e1, e2.upto kc (Di _ _ _ _) g2⟩,
  ⟨A2, c2, l2, m2, Js kc, k2.upto kc (Di _ _ _ _) g2⟩, kb2.grown g2 ks (fun k hk => by injection hk with hk; have := hf.two.old; omega), hf.one.old, hf.two.old⟩
theorem Vt {Wp W : World} {b c : Nat} {A1 : Option Addr} {c1 : Nat} {l1 : List Nat} {m1 : Bool} {z1 : Int} {A2 : Option Addr} {c2 : Nat} {l2 : List Nat} {m2 : Bool} {z2 : Int} (h1 : jc W A1 c1 l1 m1 z1) (h2 : jc W A2 c2 l2 m2 z2) (hb : Below Wp.heap.size Wp W) (eb : b = W.heap.size) (ec : c = W.heap.size + 1) :
  zw ((W.alloc (.cells #[.slice A1 l1.length c1, .bool m1] 61)).alloc (.cells #[.slice A2 l2.length c2, .bool m2] 61)) b z1 ∧ zw ((W.alloc (.cells #[.slice A1 l1.length c1, .bool m1] 61)).alloc (.cells #[.slice A2 l2.length c2, .bool m2] 61)) c z2 ∧ Below Wp.heap.size Wp ((W.alloc (.cells #[.slice A1 l1.length c1, .bool m1] 61)).alloc (.cells #[.slice A2 l2.length c2, .bool m2] 61)) ∧ Wp.heap.size ≤ b ∧ Wp.heap.size ≤ c :=
 ⟨(zw.new h1 eb).alloc, zw.new h2.alloc (by rw [ec, World.size_alloc]), (hb.alloc hb.size _).alloc (hb.alloc hb.size _).size _, by have := hb.size; omega, by have := hb.size; omega⟩
theorem aal {Wp W : World} {b c : Nat} {A1 : Option Addr} {c1 : Nat} {l1 : List Nat} {m1 : Bool} {z1 : Int} {A2 : Option Addr} {c2 : Nat} {l2 : List Nat} {m2 : Bool} {z2 : Int} (h1 : jc W A1 c1 l1 m1 z1) (h2 : jc W A2 c2 l2 m2 z2) (hb : Below Wp.heap.size Wp W) (ec : c = W.heap.size) (eb : b = W.heap.size + 1) :
  zw ((W.alloc (.cells #[.slice A2 l2.length c2, .bool m2] 61)).alloc (.cells #[.slice A1 l1.length c1, .bool m1] 61)) b z1 ∧ zw ((W.alloc (.cells #[.slice A2 l2.length c2, .bool m2] 61)).alloc (.cells #[.slice A1 l1.length c1, .bool m1] 61)) c z2 ∧ Below Wp.heap.size Wp ((W.alloc (.cells #[.slice A2 l2.length c2, .bool m2] 61)).alloc (.cells #[.slice A1 l1.length c1, .bool m1] 61)) ∧ Wp.heap.size ≤ b ∧ Wp.heap.size ≤ c := by
 obtain ⟨x1, x2, x3, x4, x5⟩ := Vt h2 h1 hb ec eb
 exact ⟨x2, x1, x3, x5, x4⟩
theorem aak {Wp W : World} {b c : Nat} {A1 : Option Addr} {c1 : Nat} {l1 : List Nat} {m1 : Bool} {z1 : Int} {A2 : Option Addr} {c2 : Nat} {l2 : List Nat} {m2 : Bool} {z2 : Int} (hf : jm Wp W c) (h1 : jc W A1 c1 l1 m1 z1) (h2 : jc W A2 c2 l2 m2 z2) (hb : Below Wp.heap.size Wp W) (eb : b = W.heap.size) :
  zw (((W.alloc (.cells #[.slice A1 l1.length c1, .bool m1] 61)).setCell ⟨c, 0, none⟩ (.slice A2 l2.length c2)).setCell ⟨c, 1, none⟩ (.bool m2)) b z1 ∧ zw (((W.alloc (.cells #[.slice A1 l1.length c1, .bool m1] 61)).setCell ⟨c, 0, none⟩ (.slice A2 l2.length c2)).setCell ⟨c, 1, none⟩ (.bool m2)) c z2 ∧ Below Wp.heap.size Wp (((W.alloc (.cells #[.slice A1 l1.length c1, .bool m1] 61)).setCell ⟨c, 0, none⟩ (.slice A2 l2.length c2)).setCell ⟨c, 1, none⟩ (.bool m2)) ∧ Wp.heap.size ≤ b ∧ Wp.heap.size ≤ c := by
 have hl := hf.lt
 have hx := aea hf.alloc h2.alloc (hb.alloc hb.size (.cells #[.slice A1 l1.length c1, .bool m1] 61))
 have hn := (zw.new h1 eb)
 obtain ⟨A, cap, l, m, e1, e2⟩ := hn
 have g2 := oh (W.alloc (.cells #[.slice A1 l1.length c1, .bool m1] 61)) c (.slice A2 l2.length c2) (.bool m2)
 exact ⟨⟨A, cap, l, m, (g2.block b (lt_of_block e1) (fun e => by injection e with e; omega)).trans e1, e2.upto (hf.alloc (o := _)).zero (Di _ _ _ _) g2⟩, hx.1, hx.2.1, by have := hb.size; omega, hx.2.2⟩
def abr (w : World) (F : Nat) (a b c : Int) : Prop := ∀ (A1 : Option Addr) (c1 : Nat) (l1 : List Nat) (m1 : Bool) (A2 : Option Addr) (c2 : Nat) (l2 : List Nat) (m2 : Bool) (W : World), Below w.heap.size w W → jc W A1 c1 l1 m1 a → jc W A2 c2 l2 m2 b → Calls Tryz.prog F #[(Value.agg #[.slice A1 l1.length c1, .bool m1]), (Value.agg #[.slice A2 l2.length c2, .bool m2])] W fun e w' => Al W c e w'
def awf (w : World) (F : Nat) (a b : Int) (q : Rat) : Prop := ∀ (A1 : Option Addr) (c1 : Nat) (l1 : List Nat) (m1 : Bool) (A2 : Option Addr) (c2 : Nat) (l2 : List Nat) (m2 : Bool) (W : World), Below w.heap.size w W → jc W A1 c1 l1 m1 a → jc W A2 c2 l2 m2 b → Calls Tryz.prog F #[(Value.agg #[.slice A1 l1.length c1, .bool m1]), (Value.agg #[.slice A2 l2.length c2, .bool m2])] W fun e w' => QR W q e w'
theorem mr {w : World} {g : Nat} (u0 u1 u2 u3 : Value) (b o : Nat) (h : b ≠ g) : ((((w.setCell ⟨g, 0, none⟩ u0).setCell ⟨g, 1, none⟩ u1).setCell ⟨g, 2, none⟩ u2).setCell ⟨g, 3, none⟩ u3).cell? ⟨b, o, none⟩ = w.cell? ⟨b, o, none⟩ := by
 rw [Cj _ _ _ _ h, Cj _ _ _ _ h, Cj _ _ _ _ h, Cj _ _ _ _ h]

end Go.Proofs.YtfbcdfoohpkfeaaGreatDoor
namespace Go.Proofs.YtfbcdfoohpkfeaaGreatDoor
open Go.RowKit

set_option maxHeartbeats 8000000 in
theorem Yl (A1 : Option Addr) (c1 : Nat) (l1 : List Nat) (m1 : Bool) (n : Int) (A2 : Option Addr) (c2 : Nat) (l2 : List Nat) (m2 : Bool) (d : Int) (K : Nat) (w : World) (h1 : jc w A1 c1 l1 m1 n) (h2 : jc w A2 c2 l2 m2 d) (hd : d ≠ 0) (hn : n.natAbs < ic ^ K) (hdK : d.natAbs < ic ^ K) (hK : K + 1 ≤ 35184372088832) :
  Calls Tryz.prog 115 #[.agg #[.slice A1 l1.length c1, .bool m1], .agg #[.slice A2 l2.length c2, .bool m2]] w fun e w' => QR w (Rat.divInt n d) e w' := by
 have hl : ¬ l2.length = 0 := fun e => by have := h2.nat.Ha.2 e; omega
 have HI := hide (fun W => Wx A2 c2 l2.length m2 W)
 rw [decide_eq_false hl] at HI
 obtain ⟨n', d', q, hq, hq2, hd', hn', bcg, hneg⟩ : ∃ (n' d' : Int) (q : Rat), q = Rat.divInt n d ∧ q = Rat.divInt n' d' ∧ 0 < d' ∧ n'.natAbs < ic ^ K ∧ d'.natAbs < ic ^ K ∧ ((m2 = true ∧ n' = -n ∧ d' = -d) ∨ (m2 = false ∧ n' = n ∧ d' = d)) := by
  by_cases h : d < 0
  ·
   exact ⟨-n, -d, _, rfl, (ado n d hd).symm, by omega, by rw [Int.natAbs_neg]; exact hn, by rw [Int.natAbs_neg]; exact hdK, .inl ⟨by rw [h2.sign]; exact decide_eq_true h, rfl, rfl⟩⟩
  ·
   exact ⟨n, d, _, rfl, rfl, by omega, hn, hdK, .inr ⟨by rw [h2.sign]; exact decide_eq_false h, rfl, rfl⟩⟩
 rw [← hq]
 have HQ2 := Lib.hid hq2
 have HDP := hide hd'; have HNK := hide hn'; have HDK := hide bcg; have amn := hide hneg; have HK := hide hK
 have H1 := hide h1; have H2 := hide h2
 have HN1 := hide (fun W (hW : Below w.heap.size w W) => Ww A1 c1 l1 m1 n W (h1.below hW))
 have HN2 := hide (fun W (hW : Below w.heap.size w W) => Ww A2 c2 l2 m2 d W (h2.below hW))
 clear h1 h2 hd hn hdK hl hq hq2 hd' hn' bcg hneg hK
 go_enter Tryz.func115, Tryz.ntmps115
 go_wp2_with fail
 obtain ⟨n0, n1, n2, hsz, hw0⟩ := qg w (.cells #[.slice A1 l1.length c1, .bool m1] 61) (.cells #[.slice A2 l2.length c2, .bool m2] 61) (.cells #[.slice none 0 0, .bool false, .slice none 0 0, .bool false] 63)
 generalize (((w.alloc (.cells #[.slice A1 l1.length c1, .bool m1] 61)).alloc (.cells #[.slice A2 l2.length c2, .bool m2] 61)).alloc (.cells #[.slice none 0 0, .bool false, .slice none 0 0, .bool false] 63)) = W0 at *
 have hS0 : Vi w W0 n d := ⟨⟨_, _, _, _, n0, (aa H1).below hw0⟩, ⟨_, _, _, _, n1, (aa H2).below hw0⟩, n2, hw0⟩
 refine ((aa HI) _).mono ?_
 rintro e W1 ⟨rfl, hb⟩
 have hS1 := hS0.below hb
 have j0 := (hb.block _ (lt_of_block n0)).trans n0
 have j1 := (hb.block _ (lt_of_block n1)).trans n1
 have hw1 := ek hw0 hb
 clear hS0 hb n0 n1 n2 hw0 hsz HI
 have k0 : W1.cell? ⟨w.heap.size, 0, none⟩ = some (.slice A1 l1.length c1) := ae j0 0
 have k1 : W1.cell? ⟨w.heap.size, 1, none⟩ = some (.bool m1) := ae j0 1
 have k2 : W1.cell? ⟨w.heap.size + 1, 0, none⟩ = some (.slice A2 l2.length c2) := ae j1 0
 have k3 : W1.cell? ⟨w.heap.size + 1, 1, none⟩ = some (.bool m2) := ae j1 1
 have HS := hide hS1; have J := hide (And.intro j0 j1); have HW1 := Lib.hid hw1
 clear hS1 hw1 j0 j1
 go_upto_if 14 with (fail)
 go_cut [] (fun wx => Vi w wx n' d')
 case first =>
  rcases aa amn with ⟨e1, e2, e3⟩ | ⟨e1, e2, e3⟩
  ·
   subst e1 e2 e3
   have q0 : w.heap.size < W1.heap.size := lt_of_block (aa J).1
   have q1 : w.heap.size + 1 < W1.heap.size := lt_of_block (aa J).2
   have KEEP : ∀ X, Below W1.heap.size W1 X → (fun w' => w'.cell? ⟨w.heap.size, 0, none⟩ = some (.slice A1 l1.length c1) ∧ w'.cell? ⟨w.heap.size, 1, none⟩ = some (.bool m1) ∧ w'.cell? ⟨w.heap.size + 1, 0, none⟩ = some (.slice A2 l2.length c2) ∧ w'.cell? ⟨w.heap.size + 1, 1, none⟩ = some (.bool true)) X := fun X hX => ⟨(hX.cell (p := ⟨w.heap.size, 0, none⟩) q0).trans k0, (hX.cell (p := ⟨w.heap.size, 1, none⟩) q0).trans k1, (hX.cell (p := ⟨w.heap.size + 1, 0, none⟩) q1).trans k2, (hX.cell (p := ⟨w.heap.size + 1, 1, none⟩) q1).trans k3⟩
   have HKE := hide KEEP
   have f0 := bz (aa J).1 0
   have f1 := bz (aa J).1 1
   have f2 := bz (aa J).2 0
   have f3 := bz (aa J).2 1
   clear amn KEEP
   go_wp2_with fail
   go_region_with (first | (go_at_call_of 156 (Value.agg #[.slice A1 l1.length c1, .bool m1]); refine ((aa HN1) _ (ek HW1.out (by (first | with_reducible assumption | (repeat (first | with_reducible exact Below.refl _ _ | with_reducible assumption | refine Below.drew ?_ | (refine Below.alloc ?_ (by simp <;> omega) _))))))).mono ?_; rintro e w' ⟨A5, c5, l5, m5, rfl, bcd, hb⟩; (try (first | replace tq := jc.below tq hb | replace tq := (jc.below tq (Below.drew (Below.refl _ _))).below hb)); (try (first | replace xm := jc.below xm hb | replace xm := (jc.below xm (Below.drew (Below.refl _ _))).below hb)); have tq := bcd; clear bcd; have hbw := fo (w := W1) (by (first | with_reducible assumption | (repeat (first | with_reducible exact Below.refl _ _ | with_reducible assumption | refine Below.drew ?_ | (refine Below.alloc ?_ (by simp <;> omega) _))))) hb; obtain ⟨hc, hfz⟩ := gp hbw) | (go_at_call_of 156 (Value.agg #[.slice A2 l2.length c2, .bool true]); refine ((aa HN2) _ (ek HW1.out (by (first | with_reducible assumption | (repeat (first | with_reducible exact Below.refl _ _ | with_reducible assumption | refine Below.drew ?_ | (refine Below.alloc ?_ (by simp <;> omega) _))))))).mono ?_; rintro e w' ⟨A6, c6, l6, m6, rfl, bcc, hb⟩; (try (first | replace tq := jc.below tq hb | replace tq := (jc.below tq (Below.drew (Below.refl _ _))).below hb)); (try (first | replace xm := jc.below xm hb | replace xm := (jc.below xm (Below.drew (Below.refl _ _))).below hb)); have xm := bcc; clear bcc; have hbw := fo (w := W1) (by (first | with_reducible assumption | (repeat (first | with_reducible exact Below.refl _ _ | with_reducible assumption | refine Below.drew ?_ | (refine Below.alloc ?_ (by simp <;> omega) _))))) hb; obtain ⟨hc, hfz⟩ := gp hbw))
   all_goals
    go_wp2_with fail
    go_meet
    case rel =>
     have HS9 := (aa HS).below hbw
     exact HS9.put tq xm
  ·
   subst e1 e2 e3
   clear amn
   go_wp2_with fail
   go_meet
   case rel => exact aa HS
 case rest =>
  clear amn k0 k1 k2 k3 HS J HW1 HN1 HN2 H1 H2
  obtain ⟨⟨A3, c3, l3, m3, kn, fn⟩, ⟨A4, c4, l4, m4, kd, fd⟩, kq, hb⟩ := hcut
  have w0 : wc.cell? ⟨w.heap.size, 0, none⟩ = some (.slice A3 l3.length c3) := ae kn 0
  have w1 : wc.cell? ⟨w.heap.size, 1, none⟩ = some (.bool m3) := ae kn 1
  have w2 : wc.cell? ⟨w.heap.size + 1, 0, none⟩ = some (.slice A4 l4.length c4) := ae kd 0
  have w3 : wc.cell? ⟨w.heap.size + 1, 1, none⟩ = some (.bool m4) := ae kd 1
  have p0 : wc.cell? ⟨w.heap.size + 1 + 1, 0, none⟩ = some (.slice none 0 0) := ae kq 0
  have p1 : wc.cell? ⟨w.heap.size + 1 + 1, 1, none⟩ = some (.bool false) := ae kq 1
  have p2 : wc.cell? ⟨w.heap.size + 1 + 1, 2, none⟩ = some (.slice none 0 0) := ae kq 2
  have p3 : wc.cell? ⟨w.heap.size + 1 + 1, 3, none⟩ = some (.bool false) := ae kq 3
  have u0 := bz kn 0; have u1 := bz kn 1; have u2 := bz kd 0; have u3 := bz kd 1
  have v0 := bz kq 0; have v1 := bz kq 1; have v2 := bz kq 2; have v3 := bz kq 3
  have q0 := lt_of_block kn; have q1 := lt_of_block kd; have q2 := lt_of_block kq
  have hSW : Vi w wc n' d' := ⟨⟨A3, c3, l3, m3, kn, fn⟩, ⟨A4, c4, l4, m4, kd, fd⟩, kq, hb⟩
  have ho := Yn A4 c4 l4 m4 d' wc fd
  have FN := hide fn; have FD := hide fd; have KQ := Lib.hid kq; have HB := hide hb; have HSW := hide hSW
  obtain ⟨Qq, hden⟩ := amc n' d' (aa HDP)
  rw [← HQ2.out] at Qq hden
  obtain ⟨g, hg⟩ : ∃ g, g = n'.natAbs.gcd d'.natAbs := ⟨_, rfl⟩
  rw [← hg] at Qq hden
  have amm := Lib.hid Qq.symm; have amo := Lib.hid hden.symm; have HGG := Lib.hid hg
  clear kn kd kq fn fd hb hSW Qq hden
  by_cases hd1 : d' = 1
  ·
   rw [decide_eq_true hd1] at ho
   have HO := hide ho
   have hg1 : g = 1 := by rw [hg, hd1]; simp
   have e1 : q.num = n' := by
    rw [← amm.out, hg1, Nat.div_one]
    by_cases h : n' < 0
    ·
     rw [if_pos (decide_eq_true h)]; omega
    ·
     rw [if_neg (by simpa using h)]; omega
   have e2 : (q.den : Int) = d' := by
    rw [← amo.out, hg1, Nat.div_one]; have := aa HDP; omega
   have E := hide (And.intro e1 e2)
   clear ho hg hg1 hd1 e1 e2
   go_wp2_with fail
   refine (aa HO).mono ?_
   rintro e W2 ⟨rfl, hb2⟩
   obtain ⟨hc, hfz⟩ := gp hb2
   have hblk := (hb2.block _ q2).trans KQ.out
   have mo := Lib.hid hblk; have HB2 := hide hb2
   clear hblk hb2
   go_wp2_with fail
   exact bodyPost_ret (v := .agg #[.slice A3 l3.length c3, .bool m3, .slice A4 l4.length c4, .bool m4]) (by simp [results, Tryz.results115, go_sem, hc, p0, p1, p2, p3, q2]) rfl
    ⟨A3, c3, l3, m3, A4, c4, l4, m4, rfl, by rw [(aa E).1]; exact ((aa FN).below (aa HB2)).upto mo.out (Bb _ _ _ _ _ _ _ _) (qp _ _ _ _ _ _), by rw [(aa E).2]; exact ((aa FD).below (aa HB2)).upto mo.out (Bb _ _ _ _ _ _ _ _) (qp _ _ _ _ _ _), (ek (aa HB) (aa HB2)).grown (qp _ _ _ _ _ _) (ek (aa HB) (aa HB2)).size (fun k hk => by injection hk with hk; omega)⟩
  ·
   rw [decide_eq_false hd1] at ho
   have hdv := fun W (hW : Below wc.heap.size wc W) => aid A3 A4 c3 c4 l3 l4 n'.natAbs d'.natAbs K W ((aa FN).nat.below hW) ((aa FD).nat.below hW) (aa HNK) (aa HDK) (aa HK)
   rw [← hg] at hdv
   have HO := hide ho; have HDV := hide hdv
   have hg0 : 0 < g := by rw [hg]; exact Nat.gcd_pos_of_pos_right _ (by have := aa HDP; omega)
   have hgl : g ≤ d'.natAbs := by rw [hg]; exact Nat.gcd_le_right _ (by have := aa HDP; omega)
   have HG0 := hide hg0; have HGL := hide hgl
   have hln := (aa FN).nat.len (aa HNK); have hld := (aa FD).nat.len (aa HDK)
   have HLN := hide hln; have HLD := hide hld
   clear ho hdv hg hg0 hgl hd1 hln hld
   go_wp2_with fail
   refine (aa HO).mono ?_
   rintro e W2 ⟨rfl, hb2⟩
   obtain ⟨hc2, hf2⟩ := gp hb2
   have HB2 := hide hb2
   clear hb2
   go_wp2_with fail
   refine ((aa HDV) _ (aa HB2)).mono ?_
   rintro e W3 ⟨A5, c5, l5, rfl, h5, hb3⟩
   have aba := ek (aa HB2) hb3
   replace hb3 := aba
   obtain ⟨hc3, hf3⟩ := gp hb3
   have hlg := h5.len (Nat.lt_of_le_of_lt (aa HGL) (aa HDK))
   have H5 := hide h5; have HLG := hide hlg; have HB3 := hide hb3
   clear hc2 hf2 aba hlg HDV HO HB2
   by_cases hl5 : l5.length = 1
   ·
    obtain ⟨b5, o5, rfl, hb5, hc5⟩ := h5.ws om
    have hcell := hc5 0 om
    rw [Nat.add_zero, show Wd.g l5 0 = g by rw [Sq ic l5 hl5]; exact h5.val] at hcell
    have bjb : ((l5.length : Int) != 1) = false := by rw [hl5]; rfl
    have bui : 0 < l5.length := by omega
    have hcap := h5.wh; have hcap2 := h5.cap2
    by_cases hg1 : g = 1
    ·
     have e1 : q.num = n' := by
      rw [← amm.out, hg1, Nat.div_one]
      by_cases h : n' < 0
      ·
       rw [if_pos (decide_eq_true h)]; omega
      ·
       rw [if_neg (by simpa using h)]; omega
     have e2 : (q.den : Int) = d' := by
      rw [← amo.out, hg1, Nat.div_one]; have := aa HDP; omega
     have E := hide (And.intro e1 e2)
     have hblk := (hb3.block _ q2).trans KQ.out
     have mo := Lib.hid hblk
     rw [hg1] at hcell
     clear hblk hg1 e1 e2 h5 hc5 hb3 hl5 hb5
     go_wp2_with fail
     exact bodyPost_ret (v := .agg #[.slice A3 l3.length c3, .bool m3, .slice A4 l4.length c4, .bool m4]) (by simp [results, Tryz.results115, go_sem, hc3, p0, p1, p2, p3, q2]) rfl
      ⟨A3, c3, l3, m3, A4, c4, l4, m4, rfl, by rw [(aa E).1]; exact ((aa FN).below (aa HB3)).upto mo.out (Bb _ _ _ _ _ _ _ _) (qp _ _ _ _ _ _), by rw [(aa E).2]; exact ((aa FD).below (aa HB3)).upto mo.out (Bb _ _ _ _ _ _ _ _) (qp _ _ _ _ _ _), (ek (aa HB) (aa HB3)).grown (qp _ _ _ _ _ _) (ek (aa HB) (aa HB3)).size (fun k hk => by injection hk with hk; omega)⟩
    ·
     have hgb : ((g : Int) == 1) = false := beq_eq_false_iff_ne.2 om
     have bum : ((g : Int) != 1) = true := by simp; omega
     obtain ⟨AG, hAG⟩ : ∃ A : Option Addr, A = some ⟨b5, o5, none⟩ := ⟨_, rfl⟩
     have hp1 := Gb A3 (some ⟨b5, o5, none⟩) c3 c5 l3 l5 n'.natAbs g W3 ((aa FN).nat.below hb3) (aa H5) (aa HG0) (by have := aa HLN; have := aa HK; omega) (by have := aa HLG; have := aa HK; omega)
     have HP1 := hide hp1
     clear hg1 h5 hc5 hb3 hl5 hb5 hp1 hAG AG
     go_wp2_with fail
     refine (aa HP1).mono ?_
     rintro e W4 ⟨A6, c6, l6, A7, c7, l7, rfl, h6, h7, hb4⟩
     have Tk := ek (aa HB3) hb4
     have h5' := (aa H5).below hb4
     obtain ⟨hc4, hf4⟩ := gp Tk
     have hp2 := Gb A4 (some ⟨b5, o5, none⟩) c4 c5 l4 l5 d'.natAbs g W4 ((aa FD).nat.below Tk) h5' (aa HG0) (by have := aa HLD; have := aa HK; omega) (by have := aa HLG; have := aa HK; omega)
     have HP2 := hide hp2; have H6 := hide h6; have HB4 := hide Tk
     clear hp2 h6 h7 hb4 Tk h5' hc3 hf3 HP1
     go_wp2_with fail
     refine (aa HP2).mono ?_
     rintro e W5 ⟨A8, c8, l8, A9, c9, l9, rfl, h8, h9, hb5⟩
     have Xr := ek (aa HB4) hb5
     obtain ⟨hc5, tq⟩ := gp Xr
     have hs1 := Cu A6 c6 l6 (n'.natAbs / g) m3 W5 ((aa H6).below hb5)
     have Oj : (if m3 = true then -((n'.natAbs / g : Nat) : Int) else ((n'.natAbs / g : Nat) : Int)) = q.num := by rw [(aa FN).sign]; exact amm.out
     rw [Oj] at hs1
     have uo := hide hs1; have H8 := hide h8; have HB5 := hide Xr
     clear hs1 h8 h9 hb5 Xr hc4 hf4 Oj HP2
     go_wp2_with fail
     refine (aa uo).mono ?_
     rintro e W6 ⟨Es, c10, l10, m10, rfl, h10, hb6⟩
     have Xq := ek (aa HB5) hb6
     obtain ⟨hc6, xm⟩ := gp Xq
     have hs2 := Cu A8 c8 l8 (d'.natAbs / g) false W6 ((aa H8).below hb6)
     rw [if_neg Bool.false_ne_true, amo.out] at hs2
     have HS2 := hide hs2; have Vp := hide h10; have HB6 := hide Xq
     clear hs2 h10 hb6 Xq hc5 tq uo
     go_wp2_with fail
     refine (aa HS2).mono ?_
     rintro e W7 ⟨Ih, c11, Ib, m11, rfl, h11, Eg⟩
     have Xp := ek (aa HB6) Eg
     obtain ⟨hc7, Fu⟩ := gp Xp
     have afo := (aa HSW).below Xp
     have Yc := hide afo
     have aho := hide ((aa Vp).below Eg); have Vo := hide h11
     clear h11 Eg Xp hc6 xm afo HS2
     go_wp2_with fail
     have Zu := (aa Yc).put (aa aho) (aa Vo)
     have hk1 := (aa Yc).keep (.slice Es l10.length c10) (.bool m10) (.slice Ih Ib.length c11) (.bool m11) (aa aho)
     have hk2 := (aa Yc).keep (.slice Es l10.length c10) (.bool m10) (.slice Ih Ib.length c11) (.bool m11) (aa Vo)
     exact bodyPost_ret (v := .agg #[.slice Es l10.length c10, .bool m10, .slice Ih Ib.length c11, .bool m11]) (by simp [results, Tryz.results115, go_sem, hc7, p0, p1, p2, p3, q2]) rfl
      ⟨Es, c10, l10, m10, Ih, c11, Ib, m11, rfl, hk1.upto Zu.bq (Bb _ _ _ _ _ _ _ _) (qp _ _ _ _ _ _), hk2.upto Zu.bq (Bb _ _ _ _ _ _ _ _) (qp _ _ _ _ _ _), Zu.hb.grown (qp _ _ _ _ _ _) Zu.hb.size (fun k hk => by injection hk with hk; omega)⟩
   ·
    have bjb : ((l5.length : Int) != 1) = true := by simp; omega
    have buh : ((l5.length : Int) == 1) = false := beq_eq_false_iff_ne.2 om
    have hcap := h5.wh; have hcap2 := h5.cap2
    have hp1 := Gb A3 A5 c3 c5 l3 l5 n'.natAbs g W3 ((aa FN).nat.below hb3) (aa H5) (aa HG0) (by have := aa HLN; have := aa HK; omega) (by have := aa HLG; have := aa HK; omega)
    have HP1 := hide hp1
    clear h5 hb3 hl5 hp1
    go_wp2_with fail
    refine (aa HP1).mono ?_
    rintro e W4 ⟨A6, c6, l6, A7, c7, l7, rfl, h6, h7, hb4⟩
    have Tk := ek (aa HB3) hb4
    have h5' := (aa H5).below hb4
    obtain ⟨hc4, hf4⟩ := gp Tk
    have hp2 := Gb A4 A5 c4 c5 l4 l5 d'.natAbs g W4 ((aa FD).nat.below Tk) h5' (aa HG0) (by have := aa HLD; have := aa HK; omega) (by have := aa HLG; have := aa HK; omega)
    have HP2 := hide hp2; have H6 := hide h6; have HB4 := hide Tk
    clear hp2 h6 h7 hb4 Tk h5' hc3 hf3 HP1
    go_wp2_with fail
    refine (aa HP2).mono ?_
    rintro e W5 ⟨A8, c8, l8, A9, c9, l9, rfl, h8, h9, hb5⟩
    have Xr := ek (aa HB4) hb5
    obtain ⟨hc5, tq⟩ := gp Xr
    have hs1 := Cu A6 c6 l6 (n'.natAbs / g) m3 W5 ((aa H6).below hb5)
    have Oj : (if m3 = true then -((n'.natAbs / g : Nat) : Int) else ((n'.natAbs / g : Nat) : Int)) = q.num := by rw [(aa FN).sign]; exact amm.out
    rw [Oj] at hs1
    have uo := hide hs1; have H8 := hide h8; have HB5 := hide Xr
    clear hs1 h8 h9 hb5 Xr hc4 hf4 Oj HP2
    go_wp2_with fail
    refine (aa uo).mono ?_
    rintro e W6 ⟨Es, c10, l10, m10, rfl, h10, hb6⟩
    have Xq := ek (aa HB5) hb6
    obtain ⟨hc6, xm⟩ := gp Xq
    have hs2 := Cu A8 c8 l8 (d'.natAbs / g) false W6 ((aa H8).below hb6)
    rw [if_neg Bool.false_ne_true, amo.out] at hs2
    have HS2 := hide hs2; have Vp := hide h10; have HB6 := hide Xq
    clear hs2 h10 hb6 Xq hc5 tq uo
    go_wp2_with fail
    refine (aa HS2).mono ?_
    rintro e W7 ⟨Ih, c11, Ib, m11, rfl, h11, Eg⟩
    have Xp := ek (aa HB6) Eg
    obtain ⟨hc7, Fu⟩ := gp Xp
    have afo := (aa HSW).below Xp
    have Yc := hide afo
    have aho := hide ((aa Vp).below Eg); have Vo := hide h11
    clear h11 Eg Xp hc6 xm afo HS2
    go_wp2_with fail
    have Zu := (aa Yc).put (aa aho) (aa Vo)
    have hk1 := (aa Yc).keep (.slice Es l10.length c10) (.bool m10) (.slice Ih Ib.length c11) (.bool m11) (aa aho)
    have hk2 := (aa Yc).keep (.slice Es l10.length c10) (.bool m10) (.slice Ih Ib.length c11) (.bool m11) (aa Vo)
    exact bodyPost_ret (v := .agg #[.slice Es l10.length c10, .bool m10, .slice Ih Ib.length c11, .bool m11]) (by simp [results, Tryz.results115, go_sem, hc7, p0, p1, p2, p3, q2]) rfl
     ⟨Es, c10, l10, m10, Ih, c11, Ib, m11, rfl, hk1.upto Zu.bq (Bb _ _ _ _ _ _ _ _) (qp _ _ _ _ _ _), hk2.upto Zu.bq (Bb _ _ _ _ _ _ _ _) (qp _ _ _ _ _ _), Zu.hb.grown (qp _ _ _ _ _ _) Zu.hb.size (fun k hk => by injection hk with hk; omega)⟩
end Go.Proofs.YtfbcdfoohpkfeaaGreatDoor
namespace Go.Proofs.YtfbcdfoohpkfeaaGreatDoor
open Go.RowKit

end Go.Proofs.YtfbcdfoohpkfeaaGreatDoor
namespace Go.Proofs.YtfbcdfoohpkfeaaGreatDoor
open Go.RowKit

def bkf (w : World) (q : Rat) (e : Ending) (w' : World) : Prop := ∃ (n d : Int) (ok : Bool), e = .returned (.tuple #[.agg #[.int .i64 n, .int .i64 d], .bool ok]) ∧ Below w.heap.size w w' ∧ ((ok = true ∧ Wd.told q = ⟨n, d, 0⟩) ∨ (ok = false ∧ Wd.told q = ⟨0, 0, 3⟩))

end Go.Proofs.YtfbcdfoohpkfeaaGreatDoor
namespace Go.Proofs.YtfbcdfoohpkfeaaGreatDoor
open Go.RowKit

end Go.Proofs.YtfbcdfoohpkfeaaGreatDoor
namespace Go.Proofs.YtfbcdfoohpkfeaaGreatDoor
open Go.RowKit

end Go.Proofs.YtfbcdfoohpkfeaaGreatDoor
namespace Go.Proofs.YtfbcdfoohpkfeaaGreatDoor
open Go.RowKit

structure Kk (Wp W : World) (b : Nat) : Prop where
 old : Wp.heap.size ≤ b
 zero : W.heap[b]? = some (.cells #[.slice none 0 0, .bool false, .slice none 0 0, .bool false] 63 (0, 0))
theorem Kk.lt {Wp W : World} {b : Nat} (h : Kk Wp W b) : b < W.heap.size := lt_of_block h.zero
theorem Kk.drew {Wp W : World} {b : Nat} (h : Kk Wp W b) : Kk Wp W.drew b := ⟨h.old, h.zero⟩
theorem Kk.below {Wp W w' : World} {b : Nat} (h : Kk Wp W b) (hb : Below W.heap.size W w') : Kk Wp w' b := ⟨h.old, (hb.block _ h.lt).trans h.zero⟩
theorem Kk.new {Wp W : World} {b : Nat} (hb : Below Wp.heap.size Wp W) (e : b = W.heap.size) : Kk Wp (W.alloc (.cells #[.slice none 0 0, .bool false, .slice none 0 0, .bool false] 63 (0, 0))) b := by
 subst e; exact ⟨hb.size, heap_alloc_new W _⟩
theorem Kk.alloc {Wp W : World} {b : Nat} {o : Obj} (h : Kk Wp W b) : Kk Wp (W.alloc o) b := ⟨h.old, (Below.heap_alloc W _ b h.lt).trans h.zero⟩
structure amq (Wp W : World) (b c : Nat) : Prop where
 one : Kk Wp W b
 two : Kk Wp W c
 ne : b ≠ c
theorem amq.Xe {Wp W : World} {b c : Nat} (h : Kk Wp W b) (e : c = W.heap.size) : amq Wp (W.alloc (.cells #[.slice none 0 0, .bool false, .slice none 0 0, .bool false] 63 (0, 0))) b c := by
 have hl := h.lt
 have ho := h.old
 subst e
 exact ⟨h.alloc, ⟨by omega, heap_alloc_new W _⟩, by omega⟩
theorem amq.Xf {Wp W : World} {b c : Nat} (h : Kk Wp W c) (e : b = W.heap.size) : amq Wp (W.alloc (.cells #[.slice none 0 0, .bool false, .slice none 0 0, .bool false] 63 (0, 0))) b c := by
 have hl := h.lt
 have ho := h.old
 subst e
 exact ⟨⟨by omega, heap_alloc_new W _⟩, h.alloc, by omega⟩
theorem QV.upto {w w' : World} {g : Nat} {Bg : Option Addr} {c1a : Nat} {Bf : List Nat} {Mx : Bool} {Dz : Option Addr} {Dx : Nat} {Dt : List Nat} {Uc : Bool} {x1 : Rat} {T : TypeId} {cs : Array Value} (h : QV w Bg c1a Bf Mx Dz Dx Dt Uc x1) (hg : w.heap[g]? = some (.cells cs T (0, 0))) (hn : Ya cs) (hgr : w.grownBy w' (some g)) : QV w' Bg c1a Bf Mx Dz Dx Dt Uc x1 := by
 obtain ⟨d, h2, h3⟩ := h.den
 exact ⟨h.num.upto hg hn hgr, d, h2.upto hg hn hgr, h3⟩
theorem QV.alloc {W : World} {o : Obj} {Bg : Option Addr} {c1a : Nat} {Bf : List Nat} {Mx : Bool} {Dz : Option Addr} {Dx : Nat} {Dt : List Nat} {Uc : Bool} {x1 : Rat} (h1 : QV W Bg c1a Bf Mx Dz Dx Dt Uc x1) : QV (W.alloc o) Bg c1a Bf Mx Dz Dx Dt Uc x1 := h1.below ((Below.refl _ _).alloc (Nat.le_refl _) _)
def Gx (w : World) (b : Nat) (x : Rat) : Prop := ∃ A c l m A' c' l' m', w.heap[b]? = some (.cells #[.slice A (List.length l) c, .bool m, .slice A' (List.length l') c', .bool m'] 63 (0, 0)) ∧ QV w A c l m A' c' l' m' x
theorem Gx.below {w w' : World} {b : Nat} {x : Rat} (h : Gx w b x) (hb : Below w.heap.size w w') : Gx w' b x := by
 obtain ⟨A, c, l, m, A', c', l', m', h1, h2⟩ := h
 exact ⟨A, c, l, m, A', c', l', m', (hb.block _ (lt_of_block h1)).trans h1, h2.below hb⟩
theorem Gx.new {W : World} {b : Nat} {Bg : Option Addr} {c1a : Nat} {Bf : List Nat} {Mx : Bool} {Dz : Option Addr} {Dx : Nat} {Dt : List Nat} {Uc : Bool} {x1 : Rat} (h1 : QV W Bg c1a Bf Mx Dz Dx Dt Uc x1) (e : b = W.heap.size) : Gx (W.alloc (.cells #[.slice Bg Bf.length c1a, .bool Mx, .slice Dz Dt.length Dx, .bool Uc] 63)) b x1 := by
 subst e; exact ⟨_, _, _, _, _, _, _, _, heap_alloc_new W _, h1.alloc⟩
theorem Gx.alloc {W : World} {b : Nat} {x : Rat} {o : Obj} (h : Gx W b x) : Gx (W.alloc o) b x := h.below ((Below.refl _ _).alloc (Nat.le_refl _) _)
theorem Kk.facts {Wp W : World} {b : Nat} (h : Kk Wp W b) : (W.cell? ⟨b, 0, none⟩ = some (.slice none 0 0) ∧ W.cell? ⟨b, 1, none⟩ = some (.bool false) ∧ W.cell? ⟨b, 2, none⟩ = some (.slice none 0 0) ∧ W.cell? ⟨b, 3, none⟩ = some (.bool false)) ∧
  (W.frozen? ⟨b, 0, none⟩ = false ∧ W.frozen? ⟨b, 1, none⟩ = false ∧ W.frozen? ⟨b, 2, none⟩ = false ∧ W.frozen? ⟨b, 3, none⟩ = false) ∧
  ((∀ o, (W.alloc o).cell? ⟨b, 0, none⟩ = some (.slice none 0 0)) ∧ (∀ o, (W.alloc o).cell? ⟨b, 1, none⟩ = some (.bool false)) ∧ (∀ o, (W.alloc o).cell? ⟨b, 2, none⟩ = some (.slice none 0 0)) ∧ (∀ o, (W.alloc o).cell? ⟨b, 3, none⟩ = some (.bool false))) ∧
  ((∀ o, (W.alloc o).frozen? ⟨b, 0, none⟩ = false) ∧ (∀ o, (W.alloc o).frozen? ⟨b, 1, none⟩ = false) ∧ (∀ o, (W.alloc o).frozen? ⟨b, 2, none⟩ = false) ∧ (∀ o, (W.alloc o).frozen? ⟨b, 3, none⟩ = false)) ∧
  ¬ (b = W.heap.size) ∧ ¬ (W.heap.size = b) :=
 ⟨⟨ae h.zero 0, ae h.zero 1, ae h.zero 2, ae h.zero 3⟩, ⟨bz h.zero 0, bz h.zero 1, bz h.zero 2, bz h.zero 3⟩,
  ⟨fun o => ae (h.alloc (o := o)).zero 0, fun o => ae (h.alloc (o := o)).zero 1, fun o => ae (h.alloc (o := o)).zero 2, fun o => ae (h.alloc (o := o)).zero 3⟩,
  ⟨fun o => bz (h.alloc (o := o)).zero 0, fun o => bz (h.alloc (o := o)).zero 1, fun o => bz (h.alloc (o := o)).zero 2, fun o => bz (h.alloc (o := o)).zero 3⟩, by have := h.lt; omega, by have := h.lt; omega⟩
theorem akr {W : World} {b : Nat} {a0 a1 a2 a3 u0 u1 u2 u3 : Value} {T : TypeId} (h : W.heap[b]? = some (.cells #[a0, a1, a2, a3] T (0, 0))) : ((((W.setCell ⟨b, 0, none⟩ u0).setCell ⟨b, 1, none⟩ u1).setCell ⟨b, 2, none⟩ u2).setCell ⟨b, 3, none⟩ u3).heap[b]? = some (.cells #[u0, u1, u2, u3] T (0, 0)) := by
 simp [World.setCell, Array.getElem?_modify, h]
end Go.Proofs.YtfbcdfoohpkfeaaGreatDoor
namespace Go.Proofs.YtfbcdfoohpkfeaaGreatDoor
open Go.RowKit

namespace Sb
def Ob (u : Value) : Prop := (∀ n : Int, u ≠ .int .u64 n) ∧ u.oneCell' = true ∧ (∀ n : Int, u ≠ .int .u32 n)
inductive Leaf where
 | v (u : Value)
 | z (n : Int)
 | q (x : Rat)
 | r (x : Rat)
def Leaf.size : Leaf → Nat
 | .v _ => 1
 | .z _ => 3
 | .q _ => 6
 | .r _ => 4
def lsize : List Leaf → Nat
 | [] => 0
 | l :: ls => l.size + lsize ls
def Ho (W : World) : Leaf → List Value → Prop
 | .v u, c => c = [u] ∧ Ob u
 | .z n, c => ∃ s1 n1 A1 c1 l1, c = [.int .i64 s1, .bool n1, .slice A1 (List.length l1) c1] ∧ ig W s1 n1 A1 c1 l1 n
 | .q x, c => ∃ s1 n1 A1 c1 l1 s2 n2 A2 c2 l2, c = [.int .i64 s1, .bool n1, .slice A1 (List.length l1) c1, .int .i64 s2, .bool n2, .slice A2 (List.length l2) c2] ∧ ig W s1 n1 A1 c1 l1 x.num ∧ ig W s2 n2 A2 c2 l2 (x.den : Int)
 | .r x, c => ∃ A1 c1 l1 m1 A2 c2 l2 m2, c = [.slice A1 (List.length l1) c1, .bool m1, .slice A2 (List.length l2) c2, .bool m2] ∧ QV W A1 c1 l1 m1 A2 c2 l2 m2 x
def jf (W : World) : List Leaf → List Value → Prop
 | [], cs => cs = []
 | l :: ls, cs => ∃ c r, cs = c ++ r ∧ Ho W l c ∧ jf W ls r
theorem jl (n : Int) : Ob (.int .i64 n) := ⟨fun m h => by simp at h, rfl, fun m h => by simp at h⟩
theorem Yw (b : Bool) : Ob (.bool b) := ⟨fun m h => by simp at h, rfl, fun m h => by simp at h⟩
theorem Yv (A : Option Addr) (n c : Nat) : Ob (.slice A n c) := ⟨fun m h => by simp at h, rfl, fun m h => by simp at h⟩
theorem bax (A : Option Addr) : Ob (.pointer A) := ⟨fun m h => by simp at h, rfl, fun m h => by simp at h⟩
def Mv (cs : List Value) : Prop := ∀ u ∈ cs, Ob u
theorem Mv.arr {cs : List Value} (h : Mv cs) : Rt cs.toArray := fun i n he => (h (.int .u64 n) (List.mem_of_getElem? (i := i) (by simpa using he))).1 n rfl
theorem Mv.bju {cs : List Value} (h : Mv cs) : Ya cs.toArray := fun i n he => (h (.int .u32 n) (List.mem_of_getElem? (i := i) (by simpa using he))).2.2 n rfl
theorem Ho.noW {W : World} {l : Leaf} {c : List Value} (h : Ho W l c) : Mv c := by
 cases l with
 | v u => obtain ⟨rfl, h⟩ := h; intro u' hu; rw [List.mem_singleton.1 hu]; exact h
 | z n =>
  obtain ⟨_, _, _, _, _, rfl, _⟩ := h
  intro u hu
  simp only [List.mem_cons, List.not_mem_nil, or_false] at hu
  rcases hu with rfl | rfl | rfl
  all_goals first | exact jl _ | exact Yw _ | exact Yv _ _ _
 | q x =>
  obtain ⟨_, _, _, _, _, _, _, _, _, _, rfl, _⟩ := h
  intro u hu
  simp only [List.mem_cons, List.not_mem_nil, or_false] at hu
  rcases hu with rfl | rfl | rfl | rfl | rfl | rfl
  all_goals first | exact jl _ | exact Yw _ | exact Yv _ _ _
 | r x =>
  obtain ⟨_, _, _, _, _, _, _, _, rfl, _⟩ := h
  intro u hu
  simp only [List.mem_cons, List.not_mem_nil, or_false] at hu
  rcases hu with rfl | rfl | rfl | rfl
  all_goals first | exact jl _ | exact Yw _ | exact Yv _ _ _
theorem Ho.below {W W' : World} {l : Leaf} {c : List Value} (hb : Below W.heap.size W W') (h : Ho W l c) : Ho W' l c := by
 cases l with
 | v u => exact h
 | z n =>
  obtain ⟨s1, n1, A1, c1, l1, rfl, h1⟩ := h
  exact ⟨_, _, _, _, _, rfl, h1.below hb⟩
 | q x =>
  obtain ⟨s1, n1, A1, c1, l1, s2, n2, A2, c2, l2, rfl, h1, h2⟩ := h
  exact ⟨_, _, _, _, _, _, _, _, _, _, rfl, h1.below hb, h2.below hb⟩
 | r x =>
  obtain ⟨A1, c1, l1, m1, A2, c2, l2, m2, rfl, h1⟩ := h
  exact ⟨_, _, _, _, _, _, _, _, rfl, h1.below hb⟩
theorem Ho.upto {W W' : World} {g : Nat} {l : Leaf} {c : List Value} {T : TypeId} {cs : List Value} (hg : W.heap[g]? = some (.cells cs.toArray T (0, 0))) (hn : Mv cs) (hgr : W.grownBy W' (some g)) (h : Ho W l c) : Ho W' l c := by
 cases l with
 | v u => exact h
 | z n =>
  obtain ⟨s1, n1, A1, c1, l1, rfl, h1⟩ := h
  exact ⟨_, _, _, _, _, rfl, h1.upto hg hn.arr hgr⟩
 | q x =>
  obtain ⟨s1, n1, A1, c1, l1, s2, n2, A2, c2, l2, rfl, h1, h2⟩ := h
  exact ⟨_, _, _, _, _, _, _, _, _, _, rfl, h1.upto hg hn.arr hgr, h2.upto hg hn.arr hgr⟩
 | r x =>
  obtain ⟨A1, c1, l1, m1, A2, c2, l2, m2, rfl, h1⟩ := h
  exact ⟨_, _, _, _, _, _, _, _, rfl, h1.upto hg hn.bju hgr⟩
theorem Ho.len {W : World} {l : Leaf} {c : List Value} (h : Ho W l c) : c.length = l.size := by
 cases l with
 | v u => rw [h.1]; rfl
 | z n => obtain ⟨_, _, _, _, _, rfl, _⟩ := h; rfl
 | q x => obtain ⟨_, _, _, _, _, _, _, _, _, _, rfl, _⟩ := h; rfl
 | r x => obtain ⟨_, _, _, _, _, _, _, _, rfl, _⟩ := h; rfl
theorem jf.noW {W : World} : ∀ {ls : List Leaf} {cs : List Value}, jf W ls cs → Mv cs
 | [], _, h => by cases h; intro u hu; cases hu
 | _ :: ls, _, ⟨c, r, e, hq, h⟩ => by
  subst e
  intro u' hm
  rcases List.mem_append.1 hm with hm | hm
  ·
   exact hq.noW _ hm
  ·
   exact jf.noW (ls := ls) h _ hm
theorem jf.below {W W' : World} (hb : Below W.heap.size W W') : ∀ {ls : List Leaf} {cs : List Value}, jf W ls cs → jf W' ls cs
 | [], _, h => h
 | _ :: ls, _, ⟨c, r, e, hq, h⟩ => ⟨c, r, e, hq.below hb, jf.below hb (ls := ls) h⟩
theorem jf.upto {W W' : World} {g : Nat} {T : TypeId} {ds : List Value} (hg : W.heap[g]? = some (.cells ds.toArray T (0, 0))) (hn : Mv ds) (hgr : W.grownBy W' (some g)) : ∀ {ls : List Leaf} {cs : List Value}, jf W ls cs → jf W' ls cs
 | [], _, h => h
 | _ :: ls, _, ⟨c, r, e, hq, h⟩ => ⟨c, r, e, hq.upto hg hn hgr, jf.upto hg hn hgr (ls := ls) h⟩
theorem jf.len {W : World} : ∀ {ls : List Leaf} {cs : List Value}, jf W ls cs → cs.length = lsize ls
 | [], _, h => by cases h; rfl
 | _ :: ls, _, ⟨c, r, e, hq, h⟩ => by subst e; rw [List.length_append, hq.len, jf.len (ls := ls) h]; rfl
theorem jf.app {W : World} {ks : List Leaf} {ds : List Value} (hd : jf W ks ds) : ∀ {ls : List Leaf} {cs : List Value}, jf W ls cs → jf W (ls ++ ks) (cs ++ ds)
 | [], _, h => by cases h; exact hd
 | _ :: ls, _, ⟨c, r, e, hq, h⟩ => ⟨c, r ++ ds, by rw [e, List.append_assoc], hq, jf.app hd (ls := ls) h⟩
theorem jf.cut {W : World} {ks : List Leaf} : ∀ {ls : List Leaf} {cs : List Value}, jf W (ls ++ ks) cs → ∃ c d, cs = c ++ d ∧ jf W ls c ∧ jf W ks d
 | [], cs, h => ⟨[], cs, rfl, rfl, h⟩
 | _ :: ls, _, ⟨c0, r, e, hq, h⟩ => by
  obtain ⟨c, d, e2, h1, h2⟩ := jf.cut (ls := ls) h
  exact ⟨c0 ++ c, d, by rw [e, e2, List.append_assoc], ⟨c0, c, rfl, hq, h1⟩, h2⟩
theorem jf.v {W : World} {u : Value} {ls : List Leaf} {cs : List Value} (hu : Ob u) (h : jf W ls cs) : jf W (.v u :: ls) (u :: cs) := ⟨[u], cs, rfl, ⟨rfl, hu⟩, h⟩
theorem jf.z {W : World} {n : Int} {s1 : Int} {n1 : Bool} {A1 : Option Addr} {c1 : Nat} {l1 : List Nat} {ls : List Leaf} {cs : List Value} (h1 : ig W s1 n1 A1 c1 l1 n) (h : jf W ls cs) : jf W (.z n :: ls) (.int .i64 s1 :: .bool n1 :: .slice A1 l1.length c1 :: cs) := ⟨[_, _, _], cs, rfl, ⟨_, _, _, _, _, rfl, h1⟩, h⟩
theorem jf.q {W : World} {x : Rat} {s1 : Int} {n1 : Bool} {A1 : Option Addr} {c1 : Nat} {l1 : List Nat} {s2 : Int} {n2 : Bool} {A2 : Option Addr} {c2 : Nat} {l2 : List Nat} {ls : List Leaf} {cs : List Value} (h1 : ig W s1 n1 A1 c1 l1 x.num) (h2 : ig W s2 n2 A2 c2 l2 (x.den : Int)) (h : jf W ls cs) : jf W (.q x :: ls) (.int .i64 s1 :: .bool n1 :: .slice A1 l1.length c1 :: .int .i64 s2 :: .bool n2 :: .slice A2 l2.length c2 :: cs) := ⟨[_, _, _, _, _, _], cs, rfl, ⟨_, _, _, _, _, _, _, _, _, _, rfl, h1, h2⟩, h⟩
theorem jf.r {W : World} {x : Rat} {A1 : Option Addr} {c1 : Nat} {l1 : List Nat} {m1 : Bool} {A2 : Option Addr} {c2 : Nat} {l2 : List Nat} {m2 : Bool} {ls : List Leaf} {cs : List Value} (h1 : QV W A1 c1 l1 m1 A2 c2 l2 m2 x) (h : jf W ls cs) : jf W (.r x :: ls) (.slice A1 l1.length c1 :: .bool m1 :: .slice A2 l2.length c2 :: .bool m2 :: cs) := ⟨[_, _, _, _], cs, rfl, ⟨_, _, _, _, _, _, _, _, rfl, h1⟩, h⟩
theorem jf.akw {W : World} {x : Rat} {ls : List Leaf} {cs : List Value} (h : jf W (.r x :: ls) cs) : ∃ A1 c1 l1 m1 A2 c2 l2 m2 r, cs = .slice A1 (List.length l1) c1 :: .bool m1 :: .slice A2 (List.length l2) c2 :: .bool m2 :: r ∧ QV W A1 c1 l1 m1 A2 c2 l2 m2 x ∧ jf W ls r := by
 obtain ⟨c, r, rfl, ⟨A1, c1, l1, m1, A2, c2, l2, m2, rfl, h1⟩, h⟩ := h
 exact ⟨A1, c1, l1, m1, A2, c2, l2, m2, r, rfl, h1, h⟩
theorem jf.Vu {W : World} {u : Value} {ls : List Leaf} {cs : List Value} (h : jf W (.v u :: ls) cs) : ∃ r, cs = u :: r ∧ Ob u ∧ jf W ls r := by
 obtain ⟨c, r, rfl, ⟨rfl, hu⟩, h⟩ := h
 exact ⟨r, rfl, hu, h⟩
theorem jf.ajm {W : World} {n : Int} {ls : List Leaf} {cs : List Value} (h : jf W (.z n :: ls) cs) : ∃ s1 n1 A1 c1 l1 r, cs = .int .i64 s1 :: .bool n1 :: .slice A1 (List.length l1) c1 :: r ∧ ig W s1 n1 A1 c1 l1 n ∧ jf W ls r := by
 obtain ⟨c, r, rfl, ⟨s1, n1, A1, c1, l1, rfl, h1⟩, h⟩ := h
 exact ⟨s1, n1, A1, c1, l1, r, rfl, h1, h⟩
theorem jf.akx {W : World} {x : Rat} {ls : List Leaf} {cs : List Value} (h : jf W (.q x :: ls) cs) : ∃ s1 n1 A1 c1 l1 s2 n2 A2 c2 l2 r, cs = .int .i64 s1 :: .bool n1 :: .slice A1 (List.length l1) c1 :: .int .i64 s2 :: .bool n2 :: .slice A2 (List.length l2) c2 :: r ∧ ig W s1 n1 A1 c1 l1 x.num ∧ ig W s2 n2 A2 c2 l2 (x.den : Int) ∧ jf W ls r := by
 obtain ⟨c, r, rfl, ⟨s1, n1, A1, c1, l1, s2, n2, A2, c2, l2, rfl, h1, h2⟩, h⟩ := h
 exact ⟨s1, n1, A1, c1, l1, s2, n2, A2, c2, l2, r, rfl, h1, h2, h⟩

def bg (ls : List Leaf) : World → Value → Prop := fun W v => ∃ cs : List Value, v = .agg cs.toArray ∧ jf W ls cs
theorem cu (ls : List Leaf) : Rg.Gj jb (bg ls) := by
 rintro w w' v hb ⟨cs, rfl, h⟩
 exact ⟨cs, rfl, h.below hb⟩
def Gz (W : World) : List (World → Value → Prop) → List Value → Prop
 | [], vs => vs = []
 | t :: ts, vs => ∃ u r, vs = u :: r ∧ t W u ∧ Gz W ts r
def qj (ts : List (World → Value → Prop)) : World → Value → Prop := fun W v => ∃ vs : List Value, v = .tuple vs.toArray ∧ Gz W ts vs
theorem Gz.below {W W' : World} (hb : jb W W') : ∀ {ts : List (World → Value → Prop)} {vs : List Value}, Rg.iq jb ts → Gz W ts vs → Gz W' ts vs
 | [], _, _, h => h
 | _ :: ts, _, hs, ⟨u, r, e, h1, h2⟩ => ⟨u, r, e, hs.1 _ _ _ hb h1, Gz.below hb (ts := ts) hs.2 h2⟩
theorem nu {ts : List (World → Value → Prop)} (hs : Rg.iq jb ts) : Rg.Gj jb (qj ts) := by
 rintro w w' v hb ⟨vs, rfl, h⟩
 exact ⟨vs, rfl, Gz.below hb hs h⟩
theorem Gz.get {W : World} : ∀ {ts : List (World → Value → Prop)} {vs : List Value}, Gz W ts vs → ∀ i, i < ts.length → ∃ u, vs[i]? = some u ∧ Rg.pick ts i W u
 | [], _, _, i, hi => by simp at hi
 | t :: ts, _, ⟨u, r, e, h1, h2⟩, 0, _ => by subst e; exact ⟨u, rfl, h1⟩
 | t :: ts, _, ⟨u, r, e, h1, h2⟩, i + 1, hi => by
  subst e
  obtain ⟨u', h3, h4⟩ := Gz.get (ts := ts) h2 i (by simpa using hi)
  exact ⟨u', by simpa using h3, h4⟩

def Cm (W : World) (b : Nat) (T : TypeId) (ls : List Leaf) : Prop := ∃ cs : List Value, W.heap[b]? = some (.cells cs.toArray T (0, 0)) ∧ jf W ls cs
theorem Cm.lt {W : World} {b : Nat} {T : TypeId} {ls : List Leaf} (h : Cm W b T ls) : b < W.heap.size := by obtain ⟨cs, h, _⟩ := h; exact lt_of_block h
theorem Cm.below {W W' : World} {b : Nat} {T : TypeId} {ls : List Leaf} (h : Cm W b T ls) (hb : Below W.heap.size W W') : Cm W' b T ls := by
 obtain ⟨cs, h1, h2⟩ := h
 exact ⟨cs, (hb.block _ (lt_of_block h1)).trans h1, h2.below hb⟩
abbrev Az := Nat × TypeId × List Leaf
structure Own (w : World) (bs : List Az) (W : World) : Prop where
 bel : Below w.heap.size w W
 nd : (bs.map Prod.fst).Nodup
 box : ∀ b T ls, (b, T, ls) ∈ bs → w.heap.size ≤ b ∧ Cm W b T ls
theorem Own.nil (w : World) : Own w [] w := ⟨Below.refl _ _, List.nodup_nil, fun b T ls h => by cases h⟩
theorem Own.step {w : World} {bs : List Az} : ∀ W W', Own w bs W → jb W W' → Own w bs W' := fun W W' h hb => ⟨ek h.bel hb, h.nd, fun b T ls hm => ⟨(h.box b T ls hm).1, (h.box b T ls hm).2.below hb⟩⟩
theorem Own.add {w W V : World} {bs : List Az} {b : Nat} {T : TypeId} {ls : List Leaf} (h : Own w bs V) (Vd : jb V W) (hb : V.heap.size ≤ b) (hq : Cm W b T ls) : Own w ((b, T, ls) :: bs) W :=
 ⟨ek h.bel Vd, List.nodup_cons.2 ⟨fun hm => by
  obtain ⟨⟨b', T', ls'⟩, hp, he⟩ := List.mem_map.1 hm
  have := (h.box b' T' ls' hp).2.lt
  have : b' = b := he
  omega, h.nd⟩, fun b' T' ls' hm => by
  rcases List.mem_cons.1 hm with e | hm
  ·
   cases e; exact ⟨Nat.le_trans h.bel.size hb, hq⟩
  ·
   exact ((Own.step V W h Vd).box b' T' ls' hm)⟩
theorem Own.push {w W : World} {bs : List Az} {T : TypeId} {ls : List Leaf} {cs : List Value} (h : Own w bs W) (hv : jf W ls cs) (b : Nat) (hb : b = W.heap.size) : Own w ((b, T, ls) :: bs) (W.alloc (.cells cs.toArray T)) := by
 subst hb
 exact h.add ((Below.refl _ _).alloc (Nat.le_refl _) _) (Nat.le_refl _) ⟨cs, heap_alloc_new W _, hv.below ((Below.refl _ _).alloc (Nat.le_refl _) _)⟩
theorem Own.other {w W : World} {bs : List Az} (o : Obj) (h : Own w bs W) : Own w bs (W.alloc o) := Own.step _ _ h ((Below.refl _ _).alloc (Nat.le_refl _) _)
def setM (W : World) (b off : Nat) : List Value → World
 | [] => W
 | u :: r => setM (W.setCell ⟨b, off, none⟩ u) b (off + 1) r
theorem Cv (b : Nat) : ∀ (us : List Value) (off : Nat) (W W' : World), W.grownBy W' (some b) → W.grownBy (setM W' b off us) (some b)
 | [], _, _, _, h => h
 | u :: r, off, W, W', h => Cv b r (off + 1) W _ (qm h off u)
theorem anp {W : World} {b off : Nat} {u : Value} {T : TypeId} {cs : Array Value} (h : W.heap[b]? = some (.cells cs T (0, 0))) : (W.setCell ⟨b, off, none⟩ u).heap[b]? = some (.cells (cs.setIfInBounds off u) T (0, 0)) := by
 simp [World.setCell, Array.getElem?_modify, h]
theorem set_mid (c : List Value) (x u : Value) (d : List Value) : ((c ++ x :: d).toArray.setIfInBounds c.length u) = (c ++ u :: d).toArray := by
 simp
theorem Sa {b : Nat} {T : TypeId} : ∀ (us old : List Value) (c d : List Value) (W : World), us.length = old.length → W.heap[b]? = some (.cells (c ++ (old ++ d)).toArray T (0, 0)) → (setM W b c.length us).heap[b]? = some (.cells (c ++ (us ++ d)).toArray T (0, 0))
 | [], [], c, d, W, _, h => h
 | u :: us, o :: old, c, d, W, hl, h => by
  have h1 := anp (off := c.length) (u := u) h
  rw [List.cons_append, set_mid] at h1
  have h2 := Sa us old (c ++ [u]) d _ (by simpa using hl) (by simpa using h1)
  simpa [setM] using h2
 | [], _ :: _, _, _, _, hl, _ => by simp at hl
 | _ :: _, [], _, _, _, hl, _ => by simp at hl
theorem Own.set {w W : World} {xs ys : List Az} {b : Nat} {T : TypeId} {pre old new post : List Leaf} {us : List Value} {off : Nat} (h : Own w (xs ++ (b, T, pre ++ (old ++ post)) :: ys) W) (hv : jf W new us) (hl : lsize new = lsize old) (ho : off = lsize pre) :
  Own w (xs ++ (b, T, pre ++ (new ++ post)) :: ys) (setM W b off us) := by
 obtain ⟨hge, cs, hb, hls⟩ := h.box b T _ (List.mem_append_right _ List.mem_cons_self)
 obtain ⟨c, cd, rfl, k1, k2⟩ := hls.cut
 obtain ⟨o, d, rfl, k3, k4⟩ := k2.cut
 have hg := Cv b us off W W (yu _ _)
 have hnw : Mv (c ++ (o ++ d)) := hls.noW
 have hnd := h.nd
 rw [List.map_append, List.map_cons] at hnd
 have hn : ∀ b' T' q', (b', T', q') ∈ xs ++ ys → b' ≠ b := fun b' T' q' hm e => by
  subst e
  obtain ⟨_, h4, h5⟩ := List.nodup_append.1 hnd
  rcases List.mem_append.1 hm with hm | hm
  ·
   exact h5 b' (List.mem_map.2 ⟨_, hm, rfl⟩) b' List.mem_cons_self rfl
  ·
   exact (List.nodup_cons.1 h4).1 (List.mem_map.2 ⟨_, hm, rfl⟩)
 refine ⟨h.bel.grown hg h.bel.size (fun k hk => by injection hk with hk; omega), by rw [List.map_append, List.map_cons]; exact hnd, fun b' T' q' hm => ?_⟩
 have other : (b', T', q') ∈ xs ++ ys → (b', T', q') ∈ xs ++ (b, T, pre ++ (old ++ post)) :: ys → w.heap.size ≤ b' ∧ Cm (setM W b off us) b' T' q' := fun h1 h2 => by
  obtain ⟨g1, cs', g2, g3⟩ := h.box b' T' q' h2
  exact ⟨g1, cs', (hg.block b' (lt_of_block g2) (fun e => hn _ _ _ h1 (by injection e))).trans g2, g3.upto hb hnw hg⟩
 rcases List.mem_append.1 hm with hm | hm
 ·
  exact other (List.mem_append_left _ hm) (List.mem_append_left _ hm)
 ·
  rcases List.mem_cons.1 hm with e | hm
  ·
   cases e
   refine ⟨hge, c ++ (us ++ d), ?_, (((k4.upto hb hnw hg).app (hv.upto hb hnw hg)).app (k1.upto hb hnw hg))⟩
   have := Sa (T := T) us o c d W (by rw [hv.len, hl, ← k3.len]) hb
   rwa [k1.len, ← ho] at this
  ·
   exact other (List.mem_append_right _ hm) (List.mem_append_right _ (List.mem_cons_of_mem _ hm))
theorem azr {W : World} {b off : Nat} {T : TypeId} {ls ks : List Leaf} {us : List Value} {v : Value} (h : Cm W b T ls) (hv : bg ks W v) : bg ks (setM W b off us) v := by
 obtain ⟨cs, h1, h2⟩ := h
 obtain ⟨ds, e, h3⟩ := hv
 exact ⟨ds, e, h3.upto h1 h2.noW (Cv b us off W W (yu _ _))⟩
def dw (w : World) (bs : List Az) (V : World) : World → Prop := fun W => Own w bs W ∧ jb V W
theorem dw.step {w V : World} {bs : List Az} : ∀ W W', dw w bs V W → jb W W' → dw w bs V W' := fun W W' h hb => ⟨Own.step W W' h.1 hb, ek h.2 hb⟩
theorem dw.size {w V : World} {bs : List Az} : ∀ W, dw w bs V W → V.heap.size ≤ W.heap.size := fun _ h => h.2.size
theorem dw.start {w V : World} {bs : List Az} (h : Own w bs V) : dw w bs V V.drew := ⟨Own.step _ _ h (jb.drew V), jb.drew V⟩
theorem dw.begin {w V : World} {bs : List Az} (h : Own w bs V) : dw w bs V V := ⟨h, Below.refl _ _⟩
theorem dw.box {w V W : World} {bs : List Az} {b : Nat} {T : TypeId} {ls : List Leaf} (hm : (b, T, ls) ∈ bs) (h : dw w bs V W) : Cm W b T ls := (h.1.box b T ls hm).2
theorem dw.bel {w V W : World} {bs : List Az} (h : dw w bs V W) : Below w.heap.size w W := h.1.bel

def Ki (P : Program) (T : TypeId) (n : Nat) : Prop := ∀ (ρ : Operand → Value) (w : World) (d : Option Tmp) (x : Operand) (b off : Nat) (us : List Value) (ty : TypeId) (pos : String) (af : Array Edge) (gd : Option (Nat × Bool)), us.length = n → (∀ i, i < n → w.cell? ⟨b, off + i, none⟩ = us[i]?) → ρ x = .pointer (some ⟨b, off, none⟩) →
 (execOp ρ { dst := d, op := .load T x, type := ty, pos := pos, after := af, guard := gd }).run P w = .ok (.value (.agg us.toArray)) w
theorem ada {w : World} {b : Nat} {T : TypeId} {c m d : List Value} (h : w.heap[b]? = some (.cells (c ++ (m ++ d)).toArray T (0, 0))) (i : Nat) (hi : i < m.length) : w.cell? ⟨b, c.length + i, none⟩ = m[i]? := by
 rw [ae h]
 simp only [List.getElem?_toArray]
 rw [List.getElem?_append_right om, Nat.add_sub_cancel_left, List.getElem?_append_left hi]
theorem vw {P : Program} {Q : Exit → Act → World → Prop} {l : List Oper} {n : Nat} {T : Nat → World → Value → Prop} {G : World → Prop} {al : List Nat} {a0 : Act} {k d b off m : Nat} {x : Operand} {TB TL : TypeId} {pre mid post : List Leaf} {ty : TypeId} {pos : String} {af : Array Edge} {gd : Option (Nat × Bool)}
  (hL : Ki P TL m) (hal : al.contains k = false) (hx : Rg.ni l n T a0 k x (Rg.cz (.pointer (some ⟨b, off, none⟩)))) (hb : ∀ W, G W → Cm W b TB (pre ++ (mid ++ post))) (ho : lsize pre = off) (hm : lsize mid = m) (hT : T k = bg mid) :
  Rg.Step P Q l n T G jb al a0 k { dst := some d, op := .load TL x, type := ty, pos := pos, after := af, guard := gd } := by
 intro a w hG hO hN
 obtain ⟨cs, h1, h2⟩ := hb w hG
 obtain ⟨c, cd, rfl, k1, k2⟩ := h2.cut
 obtain ⟨o, e, rfl, k3, k4⟩ := k2.cut
 have hlen : o.length = m := by rw [k3.len, hm]
 have hr := hL a.eval w (some d) x b off o ty pos af gd hlen (fun i hi => by
  have := ada h1 i om
  rwa [k1.len, ho] at this) (hx a w hO hN)
 exact uh hr ⟨_, rfl, hG, Below.refl _ _, by rw [hT]; exact ⟨o, rfl, k3⟩, fun h => by rw [hal] at h; cases h⟩
def Fv (P : Program) (T : TypeId) (n : Nat) : Prop := ∀ (ρ : Operand → Value) (w : World) (d : Option Tmp) (p x : Operand) (b off : Nat) (cs : List Value) (TB : TypeId) (us : List Value) (ty : TypeId) (pos : String) (af : Array Edge) (gd : Option (Nat × Bool)), us.length = n → (∀ u ∈ us, u.oneCell' = true) → w.heap[b]? = some (.cells cs.toArray TB (0, 0)) → off + n ≤ cs.length → ρ p = .pointer (some ⟨b, off, none⟩) → ρ x = .agg us.toArray →
 (execOp ρ { dst := d, op := .store T p x, type := ty, pos := pos, after := af, guard := gd }).run P w = .ok .skip (setM w b off us)
end Sb

end Go.Proofs.YtfbcdfoohpkfeaaGreatDoor
