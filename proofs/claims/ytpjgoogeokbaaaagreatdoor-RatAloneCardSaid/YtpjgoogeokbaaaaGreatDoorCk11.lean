/- Texts beneath a law of layer 1. -/
import Derived.Test.YtpjgoogeokbaaaaGreatDoorCk10
set_option maxRecDepth 100000
namespace Go.Proofs.YtpjgoogeokbaaaaGreatDoor
open Go.RowKit

structure eu (Wp W : World) (b : Nat) : Prop where
 old : Wp.heap.size ≤ b
 zero : W.heap[b]? = some (.cells #[.slice none 0 0, .bool false] 50 (0, 0))
theorem eu.lt {Wp W : World} {b : Nat} (h : eu Wp W b) : b < W.heap.size := lt_of_block h.zero
theorem eu.drew {Wp W : World} {b : Nat} (h : eu Wp W b) : eu Wp W.drew b := ⟨h.old, h.zero⟩
theorem eu.below {Wp W w' : World} {b : Nat} (h : eu Wp W b) (hb : Below W.heap.size W w') : eu Wp w' b := ⟨h.old, (hb.block _ h.lt).trans h.zero⟩
theorem eu.new {Wp W : World} {b : Nat} (hb : Below Wp.heap.size Wp W) (e : b = W.heap.size) : eu Wp (W.alloc (.cells #[.slice none 0 0, .bool false] 50 (0, 0))) b := by
 subst e; exact ⟨hb.size, heap_alloc_new W _⟩
theorem eu.alloc {Wp W : World} {b : Nat} {o : Obj} (h : eu Wp W b) : eu Wp (W.alloc o) b := ⟨h.old, (Below.heap_alloc W _ b h.lt).trans h.zero⟩
structure Ig (Wp W : World) (b c : Nat) : Prop where
 one : eu Wp W b
 two : eu Wp W c
 ne : b ≠ c
theorem Ig.Sq {Wp W : World} {b c : Nat} (h : eu Wp W b) (e : c = W.heap.size) : Ig Wp (W.alloc (.cells #[.slice none 0 0, .bool false] 50 (0, 0))) b c := by
 have hl := h.lt
 have ho := h.old
 subst e
 exact ⟨h.alloc, ⟨by omega, heap_alloc_new W _⟩, by omega⟩
theorem Ig.Sr {Wp W : World} {b c : Nat} (h : eu Wp W c) (e : b = W.heap.size) : Ig Wp (W.alloc (.cells #[.slice none 0 0, .bool false] 50 (0, 0))) b c := by
 have hl := h.lt
 have ho := h.old
 subst e
 exact ⟨⟨by omega, heap_alloc_new W _⟩, h.alloc, by omega⟩
theorem xx.new {W : World} {b : Nat} {A1 : Option Addr} {c1 : Nat} {l1 : List Nat} {m1 : Bool} {z1 : Int} (h1 : bg W A1 c1 l1 m1 z1) (e : b = W.heap.size) : xx (W.alloc (.cells #[.slice A1 l1.length c1, .bool m1] 50)) b z1 := by
 subst e; exact ⟨A1, c1, l1, m1, heap_alloc_new W _, h1.below ((Below.refl _ _).alloc (Nat.le_refl _) _)⟩
theorem xx.alloc {W : World} {b : Nat} {z : Int} {o : Obj} (h : xx W b z) : xx (W.alloc o) b z := h.below ((Below.refl _ _).alloc (Nat.le_refl _) _)
theorem bg.alloc {W : World} {o : Obj} {A1 : Option Addr} {c1 : Nat} {l1 : List Nat} {m1 : Bool} {z1 : Int} (h1 : bg W A1 c1 l1 m1 z1) : bg (W.alloc o) A1 c1 l1 m1 z1 := h1.below ((Below.refl _ _).alloc (Nat.le_refl _) _)
theorem eu.facts {Wp W : World} {b : Nat} (h : eu Wp W b) : (W.cell? ⟨b, 0, none⟩ = some (.slice none 0 0) ∧ W.cell? ⟨b, 1, none⟩ = some (.bool false)) ∧
  (W.frozen? ⟨b, 0, none⟩ = false ∧ W.frozen? ⟨b, 1, none⟩ = false) ∧
  ((∀ o, (W.alloc o).cell? ⟨b, 0, none⟩ = some (.slice none 0 0)) ∧ (∀ o, (W.alloc o).cell? ⟨b, 1, none⟩ = some (.bool false))) ∧
  ((∀ o, (W.alloc o).frozen? ⟨b, 0, none⟩ = false) ∧ (∀ o, (W.alloc o).frozen? ⟨b, 1, none⟩ = false)) ∧
  ¬ (b = W.heap.size) ∧ ¬ (W.heap.size = b) :=
 ⟨⟨ag h.zero 0, ag h.zero 1⟩, ⟨ah h.zero 0, ah h.zero 1⟩,
  ⟨fun o => ag (h.alloc (o := o)).zero 0, fun o => ag (h.alloc (o := o)).zero 1⟩,
  ⟨fun o => ah (h.alloc (o := o)).zero 0, fun o => ah (h.alloc (o := o)).zero 1⟩, by have := h.lt; omega, by have := h.lt; omega⟩
theorem agc {Wp W : World} {b : Nat} {A1 : Option Addr} {c1 : Nat} {l1 : List Nat} {m1 : Bool} {z1 : Int} (hf : eu Wp W b) (h1 : bg W A1 c1 l1 m1 z1) (hb : Below Wp.heap.size Wp W) :
  xx ((W.setCell ⟨b, 0, none⟩ (.slice A1 l1.length c1)).setCell ⟨b, 1, none⟩ (.bool m1)) b z1 ∧ Below Wp.heap.size Wp ((W.setCell ⟨b, 0, none⟩ (.slice A1 l1.length c1)).setCell ⟨b, 1, none⟩ (.bool m1)) ∧ Wp.heap.size ≤ b :=
 ⟨⟨A1, c1, l1, m1, Ea hf.zero, h1.upto hf.zero (Ck _ _ _ _) (fq _ _ _ _)⟩, hb.grown (fq _ _ _ _) hb.size (fun k hk => by injection hk with hk; have := hf.old; omega), hf.old⟩
theorem zz {Wp W : World} {b c : Nat} {A1 : Option Addr} {c1 : Nat} {l1 : List Nat} {m1 : Bool} {z1 : Int} {A2 : Option Addr} {c2 : Nat} {l2 : List Nat} {m2 : Bool} {z2 : Int} (hf : Ig Wp W b c) (h1 : bg W A1 c1 l1 m1 z1) (h2 : bg W A2 c2 l2 m2 z2) (hb : Below Wp.heap.size Wp W) :
  xx ((((W.setCell ⟨b, 0, none⟩ (.slice A1 l1.length c1)).setCell ⟨b, 1, none⟩ (.bool m1)).setCell ⟨c, 0, none⟩ (.slice A2 l2.length c2)).setCell ⟨c, 1, none⟩ (.bool m2)) b z1 ∧ xx ((((W.setCell ⟨b, 0, none⟩ (.slice A1 l1.length c1)).setCell ⟨b, 1, none⟩ (.bool m1)).setCell ⟨c, 0, none⟩ (.slice A2 l2.length c2)).setCell ⟨c, 1, none⟩ (.bool m2)) c z2 ∧ Below Wp.heap.size Wp ((((W.setCell ⟨b, 0, none⟩ (.slice A1 l1.length c1)).setCell ⟨b, 1, none⟩ (.bool m1)).setCell ⟨c, 0, none⟩ (.slice A2 l2.length c2)).setCell ⟨c, 1, none⟩ (.bool m2)) ∧ Wp.heap.size ≤ b ∧ Wp.heap.size ≤ c := by
 have g1 := fq W b (.slice A1 l1.length c1) (.bool m1)
 have k2 := h2.upto hf.one.zero (Ck _ _ _ _) g1
 have kc := (g1.block c hf.two.lt (fun e => hf.ne (by injection e with e; exact e.symm))).trans hf.two.zero
 have kb := (agc hf.one h1 hb)
 have ks := kb.2.1.size
 obtain ⟨⟨A, cap, l, m, e1, e2⟩, kb2, _⟩ := kb
 have g2 := fq ((W.setCell ⟨b, 0, none⟩ (.slice A1 l1.length c1)).setCell ⟨b, 1, none⟩ (.bool m1)) c (.slice A2 l2.length c2) (.bool m2)
 exact ⟨⟨A, cap, l, m, (g2.block b (lt_of_block e1) (fun e => hf.ne (by injection e))).trans e1, e2.upto kc (Ck _ _ _ _) g2⟩,
  ⟨A2, c2, l2, m2, Ea kc, k2.upto kc (Ck _ _ _ _) g2⟩, kb2.grown g2 ks (fun k hk => by injection hk with hk; have := hf.two.old; omega), hf.one.old, hf.two.old⟩
theorem Le {Wp W : World} {b c : Nat} {A1 : Option Addr} {c1 : Nat} {l1 : List Nat} {m1 : Bool} {z1 : Int} {A2 : Option Addr} {c2 : Nat} {l2 : List Nat} {m2 : Bool} {z2 : Int} (h1 : bg W A1 c1 l1 m1 z1) (h2 : bg W A2 c2 l2 m2 z2) (hb : Below Wp.heap.size Wp W) (eb : b = W.heap.size) (ec : c = W.heap.size + 1) :
  xx ((W.alloc (.cells #[.slice A1 l1.length c1, .bool m1] 50)).alloc (.cells #[.slice A2 l2.length c2, .bool m2] 50)) b z1 ∧ xx ((W.alloc (.cells #[.slice A1 l1.length c1, .bool m1] 50)).alloc (.cells #[.slice A2 l2.length c2, .bool m2] 50)) c z2 ∧ Below Wp.heap.size Wp ((W.alloc (.cells #[.slice A1 l1.length c1, .bool m1] 50)).alloc (.cells #[.slice A2 l2.length c2, .bool m2] 50)) ∧ Wp.heap.size ≤ b ∧ Wp.heap.size ≤ c :=
 ⟨(xx.new h1 eb).alloc, xx.new h2.alloc (by rw [ec, World.size_alloc]), (hb.alloc hb.size _).alloc (hb.alloc hb.size _).size _, by have := hb.size; omega, by have := hb.size; omega⟩
theorem Np {Wp W : World} {b c : Nat} {A1 : Option Addr} {c1 : Nat} {l1 : List Nat} {m1 : Bool} {z1 : Int} {A2 : Option Addr} {c2 : Nat} {l2 : List Nat} {m2 : Bool} {z2 : Int} (h1 : bg W A1 c1 l1 m1 z1) (h2 : bg W A2 c2 l2 m2 z2) (hb : Below Wp.heap.size Wp W) (ec : c = W.heap.size) (eb : b = W.heap.size + 1) :
  xx ((W.alloc (.cells #[.slice A2 l2.length c2, .bool m2] 50)).alloc (.cells #[.slice A1 l1.length c1, .bool m1] 50)) b z1 ∧ xx ((W.alloc (.cells #[.slice A2 l2.length c2, .bool m2] 50)).alloc (.cells #[.slice A1 l1.length c1, .bool m1] 50)) c z2 ∧ Below Wp.heap.size Wp ((W.alloc (.cells #[.slice A2 l2.length c2, .bool m2] 50)).alloc (.cells #[.slice A1 l1.length c1, .bool m1] 50)) ∧ Wp.heap.size ≤ b ∧ Wp.heap.size ≤ c := by
 obtain ⟨x1, x2, x3, x4, x5⟩ := Le h2 h1 hb ec eb
 exact ⟨x2, x1, x3, x5, x4⟩
theorem Nn {Wp W : World} {b c : Nat} {A1 : Option Addr} {c1 : Nat} {l1 : List Nat} {m1 : Bool} {z1 : Int} {A2 : Option Addr} {c2 : Nat} {l2 : List Nat} {m2 : Bool} {z2 : Int} (hf : eu Wp W c) (h1 : bg W A1 c1 l1 m1 z1) (h2 : bg W A2 c2 l2 m2 z2) (hb : Below Wp.heap.size Wp W) (eb : b = W.heap.size) :
  xx (((W.alloc (.cells #[.slice A1 l1.length c1, .bool m1] 50)).setCell ⟨c, 0, none⟩ (.slice A2 l2.length c2)).setCell ⟨c, 1, none⟩ (.bool m2)) b z1 ∧ xx (((W.alloc (.cells #[.slice A1 l1.length c1, .bool m1] 50)).setCell ⟨c, 0, none⟩ (.slice A2 l2.length c2)).setCell ⟨c, 1, none⟩ (.bool m2)) c z2 ∧ Below Wp.heap.size Wp (((W.alloc (.cells #[.slice A1 l1.length c1, .bool m1] 50)).setCell ⟨c, 0, none⟩ (.slice A2 l2.length c2)).setCell ⟨c, 1, none⟩ (.bool m2)) ∧ Wp.heap.size ≤ b ∧ Wp.heap.size ≤ c := by
 have hl := hf.lt
 have hx := agc hf.alloc h2.alloc (hb.alloc hb.size (.cells #[.slice A1 l1.length c1, .bool m1] 50))
 have hn := (xx.new h1 eb)
 obtain ⟨A, cap, l, m, e1, e2⟩ := hn
 have g2 := fq (W.alloc (.cells #[.slice A1 l1.length c1, .bool m1] 50)) c (.slice A2 l2.length c2) (.bool m2)
 exact ⟨⟨A, cap, l, m, (g2.block b (lt_of_block e1) (fun e => by injection e with e; omega)).trans e1, e2.upto (hf.alloc (o := _)).zero (Ck _ _ _ _) g2⟩, hx.1, hx.2.1, by have := hb.size; omega, hx.2.2⟩
def Gz (w : World) (F : Nat) (a b c : Int) : Prop := ∀ (A1 : Option Addr) (c1 : Nat) (l1 : List Nat) (m1 : Bool) (A2 : Option Addr) (c2 : Nat) (l2 : List Nat) (m2 : Bool) (W : World), Below w.heap.size w W → bg W A1 c1 l1 m1 a → bg W A2 c2 l2 m2 b → Calls Tryz.prog F #[(Value.agg #[.slice A1 l1.length c1, .bool m1]), (Value.agg #[.slice A2 l2.length c2, .bool m2])] W fun e w' => uq W c e w'
def adx (w : World) (F : Nat) (a b : Int) (q : Rat) : Prop := ∀ (A1 : Option Addr) (c1 : Nat) (l1 : List Nat) (m1 : Bool) (A2 : Option Addr) (c2 : Nat) (l2 : List Nat) (m2 : Bool) (W : World), Below w.heap.size w W → bg W A1 c1 l1 m1 a → bg W A2 c2 l2 m2 b → Calls Tryz.prog F #[(Value.agg #[.slice A1 l1.length c1, .bool m1]), (Value.agg #[.slice A2 l2.length c2, .bool m2])] W fun e w' => QR W q e w'
theorem fu {w : World} {g : Nat} (u0 u1 u2 u3 : Value) (b o : Nat) (h : b ≠ g) : ((((w.setCell ⟨g, 0, none⟩ u0).setCell ⟨g, 1, none⟩ u1).setCell ⟨g, 2, none⟩ u2).setCell ⟨g, 3, none⟩ u3).cell? ⟨b, o, none⟩ = w.cell? ⟨b, o, none⟩ := by
 rw [Cx _ _ _ _ h, Cx _ _ _ _ h, Cx _ _ _ _ h, Cx _ _ _ _ h]

end Go.Proofs.YtpjgoogeokbaaaaGreatDoor
namespace Go.Proofs.YtpjgoogeokbaaaaGreatDoor
open Go.RowKit

set_option maxHeartbeats 16000000 in
theorem bgl (A1 : Option Addr) (c1 : Nat) (l1 : List Nat) (m1 : Bool) (A2 : Option Addr) (c2 : Nat) (l2 : List Nat) (m2 : Bool) (A3 : Option Addr) (c3 : Nat) (l3 : List Nat) (m3 : Bool) (A4 : Option Addr) (c4 : Nat) (l4 : List Nat) (m4 : Bool) (z1 b1 z3 b3 n : Int) (q : Rat) (w : World) (f1 : bg w A1 c1 l1 m1 z1) (f3 : bg w A3 c3 l3 m3 z3)
  (hd1 : ∀ W, Below w.heap.size w W → Calls Tryz.prog 95 #[(Value.agg #[.slice A1 l1.length c1, .bool m1, .slice A2 l2.length c2, .bool m2])] W fun e w' => uq W b1 e w') (hd3 : ∀ W, Below w.heap.size w W → Calls Tryz.prog 95 #[(Value.agg #[.slice A3 l3.length c3, .bool m3, .slice A4 l4.length c4, .bool m4])] W fun e w' => uq W b3 e w')
  (ho1 : ∀ (A7 : Option Addr) (c7 : Nat) (l7 : List Nat) (m7 : Bool) (W : World), Below w.heap.size w W → bg W A7 c7 l7 m7 b1 → Calls Tryz.prog 96 #[(Value.agg #[.slice A7 l7.length c7, .bool m7])] W fun e w' => e = .returned (.bool true) ∧ Below W.heap.size W w') (ho3 : ∀ (A7 : Option Addr) (c7 : Nat) (l7 : List Nat) (m7 : Bool) (W : World), Below w.heap.size w W → bg W A7 c7 l7 m7 b3 → Calls Tryz.prog 96 #[(Value.agg #[.slice A7 l7.length c7, .bool m7])] W fun e w' => e = .returned (.bool true) ∧ Below W.heap.size W w') (hn : Gz w 97 z1 z3 n) (Dp : n = q.num) (hden : b1 = (q.den : Int)) :
  Calls Tryz.prog 43 #[(Value.agg #[.slice A1 l1.length c1, .bool m1, .slice A2 l2.length c2, .bool m2]), (Value.agg #[.slice A3 l3.length c3, .bool m3, .slice A4 l4.length c4, .bool m4])] w fun e w' => QR w q e w' := by
 have H1 := hide f1
 have H3 := hide f3
 clear f1 f3
 have HD1 := hide hd1
 have HD3 := hide hd3
 have Gf := hide ho1
 have HO3 := hide ho3
 have HN := hide hn
 clear hd1 hd3 ho1 ho3 hn
 go_enter Tryz.func43, Tryz.ntmps43
 go_upto_region 1 with fail
 obtain ⟨n0, n1, n2, hsz, hw0⟩ := ll w (.cells #[.slice A1 l1.length c1, .bool m1, .slice A2 l2.length c2, .bool m2] 52) (.cells #[.slice A3 l3.length c3, .bool m3, .slice A4 l4.length c4, .bool m4] 52) (.cells #[.slice none 0 0, .bool false, .slice none 0 0, .bool false] 52)
 generalize (((w.alloc (.cells #[.slice A1 l1.length c1, .bool m1, .slice A2 l2.length c2, .bool m2] 52)).alloc (.cells #[.slice A3 l3.length c3, .bool m3, .slice A4 l4.length c4, .bool m4] 52)).alloc (.cells #[.slice none 0 0, .bool false, .slice none 0 0, .bool false] 52)) = W0 at *
 have jl : W0.cell? ⟨w.heap.size, 0, none⟩ = some (.slice A1 l1.length c1) := ag n0 0
 have jk : W0.cell? ⟨w.heap.size, 1, none⟩ = some (.bool m1) := ag n0 1
 have jy : W0.cell? ⟨w.heap.size, 2, none⟩ = some (.slice A2 l2.length c2) := ag n0 2
 have ky : W0.cell? ⟨w.heap.size, 3, none⟩ = some (.bool m2) := ag n0 3
 have q0 : w.heap.size < W0.heap.size := by omega
 have jq : W0.cell? ⟨w.heap.size + 1, 0, none⟩ = some (.slice A3 l3.length c3) := ag n1 0
 have jo : W0.cell? ⟨w.heap.size + 1, 1, none⟩ = some (.bool m3) := ag n1 1
 have lh : W0.cell? ⟨w.heap.size + 1, 2, none⟩ = some (.slice A4 l4.length c4) := ag n1 2
 have lv : W0.cell? ⟨w.heap.size + 1, 3, none⟩ = some (.bool m4) := ag n1 3
 have q1 : w.heap.size + 1 < W0.heap.size := by omega
 have qw : W0.cell? ⟨w.heap.size + 1 + 1, 0, none⟩ = some (.slice none 0 0) := ag n2 0
 have qo : W0.cell? ⟨w.heap.size + 1 + 1, 1, none⟩ = some (.bool false) := ag n2 1
 have qm : W0.cell? ⟨w.heap.size + 1 + 1, 2, none⟩ = some (.slice none 0 0) := ag n2 2
 have qj : W0.cell? ⟨w.heap.size + 1 + 1, 3, none⟩ = some (.bool false) := ag n2 3
 have q2 : w.heap.size + 1 + 1 < W0.heap.size := by omega
 have uj := ah n2 0
 have ui := ah n2 1
 have uh := ah n2 2
 have ug := ah n2 3
 have NR := Lib.hid n2
 clear hsz n0 n1 n2
 replace H1 := hide ((aa H1).below hw0)
 replace H3 := hide ((aa H3).below hw0)
 go_upto_region 1 with fail
 go_cut [5, 6] (fun Me Ra wx => ∃ b5 b6 : Nat, Me = .pointer (some ⟨b5, 0, none⟩) ∧ Ra = .pointer (some ⟨b6, 0, none⟩) ∧ xx wx b5 b1 ∧ xx wx b6 b3 ∧ Below W0.heap.size W0 wx ∧ W0.heap.size ≤ b5 ∧ W0.heap.size ≤ b6)
 case first =>
  have KEEP := hide (show ∀ X, Below W0.heap.size W0 X → X.cell? ⟨w.heap.size, 0, none⟩ = some (.slice A1 l1.length c1) ∧ X.cell? ⟨w.heap.size, 1, none⟩ = some (.bool m1) ∧ X.cell? ⟨w.heap.size, 2, none⟩ = some (.slice A2 l2.length c2) ∧ X.cell? ⟨w.heap.size, 3, none⟩ = some (.bool m2) ∧ X.cell? ⟨w.heap.size + 1, 0, none⟩ = some (.slice A3 l3.length c3) ∧ X.cell? ⟨w.heap.size + 1, 1, none⟩ = some (.bool m3) ∧ X.cell? ⟨w.heap.size + 1, 2, none⟩ = some (.slice A4 l4.length c4) ∧ X.cell? ⟨w.heap.size + 1, 3, none⟩ = some (.bool m4) from fun X hB => ⟨ai hB q0 jl, ai hB q0 jk, ai hB q0 jy, ai hB q0 ky, ai hB q1 jq, ai hB q1 jo, ai hB q1 lh, ai hB q1 lv⟩)
  go_region_held3 (fun w' => w'.cell? ⟨w.heap.size, 0, none⟩ = some (.slice A1 l1.length c1) ∧ w'.cell? ⟨w.heap.size, 1, none⟩ = some (.bool m1) ∧ w'.cell? ⟨w.heap.size, 2, none⟩ = some (.slice A2 l2.length c2) ∧ w'.cell? ⟨w.heap.size, 3, none⟩ = some (.bool m2) ∧ w'.cell? ⟨w.heap.size + 1, 0, none⟩ = some (.slice A3 l3.length c3) ∧ w'.cell? ⟨w.heap.size + 1, 1, none⟩ = some (.bool m3) ∧ w'.cell? ⟨w.heap.size + 1, 2, none⟩ = some (.slice A4 l4.length c4) ∧ w'.cell? ⟨w.heap.size + 1, 3, none⟩ = some (.bool m4)) (exact (aa KEEP) _ (by (repeat (first | with_reducible exact Below.refl _ _ | with_reducible assumption | with_reducible refine Below.drew ?_ | with_reducible refine je ?_ _ | (with_reducible refine Eg ?_ ?_ _ _; rotate_left; (first | omega | (simp <;> omega))))))) (first | (go_at_call_of 95 (Value.agg #[.slice A1 l1.length c1, .bool m1, .slice A2 l2.length c2, .bool m2]); refine ((aa HD1) _ (au hw0 bel)).mono ?_; rintro e w' ⟨A5, c5, l5, m5, rfl, kz, hb5⟩; have hbw := ay (w := W0) bel hb5; have hsw := hbw.size; obtain ⟨hc, hfz⟩ := az hbw; (try ((first | have zn : eu W0 w' _ := eu.below (eu.new bel rfl) hb5 | have zn : eu W0 w' _ := eu.below (eu.drew (eu.new bel rfl)) hb5); (try simp only [World.size_alloc] at zn); (try dsimp only [World.drew] at zn); (try simp only [World.size_alloc] at zn); obtain ⟨⟨ahr, ahq⟩, ⟨ahp, aho⟩, ⟨ahn, ahm⟩, ⟨ahl, ahk⟩, ahj, Yu⟩ := eu.facts zn)); (try ((first | have zm : eu W0 w' _ := eu.below (eu.alloc (eu.new bel rfl)) hb5 | have zm : eu W0 w' _ := eu.below (eu.drew (eu.alloc (eu.new bel rfl))) hb5); (try simp only [World.size_alloc] at zm); (try dsimp only [World.drew] at zm); (try simp only [World.size_alloc] at zm); obtain ⟨⟨ahi, ahh⟩, ⟨ahg, ahf⟩, ⟨ahe, ahd⟩, ⟨ahc, ahb⟩, aha, Yr⟩ := eu.facts zm))) | (go_at_call_of 95 (Value.agg #[.slice A3 l3.length c3, .bool m3, .slice A4 l4.length c4, .bool m4]); refine ((aa HD3) _ (au hw0 bel)).mono ?_; rintro e w' ⟨A6, c6, l6, m6, rfl, og, hb6⟩; have kz := bg.below (bg.below kz bel) hb6; have hbw := ay (w := W0) bel hb6; have hsw := hbw.size; obtain ⟨hc, hfz⟩ := az hbw; (try ((first | have Bt : eu W0 w' _ := eu.below (eu.new bel rfl) hb6 | have Bt : eu W0 w' _ := eu.below (eu.drew (eu.new bel rfl)) hb6); (try simp only [World.size_alloc] at Bt); (try dsimp only [World.drew] at Bt); (try simp only [World.size_alloc] at Bt); obtain ⟨⟨acp, aco⟩, ⟨acn, acm⟩, ⟨ack, acj⟩, ⟨aci, ach⟩, acg, Vh⟩ := eu.facts Bt)); (try ((first | have Bo : eu W0 w' _ := eu.below (eu.alloc (eu.new bel rfl)) hb6 | have Bo : eu W0 w' _ := eu.below (eu.drew (eu.alloc (eu.new bel rfl))) hb6); (try simp only [World.size_alloc] at Bo); (try dsimp only [World.drew] at Bo); (try simp only [World.size_alloc] at Bo); obtain ⟨⟨acf, ace⟩, ⟨acd, acb⟩, ⟨aca, abz⟩, ⟨aby, abx⟩, abw, Vg⟩ := eu.facts Bo)); (try ((first | have Cb : eu W0 w' _ := eu.below zn hb6 | have Cb : eu W0 w' _ := eu.below (eu.alloc zn) hb6 | have Cb : eu W0 w' _ := eu.below (eu.alloc (eu.alloc zn)) hb6); (try simp only [World.size_alloc] at Cb); (try dsimp only [World.drew] at Cb); (try simp only [World.size_alloc] at Cb); obtain ⟨⟨agz, agy⟩, ⟨agx, agw⟩, ⟨agv, agu⟩, ⟨agt, ags⟩, agr, Yq⟩ := eu.facts Cb)); (try ((first | have Ca : eu W0 w' _ := eu.below zm hb6 | have Ca : eu W0 w' _ := eu.below (eu.alloc zm) hb6 | have Ca : eu W0 w' _ := eu.below (eu.alloc (eu.alloc zm)) hb6); (try simp only [World.size_alloc] at Ca); (try dsimp only [World.drew] at Ca); (try simp only [World.size_alloc] at Ca); obtain ⟨⟨agq, agp⟩, ⟨agn, agm⟩, ⟨agl, agk⟩, ⟨agj, agi⟩, agh, Yp⟩ := eu.facts Ca))))
  all_goals (go_wp2_with fail; go_meet; refine ⟨_, _, rfl, rfl, ?_⟩; first | with_reducible exact zz ⟨by assumption, by assumption, by first | assumption | omega⟩ kz og hbw | with_reducible exact zz (Ig.Sq (by assumption) rfl) kz.alloc og.alloc (je hbw _) | with_reducible exact zz (Ig.Sr (by assumption) rfl) kz.alloc og.alloc (je hbw _) | with_reducible exact Le kz og hbw rfl rfl | with_reducible exact Np kz og hbw rfl rfl | with_reducible exact Nn (by assumption) kz og hbw rfl)
 case rest =>
  revert hcut
  generalize wc = W1
  intro hcut
  obtain ⟨b5, b6, rfl, rfl, B5, B6, hbx, Hd, Jz⟩ := hcut
  obtain ⟨hc, hfz⟩ := az hbx
  replace jl := (hc _ _ q0).trans jl
  replace jk := (hc _ _ q0).trans jk
  replace jy := (hc _ _ q0).trans jy
  replace ky := (hc _ _ q0).trans ky
  replace q0 := Nat.lt_of_lt_of_le q0 hbx.size
  replace jq := (hc _ _ q1).trans jq
  replace jo := (hc _ _ q1).trans jo
  replace lh := (hc _ _ q1).trans lh
  replace lv := (hc _ _ q1).trans lv
  replace q1 := Nat.lt_of_lt_of_le q1 hbx.size
  replace Hd : w.heap.size + 1 + 1 < b5 := Nat.lt_of_lt_of_le q2 Hd
  replace Jz : w.heap.size + 1 + 1 < b6 := Nat.lt_of_lt_of_le q2 Jz
  replace qw := (hc _ _ q2).trans qw
  replace uj := (hfz _ _ q2).trans uj
  replace qo := (hc _ _ q2).trans qo
  replace ui := (hfz _ _ q2).trans ui
  replace qm := (hc _ _ q2).trans qm
  replace uh := (hfz _ _ q2).trans uh
  replace qj := (hc _ _ q2).trans qj
  replace ug := (hfz _ _ q2).trans ug
  replace NR := Lib.hid ((hbx.block _ q2).trans NR.out)
  replace q2 := Nat.lt_of_lt_of_le q2 hbx.size
  replace hw0 := au hw0 hbx
  replace H1 := hide ((aa H1).below hbx)
  replace H3 := hide ((aa H3).below hbx)
  obtain ⟨A5, c5, l5, m5, n5, H5⟩ := B5
  have tu : W1.cell? ⟨b5, 0, none⟩ = some (.slice A5 l5.length c5) := ag n5 0
  have tq : W1.cell? ⟨b5, 1, none⟩ = some (.bool m5) := ag n5 1
  have qi := lt_of_block n5
  replace H5 := hide H5
  clear n5
  obtain ⟨A6, c6, l6, m6, n6, H6⟩ := B6
  have sw : W1.cell? ⟨b6, 0, none⟩ = some (.slice A6 l6.length c6) := ag n6 0
  have su : W1.cell? ⟨b6, 1, none⟩ = some (.bool m6) := ag n6 1
  have qh := lt_of_block n6
  replace H6 := hide H6
  clear n6
  clear hbx hc hfz
  go_wp2_with fail
  refine ((aa Gf) A5 c5 l5 m5 _ hw0 (aa H5)).mono ?_
  rintro e W2 ⟨rfl, hbx⟩
  obtain ⟨hc, hfz⟩ := az hbx
  replace jl := (hc _ _ q0).trans jl
  replace jk := (hc _ _ q0).trans jk
  replace jy := (hc _ _ q0).trans jy
  replace ky := (hc _ _ q0).trans ky
  replace q0 := Nat.lt_of_lt_of_le q0 hbx.size
  replace jq := (hc _ _ q1).trans jq
  replace jo := (hc _ _ q1).trans jo
  replace lh := (hc _ _ q1).trans lh
  replace lv := (hc _ _ q1).trans lv
  replace q1 := Nat.lt_of_lt_of_le q1 hbx.size
  replace tu := (hc _ _ qi).trans tu
  replace tq := (hc _ _ qi).trans tq
  replace qi := Nat.lt_of_lt_of_le qi hbx.size
  replace sw := (hc _ _ qh).trans sw
  replace su := (hc _ _ qh).trans su
  replace qh := Nat.lt_of_lt_of_le qh hbx.size
  replace qw := (hc _ _ q2).trans qw
  replace uj := (hfz _ _ q2).trans uj
  replace qo := (hc _ _ q2).trans qo
  replace ui := (hfz _ _ q2).trans ui
  replace qm := (hc _ _ q2).trans qm
  replace uh := (hfz _ _ q2).trans uh
  replace qj := (hc _ _ q2).trans qj
  replace ug := (hfz _ _ q2).trans ug
  replace NR := Lib.hid ((hbx.block _ q2).trans NR.out)
  replace q2 := Nat.lt_of_lt_of_le q2 hbx.size
  replace hw0 := au hw0 hbx
  replace H1 := hide ((aa H1).below hbx)
  replace H3 := hide ((aa H3).below hbx)
  replace H5 := hide ((aa H5).below hbx)
  replace H6 := hide ((aa H6).below hbx)
  clear hbx hc hfz
  go_wp2_with fail
  refine ((aa HO3) A6 c6 l6 m6 _ hw0 (aa H6)).mono ?_
  rintro e W3 ⟨rfl, hbx⟩
  obtain ⟨hc, hfz⟩ := az hbx
  replace jl := (hc _ _ q0).trans jl
  replace jk := (hc _ _ q0).trans jk
  replace jy := (hc _ _ q0).trans jy
  replace ky := (hc _ _ q0).trans ky
  replace q0 := Nat.lt_of_lt_of_le q0 hbx.size
  replace jq := (hc _ _ q1).trans jq
  replace jo := (hc _ _ q1).trans jo
  replace lh := (hc _ _ q1).trans lh
  replace lv := (hc _ _ q1).trans lv
  replace q1 := Nat.lt_of_lt_of_le q1 hbx.size
  replace tu := (hc _ _ qi).trans tu
  replace tq := (hc _ _ qi).trans tq
  replace qi := Nat.lt_of_lt_of_le qi hbx.size
  replace sw := (hc _ _ qh).trans sw
  replace su := (hc _ _ qh).trans su
  replace qh := Nat.lt_of_lt_of_le qh hbx.size
  replace qw := (hc _ _ q2).trans qw
  replace uj := (hfz _ _ q2).trans uj
  replace qo := (hc _ _ q2).trans qo
  replace ui := (hfz _ _ q2).trans ui
  replace qm := (hc _ _ q2).trans qm
  replace uh := (hfz _ _ q2).trans uh
  replace qj := (hc _ _ q2).trans qj
  replace ug := (hfz _ _ q2).trans ug
  replace NR := Lib.hid ((hbx.block _ q2).trans NR.out)
  replace q2 := Nat.lt_of_lt_of_le q2 hbx.size
  replace hw0 := au hw0 hbx
  replace H1 := hide ((aa H1).below hbx)
  replace H3 := hide ((aa H3).below hbx)
  replace H5 := hide ((aa H5).below hbx)
  replace H6 := hide ((aa H6).below hbx)
  clear hbx hc hfz
  go_upto_region 3 with fail
  have KEEP := hide (show ∀ X, Below W3.heap.size W3 X → X.cell? ⟨w.heap.size, 0, none⟩ = some (.slice A1 l1.length c1) ∧ X.cell? ⟨w.heap.size, 1, none⟩ = some (.bool m1) ∧ X.cell? ⟨w.heap.size, 2, none⟩ = some (.slice A2 l2.length c2) ∧ X.cell? ⟨w.heap.size, 3, none⟩ = some (.bool m2) ∧ X.cell? ⟨w.heap.size + 1, 0, none⟩ = some (.slice A3 l3.length c3) ∧ X.cell? ⟨w.heap.size + 1, 1, none⟩ = some (.bool m3) ∧ X.cell? ⟨w.heap.size + 1, 2, none⟩ = some (.slice A4 l4.length c4) ∧ X.cell? ⟨w.heap.size + 1, 3, none⟩ = some (.bool m4) ∧ X.cell? ⟨b5, 0, none⟩ = some (.slice A5 l5.length c5) ∧ X.cell? ⟨b5, 1, none⟩ = some (.bool m5) ∧ X.cell? ⟨b6, 0, none⟩ = some (.slice A6 l6.length c6) ∧ X.cell? ⟨b6, 1, none⟩ = some (.bool m6) from fun X hB => ⟨ai hB q0 jl, ai hB q0 jk, ai hB q0 jy, ai hB q0 ky, ai hB q1 jq, ai hB q1 jo, ai hB q1 lh, ai hB q1 lv, ai hB qi tu, ai hB qi tq, ai hB qh sw, ai hB qh su⟩)
  go_region_held3 (fun w' => w'.cell? ⟨w.heap.size, 0, none⟩ = some (.slice A1 l1.length c1) ∧ w'.cell? ⟨w.heap.size, 1, none⟩ = some (.bool m1) ∧ w'.cell? ⟨w.heap.size, 2, none⟩ = some (.slice A2 l2.length c2) ∧ w'.cell? ⟨w.heap.size, 3, none⟩ = some (.bool m2) ∧ w'.cell? ⟨w.heap.size + 1, 0, none⟩ = some (.slice A3 l3.length c3) ∧ w'.cell? ⟨w.heap.size + 1, 1, none⟩ = some (.bool m3) ∧ w'.cell? ⟨w.heap.size + 1, 2, none⟩ = some (.slice A4 l4.length c4) ∧ w'.cell? ⟨w.heap.size + 1, 3, none⟩ = some (.bool m4) ∧ w'.cell? ⟨b5, 0, none⟩ = some (.slice A5 l5.length c5) ∧ w'.cell? ⟨b5, 1, none⟩ = some (.bool m5) ∧ w'.cell? ⟨b6, 0, none⟩ = some (.slice A6 l6.length c6) ∧ w'.cell? ⟨b6, 1, none⟩ = some (.bool m6)) (first | with_reducible exact ⟨(fu _ _ _ _ _ _ om).trans (ai hbw q0 jl), (fu _ _ _ _ _ _ om).trans (ai hbw q0 jk), (fu _ _ _ _ _ _ om).trans (ai hbw q0 jy), (fu _ _ _ _ _ _ om).trans (ai hbw q0 ky), (fu _ _ _ _ _ _ om).trans (ai hbw q1 jq), (fu _ _ _ _ _ _ om).trans (ai hbw q1 jo), (fu _ _ _ _ _ _ om).trans (ai hbw q1 lh), (fu _ _ _ _ _ _ om).trans (ai hbw q1 lv), (fu _ _ _ _ _ _ om).trans (ai hbw qi tu), (fu _ _ _ _ _ _ om).trans (ai hbw qi tq), (fu _ _ _ _ _ _ om).trans (ai hbw qh sw), (fu _ _ _ _ _ _ om).trans (ai hbw qh su)⟩ | with_reducible exact (aa KEEP) _ bel) (first | (go_at_call_of 97 (Value.agg #[.slice A1 l1.length c1, .bool m1]); refine ((aa HN) A1 c1 l1 m1 A3 c3 l3 m3 _ (au hw0 bel) (bg.below (aa H1) bel) (bg.below (aa H3) bel)).mono ?_; rintro e w' ⟨Ae, c10, l10, m10, rfl, zt, Cq⟩; have hbw := ay (w := W3) bel Cq; have hsw := hbw.size; obtain ⟨hc, hfz⟩ := az hbw))
  all_goals
   have hblk : w'.heap[w.heap.size + 1 + 1]? = some (.cells #[.slice none 0 0, .bool false, .slice none 0 0, .bool false] 52 (0, 0)) := (hbw.block _ q2).trans NR.out
   have jd := Lib.hid hblk
   have gp : Below w.heap.size w w' := au hw0 hbw
   have hfi := (zt)
   have hfj := ((aa H5).below hbw)
   clear hblk
   go_wp2_with fail
   exact bodyPost_ret (v := (Value.agg #[.slice Ae l10.length c10, .bool m10, .slice A5 l5.length c5, .bool m5])) (by simp [results, Tryz.results43, go_sem, hc, qw, qo, qm, qj, q2]) rfl
    ⟨Ae, c10, l10, m10, A5, c5, l5, m5, rfl, Dp ▸ hfi.upto jd.out (qy _ _ _ _ _ _ _ _) (ig _ _ _ _ _ _), hden ▸ hfj.upto jd.out (qy _ _ _ _ _ _ _ _) (ig _ _ _ _ _ _), gp.grown (ig _ _ _ _ _ _) gp.size (fun k hk => by injection hk with hk; omega)⟩

end Go.Proofs.YtpjgoogeokbaaaaGreatDoor
namespace Go.Proofs.YtpjgoogeokbaaaaGreatDoor
open Go.RowKit

set_option maxHeartbeats 16000000 in
theorem bid (A1 : Option Addr) (c1 : Nat) (l1 : List Nat) (m1 : Bool) (A2 : Option Addr) (c2 : Nat) (l2 : List Nat) (m2 : Bool) (A3 : Option Addr) (c3 : Nat) (l3 : List Nat) (m3 : Bool) (A4 : Option Addr) (c4 : Nat) (l4 : List Nat) (m4 : Bool) (z1 b1 z3 b3 x1 x3 n d : Int) (q : Rat) (w : World) (f1 : bg w A1 c1 l1 m1 z1) (f3 : bg w A3 c3 l3 m3 z3)
  (hd1 : ∀ W, Below w.heap.size w W → Calls Tryz.prog 95 #[(Value.agg #[.slice A1 l1.length c1, .bool m1, .slice A2 l2.length c2, .bool m2])] W fun e w' => uq W b1 e w') (hd3 : ∀ W, Below w.heap.size w W → Calls Tryz.prog 95 #[(Value.agg #[.slice A3 l3.length c3, .bool m3, .slice A4 l4.length c4, .bool m4])] W fun e w' => uq W b3 e w')
  (ho1 : ∀ (A7 : Option Addr) (c7 : Nat) (l7 : List Nat) (m7 : Bool) (W : World), Below w.heap.size w W → bg W A7 c7 l7 m7 b1 → Calls Tryz.prog 96 #[(Value.agg #[.slice A7 l7.length c7, .bool m7])] W fun e w' => e = .returned (.bool false) ∧ Below W.heap.size W w')  (hm1 : Gz w 98 z1 b3 x1) (Jg : Gz w 98 z3 b1 x3) (hn : Gz w 97 x1 x3 n) (hm : Gz w 98 b1 b3 d) (hr : adx w 92 n d q) :
  Calls Tryz.prog 43 #[(Value.agg #[.slice A1 l1.length c1, .bool m1, .slice A2 l2.length c2, .bool m2]), (Value.agg #[.slice A3 l3.length c3, .bool m3, .slice A4 l4.length c4, .bool m4])] w fun e w' => QR w q e w' := by
 have H1 := hide f1
 have H3 := hide f3
 clear f1 f3
 have HD1 := hide hd1
 have HD3 := hide hd3
 have Gf := hide ho1
 have HM1 := hide hm1
 have HM3 := hide Jg
 have HN := hide hn
 have HM := hide hm
 have HR := hide hr
 clear hd1 hd3 ho1 hm1 Jg hn hm hr
 go_enter Tryz.func43, Tryz.ntmps43
 go_upto_region 1 with fail
 obtain ⟨n0, n1, n2, hsz, hw0⟩ := ll w (.cells #[.slice A1 l1.length c1, .bool m1, .slice A2 l2.length c2, .bool m2] 52) (.cells #[.slice A3 l3.length c3, .bool m3, .slice A4 l4.length c4, .bool m4] 52) (.cells #[.slice none 0 0, .bool false, .slice none 0 0, .bool false] 52)
 generalize (((w.alloc (.cells #[.slice A1 l1.length c1, .bool m1, .slice A2 l2.length c2, .bool m2] 52)).alloc (.cells #[.slice A3 l3.length c3, .bool m3, .slice A4 l4.length c4, .bool m4] 52)).alloc (.cells #[.slice none 0 0, .bool false, .slice none 0 0, .bool false] 52)) = W0 at *
 have jl : W0.cell? ⟨w.heap.size, 0, none⟩ = some (.slice A1 l1.length c1) := ag n0 0
 have jk : W0.cell? ⟨w.heap.size, 1, none⟩ = some (.bool m1) := ag n0 1
 have jy : W0.cell? ⟨w.heap.size, 2, none⟩ = some (.slice A2 l2.length c2) := ag n0 2
 have ky : W0.cell? ⟨w.heap.size, 3, none⟩ = some (.bool m2) := ag n0 3
 have q0 : w.heap.size < W0.heap.size := by omega
 have jq : W0.cell? ⟨w.heap.size + 1, 0, none⟩ = some (.slice A3 l3.length c3) := ag n1 0
 have jo : W0.cell? ⟨w.heap.size + 1, 1, none⟩ = some (.bool m3) := ag n1 1
 have lh : W0.cell? ⟨w.heap.size + 1, 2, none⟩ = some (.slice A4 l4.length c4) := ag n1 2
 have lv : W0.cell? ⟨w.heap.size + 1, 3, none⟩ = some (.bool m4) := ag n1 3
 have q1 : w.heap.size + 1 < W0.heap.size := by omega
 have qw : W0.cell? ⟨w.heap.size + 1 + 1, 0, none⟩ = some (.slice none 0 0) := ag n2 0
 have qo : W0.cell? ⟨w.heap.size + 1 + 1, 1, none⟩ = some (.bool false) := ag n2 1
 have qm : W0.cell? ⟨w.heap.size + 1 + 1, 2, none⟩ = some (.slice none 0 0) := ag n2 2
 have qj : W0.cell? ⟨w.heap.size + 1 + 1, 3, none⟩ = some (.bool false) := ag n2 3
 have q2 : w.heap.size + 1 + 1 < W0.heap.size := by omega
 have uj := ah n2 0
 have ui := ah n2 1
 have uh := ah n2 2
 have ug := ah n2 3
 have NR := Lib.hid n2
 clear hsz n0 n1 n2
 replace H1 := hide ((aa H1).below hw0)
 replace H3 := hide ((aa H3).below hw0)
 go_upto_region 1 with fail
 go_cut [5, 6] (fun Me Ra wx => ∃ b5 b6 : Nat, Me = .pointer (some ⟨b5, 0, none⟩) ∧ Ra = .pointer (some ⟨b6, 0, none⟩) ∧ xx wx b5 b1 ∧ xx wx b6 b3 ∧ Below W0.heap.size W0 wx ∧ W0.heap.size ≤ b5 ∧ W0.heap.size ≤ b6)
 case first =>
  have KEEP := hide (show ∀ X, Below W0.heap.size W0 X → X.cell? ⟨w.heap.size, 0, none⟩ = some (.slice A1 l1.length c1) ∧ X.cell? ⟨w.heap.size, 1, none⟩ = some (.bool m1) ∧ X.cell? ⟨w.heap.size, 2, none⟩ = some (.slice A2 l2.length c2) ∧ X.cell? ⟨w.heap.size, 3, none⟩ = some (.bool m2) ∧ X.cell? ⟨w.heap.size + 1, 0, none⟩ = some (.slice A3 l3.length c3) ∧ X.cell? ⟨w.heap.size + 1, 1, none⟩ = some (.bool m3) ∧ X.cell? ⟨w.heap.size + 1, 2, none⟩ = some (.slice A4 l4.length c4) ∧ X.cell? ⟨w.heap.size + 1, 3, none⟩ = some (.bool m4) from fun X hB => ⟨ai hB q0 jl, ai hB q0 jk, ai hB q0 jy, ai hB q0 ky, ai hB q1 jq, ai hB q1 jo, ai hB q1 lh, ai hB q1 lv⟩)
  go_region_held3 (fun w' => w'.cell? ⟨w.heap.size, 0, none⟩ = some (.slice A1 l1.length c1) ∧ w'.cell? ⟨w.heap.size, 1, none⟩ = some (.bool m1) ∧ w'.cell? ⟨w.heap.size, 2, none⟩ = some (.slice A2 l2.length c2) ∧ w'.cell? ⟨w.heap.size, 3, none⟩ = some (.bool m2) ∧ w'.cell? ⟨w.heap.size + 1, 0, none⟩ = some (.slice A3 l3.length c3) ∧ w'.cell? ⟨w.heap.size + 1, 1, none⟩ = some (.bool m3) ∧ w'.cell? ⟨w.heap.size + 1, 2, none⟩ = some (.slice A4 l4.length c4) ∧ w'.cell? ⟨w.heap.size + 1, 3, none⟩ = some (.bool m4)) (exact (aa KEEP) _ (by (repeat (first | with_reducible exact Below.refl _ _ | with_reducible assumption | with_reducible refine Below.drew ?_ | with_reducible refine je ?_ _ | (with_reducible refine Eg ?_ ?_ _ _; rotate_left; (first | omega | (simp <;> omega))))))) (first | (go_at_call_of 95 (Value.agg #[.slice A1 l1.length c1, .bool m1, .slice A2 l2.length c2, .bool m2]); refine ((aa HD1) _ (au hw0 bel)).mono ?_; rintro e w' ⟨A5, c5, l5, m5, rfl, kz, hb5⟩; have hbw := ay (w := W0) bel hb5; have hsw := hbw.size; obtain ⟨hc, hfz⟩ := az hbw; (try ((first | have zn : eu W0 w' _ := eu.below (eu.new bel rfl) hb5 | have zn : eu W0 w' _ := eu.below (eu.drew (eu.new bel rfl)) hb5); (try simp only [World.size_alloc] at zn); (try dsimp only [World.drew] at zn); (try simp only [World.size_alloc] at zn); obtain ⟨⟨ahr, ahq⟩, ⟨ahp, aho⟩, ⟨ahn, ahm⟩, ⟨ahl, ahk⟩, ahj, Yu⟩ := eu.facts zn)); (try ((first | have zm : eu W0 w' _ := eu.below (eu.alloc (eu.new bel rfl)) hb5 | have zm : eu W0 w' _ := eu.below (eu.drew (eu.alloc (eu.new bel rfl))) hb5); (try simp only [World.size_alloc] at zm); (try dsimp only [World.drew] at zm); (try simp only [World.size_alloc] at zm); obtain ⟨⟨ahi, ahh⟩, ⟨ahg, ahf⟩, ⟨ahe, ahd⟩, ⟨ahc, ahb⟩, aha, Yr⟩ := eu.facts zm))) | (go_at_call_of 95 (Value.agg #[.slice A3 l3.length c3, .bool m3, .slice A4 l4.length c4, .bool m4]); refine ((aa HD3) _ (au hw0 bel)).mono ?_; rintro e w' ⟨A6, c6, l6, m6, rfl, og, hb6⟩; have kz := bg.below (bg.below kz bel) hb6; have hbw := ay (w := W0) bel hb6; have hsw := hbw.size; obtain ⟨hc, hfz⟩ := az hbw; (try ((first | have Bt : eu W0 w' _ := eu.below (eu.new bel rfl) hb6 | have Bt : eu W0 w' _ := eu.below (eu.drew (eu.new bel rfl)) hb6); (try simp only [World.size_alloc] at Bt); (try dsimp only [World.drew] at Bt); (try simp only [World.size_alloc] at Bt); obtain ⟨⟨acp, aco⟩, ⟨acn, acm⟩, ⟨ack, acj⟩, ⟨aci, ach⟩, acg, Vh⟩ := eu.facts Bt)); (try ((first | have Bo : eu W0 w' _ := eu.below (eu.alloc (eu.new bel rfl)) hb6 | have Bo : eu W0 w' _ := eu.below (eu.drew (eu.alloc (eu.new bel rfl))) hb6); (try simp only [World.size_alloc] at Bo); (try dsimp only [World.drew] at Bo); (try simp only [World.size_alloc] at Bo); obtain ⟨⟨acf, ace⟩, ⟨acd, acb⟩, ⟨aca, abz⟩, ⟨aby, abx⟩, abw, Vg⟩ := eu.facts Bo)); (try ((first | have Cb : eu W0 w' _ := eu.below zn hb6 | have Cb : eu W0 w' _ := eu.below (eu.alloc zn) hb6 | have Cb : eu W0 w' _ := eu.below (eu.alloc (eu.alloc zn)) hb6); (try simp only [World.size_alloc] at Cb); (try dsimp only [World.drew] at Cb); (try simp only [World.size_alloc] at Cb); obtain ⟨⟨agz, agy⟩, ⟨agx, agw⟩, ⟨agv, agu⟩, ⟨agt, ags⟩, agr, Yq⟩ := eu.facts Cb)); (try ((first | have Ca : eu W0 w' _ := eu.below zm hb6 | have Ca : eu W0 w' _ := eu.below (eu.alloc zm) hb6 | have Ca : eu W0 w' _ := eu.below (eu.alloc (eu.alloc zm)) hb6); (try simp only [World.size_alloc] at Ca); (try dsimp only [World.drew] at Ca); (try simp only [World.size_alloc] at Ca); obtain ⟨⟨agq, agp⟩, ⟨agn, agm⟩, ⟨agl, agk⟩, ⟨agj, agi⟩, agh, Yp⟩ := eu.facts Ca))))
  all_goals (go_wp2_with fail; go_meet; refine ⟨_, _, rfl, rfl, ?_⟩; first | with_reducible exact zz ⟨by assumption, by assumption, by first | assumption | omega⟩ kz og hbw | with_reducible exact zz (Ig.Sq (by assumption) rfl) kz.alloc og.alloc (je hbw _) | with_reducible exact zz (Ig.Sr (by assumption) rfl) kz.alloc og.alloc (je hbw _) | with_reducible exact Le kz og hbw rfl rfl | with_reducible exact Np kz og hbw rfl rfl | with_reducible exact Nn (by assumption) kz og hbw rfl)
 case rest =>
  revert hcut
  generalize wc = W1
  intro hcut
  obtain ⟨b5, b6, rfl, rfl, B5, B6, hbx, Hd, Jz⟩ := hcut
  obtain ⟨hc, hfz⟩ := az hbx
  replace jl := (hc _ _ q0).trans jl
  replace jk := (hc _ _ q0).trans jk
  replace jy := (hc _ _ q0).trans jy
  replace ky := (hc _ _ q0).trans ky
  replace q0 := Nat.lt_of_lt_of_le q0 hbx.size
  replace jq := (hc _ _ q1).trans jq
  replace jo := (hc _ _ q1).trans jo
  replace lh := (hc _ _ q1).trans lh
  replace lv := (hc _ _ q1).trans lv
  replace q1 := Nat.lt_of_lt_of_le q1 hbx.size
  replace Hd : w.heap.size + 1 + 1 < b5 := Nat.lt_of_lt_of_le q2 Hd
  replace Jz : w.heap.size + 1 + 1 < b6 := Nat.lt_of_lt_of_le q2 Jz
  replace qw := (hc _ _ q2).trans qw
  replace uj := (hfz _ _ q2).trans uj
  replace qo := (hc _ _ q2).trans qo
  replace ui := (hfz _ _ q2).trans ui
  replace qm := (hc _ _ q2).trans qm
  replace uh := (hfz _ _ q2).trans uh
  replace qj := (hc _ _ q2).trans qj
  replace ug := (hfz _ _ q2).trans ug
  replace NR := Lib.hid ((hbx.block _ q2).trans NR.out)
  replace q2 := Nat.lt_of_lt_of_le q2 hbx.size
  replace hw0 := au hw0 hbx
  replace H1 := hide ((aa H1).below hbx)
  replace H3 := hide ((aa H3).below hbx)
  obtain ⟨A5, c5, l5, m5, n5, H5⟩ := B5
  have tu : W1.cell? ⟨b5, 0, none⟩ = some (.slice A5 l5.length c5) := ag n5 0
  have tq : W1.cell? ⟨b5, 1, none⟩ = some (.bool m5) := ag n5 1
  have qi := lt_of_block n5
  replace H5 := hide H5
  clear n5
  obtain ⟨A6, c6, l6, m6, n6, H6⟩ := B6
  have sw : W1.cell? ⟨b6, 0, none⟩ = some (.slice A6 l6.length c6) := ag n6 0
  have su : W1.cell? ⟨b6, 1, none⟩ = some (.bool m6) := ag n6 1
  have qh := lt_of_block n6
  replace H6 := hide H6
  clear n6
  clear hbx hc hfz
  go_wp2_with fail
  refine ((aa Gf) A5 c5 l5 m5 _ hw0 (aa H5)).mono ?_
  rintro e W2 ⟨rfl, hbx⟩
  obtain ⟨hc, hfz⟩ := az hbx
  replace jl := (hc _ _ q0).trans jl
  replace jk := (hc _ _ q0).trans jk
  replace jy := (hc _ _ q0).trans jy
  replace ky := (hc _ _ q0).trans ky
  replace q0 := Nat.lt_of_lt_of_le q0 hbx.size
  replace jq := (hc _ _ q1).trans jq
  replace jo := (hc _ _ q1).trans jo
  replace lh := (hc _ _ q1).trans lh
  replace lv := (hc _ _ q1).trans lv
  replace q1 := Nat.lt_of_lt_of_le q1 hbx.size
  replace tu := (hc _ _ qi).trans tu
  replace tq := (hc _ _ qi).trans tq
  replace qi := Nat.lt_of_lt_of_le qi hbx.size
  replace sw := (hc _ _ qh).trans sw
  replace su := (hc _ _ qh).trans su
  replace qh := Nat.lt_of_lt_of_le qh hbx.size
  replace qw := (hc _ _ q2).trans qw
  replace uj := (hfz _ _ q2).trans uj
  replace qo := (hc _ _ q2).trans qo
  replace ui := (hfz _ _ q2).trans ui
  replace qm := (hc _ _ q2).trans qm
  replace uh := (hfz _ _ q2).trans uh
  replace qj := (hc _ _ q2).trans qj
  replace ug := (hfz _ _ q2).trans ug
  replace NR := Lib.hid ((hbx.block _ q2).trans NR.out)
  replace q2 := Nat.lt_of_lt_of_le q2 hbx.size
  replace hw0 := au hw0 hbx
  replace H1 := hide ((aa H1).below hbx)
  replace H3 := hide ((aa H3).below hbx)
  replace H5 := hide ((aa H5).below hbx)
  replace H6 := hide ((aa H6).below hbx)
  clear hbx hc hfz
  go_upto_region 4 with fail
  have KEEP := hide (show ∀ X, Below W2.heap.size W2 X → X.cell? ⟨w.heap.size, 0, none⟩ = some (.slice A1 l1.length c1) ∧ X.cell? ⟨w.heap.size, 1, none⟩ = some (.bool m1) ∧ X.cell? ⟨w.heap.size, 2, none⟩ = some (.slice A2 l2.length c2) ∧ X.cell? ⟨w.heap.size, 3, none⟩ = some (.bool m2) ∧ X.cell? ⟨w.heap.size + 1, 0, none⟩ = some (.slice A3 l3.length c3) ∧ X.cell? ⟨w.heap.size + 1, 1, none⟩ = some (.bool m3) ∧ X.cell? ⟨w.heap.size + 1, 2, none⟩ = some (.slice A4 l4.length c4) ∧ X.cell? ⟨w.heap.size + 1, 3, none⟩ = some (.bool m4) ∧ X.cell? ⟨b5, 0, none⟩ = some (.slice A5 l5.length c5) ∧ X.cell? ⟨b5, 1, none⟩ = some (.bool m5) ∧ X.cell? ⟨b6, 0, none⟩ = some (.slice A6 l6.length c6) ∧ X.cell? ⟨b6, 1, none⟩ = some (.bool m6) from fun X hB => ⟨ai hB q0 jl, ai hB q0 jk, ai hB q0 jy, ai hB q0 ky, ai hB q1 jq, ai hB q1 jo, ai hB q1 lh, ai hB q1 lv, ai hB qi tu, ai hB qi tq, ai hB qh sw, ai hB qh su⟩)
  go_region_held3 (fun w' => w'.cell? ⟨w.heap.size, 0, none⟩ = some (.slice A1 l1.length c1) ∧ w'.cell? ⟨w.heap.size, 1, none⟩ = some (.bool m1) ∧ w'.cell? ⟨w.heap.size, 2, none⟩ = some (.slice A2 l2.length c2) ∧ w'.cell? ⟨w.heap.size, 3, none⟩ = some (.bool m2) ∧ w'.cell? ⟨w.heap.size + 1, 0, none⟩ = some (.slice A3 l3.length c3) ∧ w'.cell? ⟨w.heap.size + 1, 1, none⟩ = some (.bool m3) ∧ w'.cell? ⟨w.heap.size + 1, 2, none⟩ = some (.slice A4 l4.length c4) ∧ w'.cell? ⟨w.heap.size + 1, 3, none⟩ = some (.bool m4) ∧ w'.cell? ⟨b5, 0, none⟩ = some (.slice A5 l5.length c5) ∧ w'.cell? ⟨b5, 1, none⟩ = some (.bool m5) ∧ w'.cell? ⟨b6, 0, none⟩ = some (.slice A6 l6.length c6) ∧ w'.cell? ⟨b6, 1, none⟩ = some (.bool m6)) (first | with_reducible exact ⟨(fu _ _ _ _ _ _ om).trans (ai hbw q0 jl), (fu _ _ _ _ _ _ om).trans (ai hbw q0 jk), (fu _ _ _ _ _ _ om).trans (ai hbw q0 jy), (fu _ _ _ _ _ _ om).trans (ai hbw q0 ky), (fu _ _ _ _ _ _ om).trans (ai hbw q1 jq), (fu _ _ _ _ _ _ om).trans (ai hbw q1 jo), (fu _ _ _ _ _ _ om).trans (ai hbw q1 lh), (fu _ _ _ _ _ _ om).trans (ai hbw q1 lv), (fu _ _ _ _ _ _ om).trans (ai hbw qi tu), (fu _ _ _ _ _ _ om).trans (ai hbw qi tq), (fu _ _ _ _ _ _ om).trans (ai hbw qh sw), (fu _ _ _ _ _ _ om).trans (ai hbw qh su)⟩ | with_reducible exact (aa KEEP) _ bel) (first | (go_at_call_of 98 (Value.agg #[.slice A1 l1.length c1, .bool m1]); refine ((aa HM1) A1 c1 l1 m1 A6 c6 l6 m6 _ (au hw0 bel) (bg.below (aa H1) bel) (bg.below (aa H6) bel)).mono ?_; rintro e w' ⟨A8, c8, l8, m8, rfl, wh, La⟩; have hbw := ay (w := W2) bel La; have hsw := hbw.size; obtain ⟨hc, hfz⟩ := az hbw) | (go_at_call_of 98 (Value.agg #[.slice A3 l3.length c3, .bool m3]); refine ((aa HM3) A3 c3 l3 m3 A5 c5 l5 m5 _ (au hw0 bel) (bg.below (aa H3) bel) (bg.below (aa H5) bel)).mono ?_; rintro e w' ⟨A9, c9, l9, m9, rfl, En, gp⟩; have wh := bg.below (bg.below wh bel) gp; have hbw := ay (w := W2) bel gp; have hsw := hbw.size; obtain ⟨hc, hfz⟩ := az hbw) | (go_at_call_of 97 (Value.agg #[.slice A8 l8.length c8, .bool m8]); refine ((aa HN) A8 c8 l8 m8 A9 c9 l9 m9 _ (au hw0 bel) (bg.below wh bel) (bg.below En bel)).mono ?_; rintro e w' ⟨Ae, c10, l10, m10, rfl, zt, Cq⟩; have wh := bg.below (bg.below wh bel) Cq; have En := bg.below (bg.below En bel) Cq; have hbw := ay (w := W2) bel Cq; have hsw := hbw.size; obtain ⟨hc, hfz⟩ := az hbw) | (go_at_call_of 98 (Value.agg #[.slice A5 l5.length c5, .bool m5]); refine ((aa HM) A5 c5 l5 m5 A6 c6 l6 m6 _ (au hw0 bel) (bg.below (aa H5) bel) (bg.below (aa H6) bel)).mono ?_; rintro e w' ⟨Fv, c11, Fq, m11, rfl, Ec, Dx⟩; have wh := bg.below (bg.below wh bel) Dx; have En := bg.below (bg.below En bel) Dx; have zt := bg.below (bg.below zt bel) Dx; have hbw := ay (w := W2) bel Dx; have hsw := hbw.size; obtain ⟨hc, hfz⟩ := az hbw) | (go_at_call_of 92 (Value.agg #[.slice Ae l10.length c10, .bool m10]); refine ((aa HR) Ae c10 l10 m10 Fv c11 Fq m11 _ (au hw0 bel) (bg.below zt bel) (bg.below Ec bel)).mono ?_; rintro e w' ⟨Lc, c12, Ky, m12, Rz, c13, Rk, m13, rfl, Gq, Oo, Fh⟩; have wh := bg.below (bg.below wh bel) Fh; have En := bg.below (bg.below En bel) Fh; have zt := bg.below (bg.below zt bel) Fh; have Ec := bg.below (bg.below Ec bel) Fh; have hbw := ay (w := W2) bel Fh; have hsw := hbw.size; obtain ⟨hc, hfz⟩ := az hbw))
  all_goals
   have hblk : w'.heap[w.heap.size + 1 + 1]? = some (.cells #[.slice none 0 0, .bool false, .slice none 0 0, .bool false] 52 (0, 0)) := (hbw.block _ q2).trans NR.out
   have jd := Lib.hid hblk
   have gp : Below w.heap.size w w' := au hw0 hbw
   have hfi := (Gq)
   have hfj := (Oo)
   clear hblk
   go_wp2_with fail
   exact bodyPost_ret (v := (Value.agg #[.slice Lc Ky.length c12, .bool m12, .slice Rz Rk.length c13, .bool m13])) (by simp [results, Tryz.results43, go_sem, hc, qw, qo, qm, qj, q2]) rfl
    ⟨Lc, c12, Ky, m12, Rz, c13, Rk, m13, rfl, hfi.upto jd.out (qy _ _ _ _ _ _ _ _) (ig _ _ _ _ _ _), hfj.upto jd.out (qy _ _ _ _ _ _ _ _) (ig _ _ _ _ _ _), gp.grown (ig _ _ _ _ _ _) gp.size (fun k hk => by injection hk with hk; omega)⟩

end Go.Proofs.YtpjgoogeokbaaaaGreatDoor
namespace Go.Proofs.YtpjgoogeokbaaaaGreatDoor
open Go.RowKit

set_option maxHeartbeats 16000000 in
theorem bgm (A1 : Option Addr) (c1 : Nat) (l1 : List Nat) (m1 : Bool) (A2 : Option Addr) (c2 : Nat) (l2 : List Nat) (m2 : Bool) (A3 : Option Addr) (c3 : Nat) (l3 : List Nat) (m3 : Bool) (A4 : Option Addr) (c4 : Nat) (l4 : List Nat) (m4 : Bool) (z1 b1 z3 b3 x1 x3 n d : Int) (q : Rat) (w : World) (f1 : bg w A1 c1 l1 m1 z1) (f3 : bg w A3 c3 l3 m3 z3)
  (hd1 : ∀ W, Below w.heap.size w W → Calls Tryz.prog 95 #[(Value.agg #[.slice A1 l1.length c1, .bool m1, .slice A2 l2.length c2, .bool m2])] W fun e w' => uq W b1 e w') (hd3 : ∀ W, Below w.heap.size w W → Calls Tryz.prog 95 #[(Value.agg #[.slice A3 l3.length c3, .bool m3, .slice A4 l4.length c4, .bool m4])] W fun e w' => uq W b3 e w')
  (ho1 : ∀ (A7 : Option Addr) (c7 : Nat) (l7 : List Nat) (m7 : Bool) (W : World), Below w.heap.size w W → bg W A7 c7 l7 m7 b1 → Calls Tryz.prog 96 #[(Value.agg #[.slice A7 l7.length c7, .bool m7])] W fun e w' => e = .returned (.bool true) ∧ Below W.heap.size W w') (ho3 : ∀ (A7 : Option Addr) (c7 : Nat) (l7 : List Nat) (m7 : Bool) (W : World), Below w.heap.size w W → bg W A7 c7 l7 m7 b3 → Calls Tryz.prog 96 #[(Value.agg #[.slice A7 l7.length c7, .bool m7])] W fun e w' => e = .returned (.bool false) ∧ Below W.heap.size W w') (hm1 : Gz w 98 z1 b3 x1) (Jg : Gz w 98 z3 b1 x3) (hn : Gz w 97 x1 x3 n) (hm : Gz w 98 b1 b3 d) (hr : adx w 92 n d q) :
  Calls Tryz.prog 43 #[(Value.agg #[.slice A1 l1.length c1, .bool m1, .slice A2 l2.length c2, .bool m2]), (Value.agg #[.slice A3 l3.length c3, .bool m3, .slice A4 l4.length c4, .bool m4])] w fun e w' => QR w q e w' := by
 have H1 := hide f1
 have H3 := hide f3
 clear f1 f3
 have HD1 := hide hd1
 have HD3 := hide hd3
 have Gf := hide ho1
 have HO3 := hide ho3
 have HM1 := hide hm1
 have HM3 := hide Jg
 have HN := hide hn
 have HM := hide hm
 have HR := hide hr
 clear hd1 hd3 ho1 ho3 hm1 Jg hn hm hr
 go_enter Tryz.func43, Tryz.ntmps43
 go_upto_region 1 with fail
 obtain ⟨n0, n1, n2, hsz, hw0⟩ := ll w (.cells #[.slice A1 l1.length c1, .bool m1, .slice A2 l2.length c2, .bool m2] 52) (.cells #[.slice A3 l3.length c3, .bool m3, .slice A4 l4.length c4, .bool m4] 52) (.cells #[.slice none 0 0, .bool false, .slice none 0 0, .bool false] 52)
 generalize (((w.alloc (.cells #[.slice A1 l1.length c1, .bool m1, .slice A2 l2.length c2, .bool m2] 52)).alloc (.cells #[.slice A3 l3.length c3, .bool m3, .slice A4 l4.length c4, .bool m4] 52)).alloc (.cells #[.slice none 0 0, .bool false, .slice none 0 0, .bool false] 52)) = W0 at *
 have jl : W0.cell? ⟨w.heap.size, 0, none⟩ = some (.slice A1 l1.length c1) := ag n0 0
 have jk : W0.cell? ⟨w.heap.size, 1, none⟩ = some (.bool m1) := ag n0 1
 have jy : W0.cell? ⟨w.heap.size, 2, none⟩ = some (.slice A2 l2.length c2) := ag n0 2
 have ky : W0.cell? ⟨w.heap.size, 3, none⟩ = some (.bool m2) := ag n0 3
 have q0 : w.heap.size < W0.heap.size := by omega
 have jq : W0.cell? ⟨w.heap.size + 1, 0, none⟩ = some (.slice A3 l3.length c3) := ag n1 0
 have jo : W0.cell? ⟨w.heap.size + 1, 1, none⟩ = some (.bool m3) := ag n1 1
 have lh : W0.cell? ⟨w.heap.size + 1, 2, none⟩ = some (.slice A4 l4.length c4) := ag n1 2
 have lv : W0.cell? ⟨w.heap.size + 1, 3, none⟩ = some (.bool m4) := ag n1 3
 have q1 : w.heap.size + 1 < W0.heap.size := by omega
 have qw : W0.cell? ⟨w.heap.size + 1 + 1, 0, none⟩ = some (.slice none 0 0) := ag n2 0
 have qo : W0.cell? ⟨w.heap.size + 1 + 1, 1, none⟩ = some (.bool false) := ag n2 1
 have qm : W0.cell? ⟨w.heap.size + 1 + 1, 2, none⟩ = some (.slice none 0 0) := ag n2 2
 have qj : W0.cell? ⟨w.heap.size + 1 + 1, 3, none⟩ = some (.bool false) := ag n2 3
 have q2 : w.heap.size + 1 + 1 < W0.heap.size := by omega
 have uj := ah n2 0
 have ui := ah n2 1
 have uh := ah n2 2
 have ug := ah n2 3
 have NR := Lib.hid n2
 clear hsz n0 n1 n2
 replace H1 := hide ((aa H1).below hw0)
 replace H3 := hide ((aa H3).below hw0)
 go_upto_region 1 with fail
 go_cut [5, 6] (fun Me Ra wx => ∃ b5 b6 : Nat, Me = .pointer (some ⟨b5, 0, none⟩) ∧ Ra = .pointer (some ⟨b6, 0, none⟩) ∧ xx wx b5 b1 ∧ xx wx b6 b3 ∧ Below W0.heap.size W0 wx ∧ W0.heap.size ≤ b5 ∧ W0.heap.size ≤ b6)
 case first =>
  have KEEP := hide (show ∀ X, Below W0.heap.size W0 X → X.cell? ⟨w.heap.size, 0, none⟩ = some (.slice A1 l1.length c1) ∧ X.cell? ⟨w.heap.size, 1, none⟩ = some (.bool m1) ∧ X.cell? ⟨w.heap.size, 2, none⟩ = some (.slice A2 l2.length c2) ∧ X.cell? ⟨w.heap.size, 3, none⟩ = some (.bool m2) ∧ X.cell? ⟨w.heap.size + 1, 0, none⟩ = some (.slice A3 l3.length c3) ∧ X.cell? ⟨w.heap.size + 1, 1, none⟩ = some (.bool m3) ∧ X.cell? ⟨w.heap.size + 1, 2, none⟩ = some (.slice A4 l4.length c4) ∧ X.cell? ⟨w.heap.size + 1, 3, none⟩ = some (.bool m4) from fun X hB => ⟨ai hB q0 jl, ai hB q0 jk, ai hB q0 jy, ai hB q0 ky, ai hB q1 jq, ai hB q1 jo, ai hB q1 lh, ai hB q1 lv⟩)
  go_region_held3 (fun w' => w'.cell? ⟨w.heap.size, 0, none⟩ = some (.slice A1 l1.length c1) ∧ w'.cell? ⟨w.heap.size, 1, none⟩ = some (.bool m1) ∧ w'.cell? ⟨w.heap.size, 2, none⟩ = some (.slice A2 l2.length c2) ∧ w'.cell? ⟨w.heap.size, 3, none⟩ = some (.bool m2) ∧ w'.cell? ⟨w.heap.size + 1, 0, none⟩ = some (.slice A3 l3.length c3) ∧ w'.cell? ⟨w.heap.size + 1, 1, none⟩ = some (.bool m3) ∧ w'.cell? ⟨w.heap.size + 1, 2, none⟩ = some (.slice A4 l4.length c4) ∧ w'.cell? ⟨w.heap.size + 1, 3, none⟩ = some (.bool m4)) (exact (aa KEEP) _ (by (repeat (first | with_reducible exact Below.refl _ _ | with_reducible assumption | with_reducible refine Below.drew ?_ | with_reducible refine je ?_ _ | (with_reducible refine Eg ?_ ?_ _ _; rotate_left; (first | omega | (simp <;> omega))))))) (first | (go_at_call_of 95 (Value.agg #[.slice A1 l1.length c1, .bool m1, .slice A2 l2.length c2, .bool m2]); refine ((aa HD1) _ (au hw0 bel)).mono ?_; rintro e w' ⟨A5, c5, l5, m5, rfl, kz, hb5⟩; have hbw := ay (w := W0) bel hb5; have hsw := hbw.size; obtain ⟨hc, hfz⟩ := az hbw; (try ((first | have zn : eu W0 w' _ := eu.below (eu.new bel rfl) hb5 | have zn : eu W0 w' _ := eu.below (eu.drew (eu.new bel rfl)) hb5); (try simp only [World.size_alloc] at zn); (try dsimp only [World.drew] at zn); (try simp only [World.size_alloc] at zn); obtain ⟨⟨ahr, ahq⟩, ⟨ahp, aho⟩, ⟨ahn, ahm⟩, ⟨ahl, ahk⟩, ahj, Yu⟩ := eu.facts zn)); (try ((first | have zm : eu W0 w' _ := eu.below (eu.alloc (eu.new bel rfl)) hb5 | have zm : eu W0 w' _ := eu.below (eu.drew (eu.alloc (eu.new bel rfl))) hb5); (try simp only [World.size_alloc] at zm); (try dsimp only [World.drew] at zm); (try simp only [World.size_alloc] at zm); obtain ⟨⟨ahi, ahh⟩, ⟨ahg, ahf⟩, ⟨ahe, ahd⟩, ⟨ahc, ahb⟩, aha, Yr⟩ := eu.facts zm))) | (go_at_call_of 95 (Value.agg #[.slice A3 l3.length c3, .bool m3, .slice A4 l4.length c4, .bool m4]); refine ((aa HD3) _ (au hw0 bel)).mono ?_; rintro e w' ⟨A6, c6, l6, m6, rfl, og, hb6⟩; have kz := bg.below (bg.below kz bel) hb6; have hbw := ay (w := W0) bel hb6; have hsw := hbw.size; obtain ⟨hc, hfz⟩ := az hbw; (try ((first | have Bt : eu W0 w' _ := eu.below (eu.new bel rfl) hb6 | have Bt : eu W0 w' _ := eu.below (eu.drew (eu.new bel rfl)) hb6); (try simp only [World.size_alloc] at Bt); (try dsimp only [World.drew] at Bt); (try simp only [World.size_alloc] at Bt); obtain ⟨⟨acp, aco⟩, ⟨acn, acm⟩, ⟨ack, acj⟩, ⟨aci, ach⟩, acg, Vh⟩ := eu.facts Bt)); (try ((first | have Bo : eu W0 w' _ := eu.below (eu.alloc (eu.new bel rfl)) hb6 | have Bo : eu W0 w' _ := eu.below (eu.drew (eu.alloc (eu.new bel rfl))) hb6); (try simp only [World.size_alloc] at Bo); (try dsimp only [World.drew] at Bo); (try simp only [World.size_alloc] at Bo); obtain ⟨⟨acf, ace⟩, ⟨acd, acb⟩, ⟨aca, abz⟩, ⟨aby, abx⟩, abw, Vg⟩ := eu.facts Bo)); (try ((first | have Cb : eu W0 w' _ := eu.below zn hb6 | have Cb : eu W0 w' _ := eu.below (eu.alloc zn) hb6 | have Cb : eu W0 w' _ := eu.below (eu.alloc (eu.alloc zn)) hb6); (try simp only [World.size_alloc] at Cb); (try dsimp only [World.drew] at Cb); (try simp only [World.size_alloc] at Cb); obtain ⟨⟨agz, agy⟩, ⟨agx, agw⟩, ⟨agv, agu⟩, ⟨agt, ags⟩, agr, Yq⟩ := eu.facts Cb)); (try ((first | have Ca : eu W0 w' _ := eu.below zm hb6 | have Ca : eu W0 w' _ := eu.below (eu.alloc zm) hb6 | have Ca : eu W0 w' _ := eu.below (eu.alloc (eu.alloc zm)) hb6); (try simp only [World.size_alloc] at Ca); (try dsimp only [World.drew] at Ca); (try simp only [World.size_alloc] at Ca); obtain ⟨⟨agq, agp⟩, ⟨agn, agm⟩, ⟨agl, agk⟩, ⟨agj, agi⟩, agh, Yp⟩ := eu.facts Ca))))
  all_goals (go_wp2_with fail; go_meet; refine ⟨_, _, rfl, rfl, ?_⟩; first | with_reducible exact zz ⟨by assumption, by assumption, by first | assumption | omega⟩ kz og hbw | with_reducible exact zz (Ig.Sq (by assumption) rfl) kz.alloc og.alloc (je hbw _) | with_reducible exact zz (Ig.Sr (by assumption) rfl) kz.alloc og.alloc (je hbw _) | with_reducible exact Le kz og hbw rfl rfl | with_reducible exact Np kz og hbw rfl rfl | with_reducible exact Nn (by assumption) kz og hbw rfl)
 case rest =>
  revert hcut
  generalize wc = W1
  intro hcut
  obtain ⟨b5, b6, rfl, rfl, B5, B6, hbx, Hd, Jz⟩ := hcut
  obtain ⟨hc, hfz⟩ := az hbx
  replace jl := (hc _ _ q0).trans jl
  replace jk := (hc _ _ q0).trans jk
  replace jy := (hc _ _ q0).trans jy
  replace ky := (hc _ _ q0).trans ky
  replace q0 := Nat.lt_of_lt_of_le q0 hbx.size
  replace jq := (hc _ _ q1).trans jq
  replace jo := (hc _ _ q1).trans jo
  replace lh := (hc _ _ q1).trans lh
  replace lv := (hc _ _ q1).trans lv
  replace q1 := Nat.lt_of_lt_of_le q1 hbx.size
  replace Hd : w.heap.size + 1 + 1 < b5 := Nat.lt_of_lt_of_le q2 Hd
  replace Jz : w.heap.size + 1 + 1 < b6 := Nat.lt_of_lt_of_le q2 Jz
  replace qw := (hc _ _ q2).trans qw
  replace uj := (hfz _ _ q2).trans uj
  replace qo := (hc _ _ q2).trans qo
  replace ui := (hfz _ _ q2).trans ui
  replace qm := (hc _ _ q2).trans qm
  replace uh := (hfz _ _ q2).trans uh
  replace qj := (hc _ _ q2).trans qj
  replace ug := (hfz _ _ q2).trans ug
  replace NR := Lib.hid ((hbx.block _ q2).trans NR.out)
  replace q2 := Nat.lt_of_lt_of_le q2 hbx.size
  replace hw0 := au hw0 hbx
  replace H1 := hide ((aa H1).below hbx)
  replace H3 := hide ((aa H3).below hbx)
  obtain ⟨A5, c5, l5, m5, n5, H5⟩ := B5
  have tu : W1.cell? ⟨b5, 0, none⟩ = some (.slice A5 l5.length c5) := ag n5 0
  have tq : W1.cell? ⟨b5, 1, none⟩ = some (.bool m5) := ag n5 1
  have qi := lt_of_block n5
  replace H5 := hide H5
  clear n5
  obtain ⟨A6, c6, l6, m6, n6, H6⟩ := B6
  have sw : W1.cell? ⟨b6, 0, none⟩ = some (.slice A6 l6.length c6) := ag n6 0
  have su : W1.cell? ⟨b6, 1, none⟩ = some (.bool m6) := ag n6 1
  have qh := lt_of_block n6
  replace H6 := hide H6
  clear n6
  clear hbx hc hfz
  go_wp2_with fail
  refine ((aa Gf) A5 c5 l5 m5 _ hw0 (aa H5)).mono ?_
  rintro e W2 ⟨rfl, hbx⟩
  obtain ⟨hc, hfz⟩ := az hbx
  replace jl := (hc _ _ q0).trans jl
  replace jk := (hc _ _ q0).trans jk
  replace jy := (hc _ _ q0).trans jy
  replace ky := (hc _ _ q0).trans ky
  replace q0 := Nat.lt_of_lt_of_le q0 hbx.size
  replace jq := (hc _ _ q1).trans jq
  replace jo := (hc _ _ q1).trans jo
  replace lh := (hc _ _ q1).trans lh
  replace lv := (hc _ _ q1).trans lv
  replace q1 := Nat.lt_of_lt_of_le q1 hbx.size
  replace tu := (hc _ _ qi).trans tu
  replace tq := (hc _ _ qi).trans tq
  replace qi := Nat.lt_of_lt_of_le qi hbx.size
  replace sw := (hc _ _ qh).trans sw
  replace su := (hc _ _ qh).trans su
  replace qh := Nat.lt_of_lt_of_le qh hbx.size
  replace qw := (hc _ _ q2).trans qw
  replace uj := (hfz _ _ q2).trans uj
  replace qo := (hc _ _ q2).trans qo
  replace ui := (hfz _ _ q2).trans ui
  replace qm := (hc _ _ q2).trans qm
  replace uh := (hfz _ _ q2).trans uh
  replace qj := (hc _ _ q2).trans qj
  replace ug := (hfz _ _ q2).trans ug
  replace NR := Lib.hid ((hbx.block _ q2).trans NR.out)
  replace q2 := Nat.lt_of_lt_of_le q2 hbx.size
  replace hw0 := au hw0 hbx
  replace H1 := hide ((aa H1).below hbx)
  replace H3 := hide ((aa H3).below hbx)
  replace H5 := hide ((aa H5).below hbx)
  replace H6 := hide ((aa H6).below hbx)
  clear hbx hc hfz
  go_wp2_with fail
  refine ((aa HO3) A6 c6 l6 m6 _ hw0 (aa H6)).mono ?_
  rintro e W3 ⟨rfl, hbx⟩
  obtain ⟨hc, hfz⟩ := az hbx
  replace jl := (hc _ _ q0).trans jl
  replace jk := (hc _ _ q0).trans jk
  replace jy := (hc _ _ q0).trans jy
  replace ky := (hc _ _ q0).trans ky
  replace q0 := Nat.lt_of_lt_of_le q0 hbx.size
  replace jq := (hc _ _ q1).trans jq
  replace jo := (hc _ _ q1).trans jo
  replace lh := (hc _ _ q1).trans lh
  replace lv := (hc _ _ q1).trans lv
  replace q1 := Nat.lt_of_lt_of_le q1 hbx.size
  replace tu := (hc _ _ qi).trans tu
  replace tq := (hc _ _ qi).trans tq
  replace qi := Nat.lt_of_lt_of_le qi hbx.size
  replace sw := (hc _ _ qh).trans sw
  replace su := (hc _ _ qh).trans su
  replace qh := Nat.lt_of_lt_of_le qh hbx.size
  replace qw := (hc _ _ q2).trans qw
  replace uj := (hfz _ _ q2).trans uj
  replace qo := (hc _ _ q2).trans qo
  replace ui := (hfz _ _ q2).trans ui
  replace qm := (hc _ _ q2).trans qm
  replace uh := (hfz _ _ q2).trans uh
  replace qj := (hc _ _ q2).trans qj
  replace ug := (hfz _ _ q2).trans ug
  replace NR := Lib.hid ((hbx.block _ q2).trans NR.out)
  replace q2 := Nat.lt_of_lt_of_le q2 hbx.size
  replace hw0 := au hw0 hbx
  replace H1 := hide ((aa H1).below hbx)
  replace H3 := hide ((aa H3).below hbx)
  replace H5 := hide ((aa H5).below hbx)
  replace H6 := hide ((aa H6).below hbx)
  clear hbx hc hfz
  go_upto_region 4 with fail
  have KEEP := hide (show ∀ X, Below W3.heap.size W3 X → X.cell? ⟨w.heap.size, 0, none⟩ = some (.slice A1 l1.length c1) ∧ X.cell? ⟨w.heap.size, 1, none⟩ = some (.bool m1) ∧ X.cell? ⟨w.heap.size, 2, none⟩ = some (.slice A2 l2.length c2) ∧ X.cell? ⟨w.heap.size, 3, none⟩ = some (.bool m2) ∧ X.cell? ⟨w.heap.size + 1, 0, none⟩ = some (.slice A3 l3.length c3) ∧ X.cell? ⟨w.heap.size + 1, 1, none⟩ = some (.bool m3) ∧ X.cell? ⟨w.heap.size + 1, 2, none⟩ = some (.slice A4 l4.length c4) ∧ X.cell? ⟨w.heap.size + 1, 3, none⟩ = some (.bool m4) ∧ X.cell? ⟨b5, 0, none⟩ = some (.slice A5 l5.length c5) ∧ X.cell? ⟨b5, 1, none⟩ = some (.bool m5) ∧ X.cell? ⟨b6, 0, none⟩ = some (.slice A6 l6.length c6) ∧ X.cell? ⟨b6, 1, none⟩ = some (.bool m6) from fun X hB => ⟨ai hB q0 jl, ai hB q0 jk, ai hB q0 jy, ai hB q0 ky, ai hB q1 jq, ai hB q1 jo, ai hB q1 lh, ai hB q1 lv, ai hB qi tu, ai hB qi tq, ai hB qh sw, ai hB qh su⟩)
  go_region_held3 (fun w' => w'.cell? ⟨w.heap.size, 0, none⟩ = some (.slice A1 l1.length c1) ∧ w'.cell? ⟨w.heap.size, 1, none⟩ = some (.bool m1) ∧ w'.cell? ⟨w.heap.size, 2, none⟩ = some (.slice A2 l2.length c2) ∧ w'.cell? ⟨w.heap.size, 3, none⟩ = some (.bool m2) ∧ w'.cell? ⟨w.heap.size + 1, 0, none⟩ = some (.slice A3 l3.length c3) ∧ w'.cell? ⟨w.heap.size + 1, 1, none⟩ = some (.bool m3) ∧ w'.cell? ⟨w.heap.size + 1, 2, none⟩ = some (.slice A4 l4.length c4) ∧ w'.cell? ⟨w.heap.size + 1, 3, none⟩ = some (.bool m4) ∧ w'.cell? ⟨b5, 0, none⟩ = some (.slice A5 l5.length c5) ∧ w'.cell? ⟨b5, 1, none⟩ = some (.bool m5) ∧ w'.cell? ⟨b6, 0, none⟩ = some (.slice A6 l6.length c6) ∧ w'.cell? ⟨b6, 1, none⟩ = some (.bool m6)) (first | with_reducible exact ⟨(fu _ _ _ _ _ _ om).trans (ai hbw q0 jl), (fu _ _ _ _ _ _ om).trans (ai hbw q0 jk), (fu _ _ _ _ _ _ om).trans (ai hbw q0 jy), (fu _ _ _ _ _ _ om).trans (ai hbw q0 ky), (fu _ _ _ _ _ _ om).trans (ai hbw q1 jq), (fu _ _ _ _ _ _ om).trans (ai hbw q1 jo), (fu _ _ _ _ _ _ om).trans (ai hbw q1 lh), (fu _ _ _ _ _ _ om).trans (ai hbw q1 lv), (fu _ _ _ _ _ _ om).trans (ai hbw qi tu), (fu _ _ _ _ _ _ om).trans (ai hbw qi tq), (fu _ _ _ _ _ _ om).trans (ai hbw qh sw), (fu _ _ _ _ _ _ om).trans (ai hbw qh su)⟩ | with_reducible exact (aa KEEP) _ bel) (first | (go_at_call_of 98 (Value.agg #[.slice A1 l1.length c1, .bool m1]); refine ((aa HM1) A1 c1 l1 m1 A6 c6 l6 m6 _ (au hw0 bel) (bg.below (aa H1) bel) (bg.below (aa H6) bel)).mono ?_; rintro e w' ⟨A8, c8, l8, m8, rfl, wh, La⟩; have hbw := ay (w := W3) bel La; have hsw := hbw.size; obtain ⟨hc, hfz⟩ := az hbw) | (go_at_call_of 98 (Value.agg #[.slice A3 l3.length c3, .bool m3]); refine ((aa HM3) A3 c3 l3 m3 A5 c5 l5 m5 _ (au hw0 bel) (bg.below (aa H3) bel) (bg.below (aa H5) bel)).mono ?_; rintro e w' ⟨A9, c9, l9, m9, rfl, En, gp⟩; have wh := bg.below (bg.below wh bel) gp; have hbw := ay (w := W3) bel gp; have hsw := hbw.size; obtain ⟨hc, hfz⟩ := az hbw) | (go_at_call_of 97 (Value.agg #[.slice A8 l8.length c8, .bool m8]); refine ((aa HN) A8 c8 l8 m8 A9 c9 l9 m9 _ (au hw0 bel) (bg.below wh bel) (bg.below En bel)).mono ?_; rintro e w' ⟨Ae, c10, l10, m10, rfl, zt, Cq⟩; have wh := bg.below (bg.below wh bel) Cq; have En := bg.below (bg.below En bel) Cq; have hbw := ay (w := W3) bel Cq; have hsw := hbw.size; obtain ⟨hc, hfz⟩ := az hbw) | (go_at_call_of 98 (Value.agg #[.slice A5 l5.length c5, .bool m5]); refine ((aa HM) A5 c5 l5 m5 A6 c6 l6 m6 _ (au hw0 bel) (bg.below (aa H5) bel) (bg.below (aa H6) bel)).mono ?_; rintro e w' ⟨Fv, c11, Fq, m11, rfl, Ec, Dx⟩; have wh := bg.below (bg.below wh bel) Dx; have En := bg.below (bg.below En bel) Dx; have zt := bg.below (bg.below zt bel) Dx; have hbw := ay (w := W3) bel Dx; have hsw := hbw.size; obtain ⟨hc, hfz⟩ := az hbw) | (go_at_call_of 92 (Value.agg #[.slice Ae l10.length c10, .bool m10]); refine ((aa HR) Ae c10 l10 m10 Fv c11 Fq m11 _ (au hw0 bel) (bg.below zt bel) (bg.below Ec bel)).mono ?_; rintro e w' ⟨Lc, c12, Ky, m12, Rz, c13, Rk, m13, rfl, Gq, Oo, Fh⟩; have wh := bg.below (bg.below wh bel) Fh; have En := bg.below (bg.below En bel) Fh; have zt := bg.below (bg.below zt bel) Fh; have Ec := bg.below (bg.below Ec bel) Fh; have hbw := ay (w := W3) bel Fh; have hsw := hbw.size; obtain ⟨hc, hfz⟩ := az hbw))
  all_goals
   have hblk : w'.heap[w.heap.size + 1 + 1]? = some (.cells #[.slice none 0 0, .bool false, .slice none 0 0, .bool false] 52 (0, 0)) := (hbw.block _ q2).trans NR.out
   have jd := Lib.hid hblk
   have gp : Below w.heap.size w w' := au hw0 hbw
   have hfi := (Gq)
   have hfj := (Oo)
   clear hblk
   go_wp2_with fail
   exact bodyPost_ret (v := (Value.agg #[.slice Lc Ky.length c12, .bool m12, .slice Rz Rk.length c13, .bool m13])) (by simp [results, Tryz.results43, go_sem, hc, qw, qo, qm, qj, q2]) rfl
    ⟨Lc, c12, Ky, m12, Rz, c13, Rk, m13, rfl, hfi.upto jd.out (qy _ _ _ _ _ _ _ _) (ig _ _ _ _ _ _), hfj.upto jd.out (qy _ _ _ _ _ _ _ _) (ig _ _ _ _ _ _), gp.grown (ig _ _ _ _ _ _) gp.size (fun k hk => by injection hk with hk; omega)⟩

end Go.Proofs.YtpjgoogeokbaaaaGreatDoor
namespace Go.Proofs.YtpjgoogeokbaaaaGreatDoor
open Go.RowKit

set_option maxHeartbeats 16000000 in
theorem atr (A1 : Option Addr) (c1 : Nat) (l1 : List Nat) (m1 : Bool) (A2 : Option Addr) (c2 : Nat) (l2 : List Nat) (m2 : Bool) (z1 b1 n : Int) (p q : Rat) (w : World) (f1 : bg w A1 c1 l1 m1 z1)
  (hd1 : ∀ W, Below w.heap.size w W → Calls Tryz.prog 95 #[(Value.agg #[.slice A1 l1.length c1, .bool m1, .slice A2 l2.length c2, .bool m2])] W fun e w' => uq W b1 e w') (hn : ∀ (A7 : Option Addr) (c7 : Nat) (l7 : List Nat) (m7 : Bool) (W : World), Below w.heap.size w W → bg W A7 c7 l7 m7 z1 → Calls Tryz.prog 138 #[(Value.agg #[.slice A7 l7.length c7, .bool m7])] W fun e w' => uq W n e w') (Dp : n = q.num) (hden : b1 = (q.den : Int)) :
  Calls Tryz.prog 99 #[(Value.agg #[.slice A1 l1.length c1, .bool m1, .slice A2 l2.length c2, .bool m2])] w fun e w' => QR w q e w' := by
 have H1 := hide f1
 clear f1
 have HD1 := hide hd1
 have HN := hide hn
 clear hd1 hn
 go_enter Tryz.func99, Tryz.ntmps99
 go_upto_region 1 with fail
 obtain ⟨n0, n1, hsz, hw0⟩ := jm w (.cells #[.slice A1 l1.length c1, .bool m1, .slice A2 l2.length c2, .bool m2] 52) (.cells #[.slice none 0 0, .bool false, .slice none 0 0, .bool false] 52)
 generalize ((w.alloc (.cells #[.slice A1 l1.length c1, .bool m1, .slice A2 l2.length c2, .bool m2] 52)).alloc (.cells #[.slice none 0 0, .bool false, .slice none 0 0, .bool false] 52)) = W0 at *
 have jl : W0.cell? ⟨w.heap.size, 0, none⟩ = some (.slice A1 l1.length c1) := ag n0 0
 have jk : W0.cell? ⟨w.heap.size, 1, none⟩ = some (.bool m1) := ag n0 1
 have jy : W0.cell? ⟨w.heap.size, 2, none⟩ = some (.slice A2 l2.length c2) := ag n0 2
 have ky : W0.cell? ⟨w.heap.size, 3, none⟩ = some (.bool m2) := ag n0 3
 have q0 : w.heap.size < W0.heap.size := by omega
 have jq : W0.cell? ⟨w.heap.size + 1, 0, none⟩ = some (.slice none 0 0) := ag n1 0
 have jo : W0.cell? ⟨w.heap.size + 1, 1, none⟩ = some (.bool false) := ag n1 1
 have lh : W0.cell? ⟨w.heap.size + 1, 2, none⟩ = some (.slice none 0 0) := ag n1 2
 have lv : W0.cell? ⟨w.heap.size + 1, 3, none⟩ = some (.bool false) := ag n1 3
 have q1 : w.heap.size + 1 < W0.heap.size := by omega
 have Lm := ah n1 0
 have Ll := ah n1 1
 have adr := ah n1 2
 have adq := ah n1 3
 have NR := Lib.hid n1
 clear hsz n0 n1
 replace H1 := hide ((aa H1).below hw0)
 go_upto_region 1 with fail
 have KEEP := hide (show ∀ X, Below W0.heap.size W0 X → X.cell? ⟨w.heap.size, 0, none⟩ = some (.slice A1 l1.length c1) ∧ X.cell? ⟨w.heap.size, 1, none⟩ = some (.bool m1) ∧ X.cell? ⟨w.heap.size, 2, none⟩ = some (.slice A2 l2.length c2) ∧ X.cell? ⟨w.heap.size, 3, none⟩ = some (.bool m2) from fun X hB => ⟨ai hB q0 jl, ai hB q0 jk, ai hB q0 jy, ai hB q0 ky⟩)
 go_region_held3 (fun w' => w'.cell? ⟨w.heap.size, 0, none⟩ = some (.slice A1 l1.length c1) ∧ w'.cell? ⟨w.heap.size, 1, none⟩ = some (.bool m1) ∧ w'.cell? ⟨w.heap.size, 2, none⟩ = some (.slice A2 l2.length c2) ∧ w'.cell? ⟨w.heap.size, 3, none⟩ = some (.bool m2)) (first | with_reducible exact ⟨(fu _ _ _ _ _ _ om).trans (ai hbw q0 jl), (fu _ _ _ _ _ _ om).trans (ai hbw q0 jk), (fu _ _ _ _ _ _ om).trans (ai hbw q0 jy), (fu _ _ _ _ _ _ om).trans (ai hbw q0 ky)⟩ | with_reducible exact (aa KEEP) _ bel) (first | (go_at_call_of 138 (Value.agg #[.slice A1 l1.length c1, .bool m1]); refine ((aa HN) A1 c1 l1 m1 _ (au hw0 bel) (bg.below (aa H1) bel)).mono ?_; rintro e w' ⟨A8, c8, l8, m8, rfl, wh, La⟩; have hbw := ay (w := W0) bel La; have hsw := hbw.size; obtain ⟨hc, hfz⟩ := az hbw) | (go_at_call_of 95 (Value.agg #[.slice A1 l1.length c1, .bool m1, .slice A2 l2.length c2, .bool m2]); refine ((aa HD1) _ (au hw0 bel)).mono ?_; rintro e w' ⟨A5, c5, l5, m5, rfl, kz, hb5⟩; have wh := bg.below (bg.below wh bel) hb5; have hbw := ay (w := W0) bel hb5; have hsw := hbw.size; obtain ⟨hc, hfz⟩ := az hbw))
 all_goals
  have hblk : w'.heap[w.heap.size + 1]? = some (.cells #[.slice none 0 0, .bool false, .slice none 0 0, .bool false] 52 (0, 0)) := (hbw.block _ q1).trans NR.out
  have jd := Lib.hid hblk
  have gp : Below w.heap.size w w' := au hw0 hbw
  have hfi := (wh)
  have hfj := (kz)
  clear hblk
  go_wp2_with fail
  exact bodyPost_ret (v := (Value.agg #[.slice A8 l8.length c8, .bool m8, .slice A5 l5.length c5, .bool m5])) (by simp [results, Tryz.results99, go_sem, hc, jq, jo, lh, lv, q1]) rfl
   ⟨A8, c8, l8, m8, A5, c5, l5, m5, rfl, Dp ▸ hfi.upto jd.out (qy _ _ _ _ _ _ _ _) (ig _ _ _ _ _ _), hden ▸ hfj.upto jd.out (qy _ _ _ _ _ _ _ _) (ig _ _ _ _ _ _), gp.grown (ig _ _ _ _ _ _) gp.size (fun k hk => by injection hk with hk; omega)⟩

set_option maxHeartbeats 16000000 in
theorem atq (A1 : Option Addr) (c1 : Nat) (l1 : List Nat) (m1 : Bool) (A2 : Option Addr) (c2 : Nat) (l2 : List Nat) (m2 : Bool) (A3 : Option Addr) (c3 : Nat) (l3 : List Nat) (m3 : Bool) (A4 : Option Addr) (c4 : Nat) (l4 : List Nat) (m4 : Bool) (z1 : Int) (p q : Rat) (w : World) 
  (hn : ∀ W, Below w.heap.size w W → Calls Tryz.prog 99 #[(Value.agg #[.slice A3 l3.length c3, .bool m3, .slice A4 l4.length c4, .bool m4])] W fun e w' => QR W p e w') (ha : ∀ (A7 : Option Addr) (c7 : Nat) (l7 : List Nat) (m7 : Bool) (A8 : Option Addr) (c8 : Nat) (l8 : List Nat) (m8 : Bool) (W : World), Below w.heap.size w W → bg W A7 c7 l7 m7 p.num → bg W A8 c8 l8 m8 (p.den : Int) → Calls Tryz.prog 43 #[(Value.agg #[.slice A1 l1.length c1, .bool m1, .slice A2 l2.length c2, .bool m2]), (Value.agg #[.slice A7 l7.length c7, .bool m7, .slice A8 l8.length c8, .bool m8])] W fun e w' => QR W q e w') :
  Calls Tryz.prog 44 #[(Value.agg #[.slice A1 l1.length c1, .bool m1, .slice A2 l2.length c2, .bool m2]), (Value.agg #[.slice A3 l3.length c3, .bool m3, .slice A4 l4.length c4, .bool m4])] w fun e w' => QR w q e w' := by
 have HN := hide hn
 have HA := hide ha
 clear hn ha
 go_enter Tryz.func44, Tryz.ntmps44
 go_upto_region 1 with fail
 obtain ⟨n0, n1, n2, hsz, hw0⟩ := ll w (.cells #[.slice A1 l1.length c1, .bool m1, .slice A2 l2.length c2, .bool m2] 52) (.cells #[.slice A3 l3.length c3, .bool m3, .slice A4 l4.length c4, .bool m4] 52) (.cells #[.slice none 0 0, .bool false, .slice none 0 0, .bool false] 52)
 generalize (((w.alloc (.cells #[.slice A1 l1.length c1, .bool m1, .slice A2 l2.length c2, .bool m2] 52)).alloc (.cells #[.slice A3 l3.length c3, .bool m3, .slice A4 l4.length c4, .bool m4] 52)).alloc (.cells #[.slice none 0 0, .bool false, .slice none 0 0, .bool false] 52)) = W0 at *
 have jl : W0.cell? ⟨w.heap.size, 0, none⟩ = some (.slice A1 l1.length c1) := ag n0 0
 have jk : W0.cell? ⟨w.heap.size, 1, none⟩ = some (.bool m1) := ag n0 1
 have jy : W0.cell? ⟨w.heap.size, 2, none⟩ = some (.slice A2 l2.length c2) := ag n0 2
 have ky : W0.cell? ⟨w.heap.size, 3, none⟩ = some (.bool m2) := ag n0 3
 have q0 : w.heap.size < W0.heap.size := by omega
 have jq : W0.cell? ⟨w.heap.size + 1, 0, none⟩ = some (.slice A3 l3.length c3) := ag n1 0
 have jo : W0.cell? ⟨w.heap.size + 1, 1, none⟩ = some (.bool m3) := ag n1 1
 have lh : W0.cell? ⟨w.heap.size + 1, 2, none⟩ = some (.slice A4 l4.length c4) := ag n1 2
 have lv : W0.cell? ⟨w.heap.size + 1, 3, none⟩ = some (.bool m4) := ag n1 3
 have q1 : w.heap.size + 1 < W0.heap.size := by omega
 have qw : W0.cell? ⟨w.heap.size + 1 + 1, 0, none⟩ = some (.slice none 0 0) := ag n2 0
 have qo : W0.cell? ⟨w.heap.size + 1 + 1, 1, none⟩ = some (.bool false) := ag n2 1
 have qm : W0.cell? ⟨w.heap.size + 1 + 1, 2, none⟩ = some (.slice none 0 0) := ag n2 2
 have qj : W0.cell? ⟨w.heap.size + 1 + 1, 3, none⟩ = some (.bool false) := ag n2 3
 have q2 : w.heap.size + 1 + 1 < W0.heap.size := by omega
 have uj := ah n2 0
 have ui := ah n2 1
 have uh := ah n2 2
 have ug := ah n2 3
 have NR := Lib.hid n2
 clear hsz n0 n1 n2
 go_upto_region 1 with fail
 have KEEP := hide (show ∀ X, Below W0.heap.size W0 X → X.cell? ⟨w.heap.size, 0, none⟩ = some (.slice A1 l1.length c1) ∧ X.cell? ⟨w.heap.size, 1, none⟩ = some (.bool m1) ∧ X.cell? ⟨w.heap.size, 2, none⟩ = some (.slice A2 l2.length c2) ∧ X.cell? ⟨w.heap.size, 3, none⟩ = some (.bool m2) ∧ X.cell? ⟨w.heap.size + 1, 0, none⟩ = some (.slice A3 l3.length c3) ∧ X.cell? ⟨w.heap.size + 1, 1, none⟩ = some (.bool m3) ∧ X.cell? ⟨w.heap.size + 1, 2, none⟩ = some (.slice A4 l4.length c4) ∧ X.cell? ⟨w.heap.size + 1, 3, none⟩ = some (.bool m4) from fun X hB => ⟨ai hB q0 jl, ai hB q0 jk, ai hB q0 jy, ai hB q0 ky, ai hB q1 jq, ai hB q1 jo, ai hB q1 lh, ai hB q1 lv⟩)
 go_region_held3 (fun w' => w'.cell? ⟨w.heap.size, 0, none⟩ = some (.slice A1 l1.length c1) ∧ w'.cell? ⟨w.heap.size, 1, none⟩ = some (.bool m1) ∧ w'.cell? ⟨w.heap.size, 2, none⟩ = some (.slice A2 l2.length c2) ∧ w'.cell? ⟨w.heap.size, 3, none⟩ = some (.bool m2) ∧ w'.cell? ⟨w.heap.size + 1, 0, none⟩ = some (.slice A3 l3.length c3) ∧ w'.cell? ⟨w.heap.size + 1, 1, none⟩ = some (.bool m3) ∧ w'.cell? ⟨w.heap.size + 1, 2, none⟩ = some (.slice A4 l4.length c4) ∧ w'.cell? ⟨w.heap.size + 1, 3, none⟩ = some (.bool m4)) (first | with_reducible exact ⟨(fu _ _ _ _ _ _ om).trans (ai hbw q0 jl), (fu _ _ _ _ _ _ om).trans (ai hbw q0 jk), (fu _ _ _ _ _ _ om).trans (ai hbw q0 jy), (fu _ _ _ _ _ _ om).trans (ai hbw q0 ky), (fu _ _ _ _ _ _ om).trans (ai hbw q1 jq), (fu _ _ _ _ _ _ om).trans (ai hbw q1 jo), (fu _ _ _ _ _ _ om).trans (ai hbw q1 lh), (fu _ _ _ _ _ _ om).trans (ai hbw q1 lv)⟩ | with_reducible exact (aa KEEP) _ bel) (first | (go_at_call_of 99 (Value.agg #[.slice A3 l3.length c3, .bool m3, .slice A4 l4.length c4, .bool m4]); refine ((aa HN) _ (au hw0 bel)).mono ?_; rintro e w' ⟨A5, c5, l5, m5, A6, c6, l6, m6, rfl, kz, og, hb5⟩; have hbw := ay (w := W0) bel hb5; have hsw := hbw.size; obtain ⟨hc, hfz⟩ := az hbw) | (go_at_call_of 43 (Value.agg #[.slice A1 l1.length c1, .bool m1, .slice A2 l2.length c2, .bool m2]); refine ((aa HA) A5 c5 l5 m5 A6 c6 l6 m6 _ (au hw0 bel) (bg.below kz bel) (bg.below og bel)).mono ?_; rintro e w' ⟨A7, c7, l7, m7, A8, c8, l8, m8, rfl, Au, wh, yf⟩; have kz := bg.below (bg.below kz bel) yf; have og := bg.below (bg.below og bel) yf; have hbw := ay (w := W0) bel yf; have hsw := hbw.size; obtain ⟨hc, hfz⟩ := az hbw))
 all_goals
  have hblk : w'.heap[w.heap.size + 1 + 1]? = some (.cells #[.slice none 0 0, .bool false, .slice none 0 0, .bool false] 52 (0, 0)) := (hbw.block _ q2).trans NR.out
  have jd := Lib.hid hblk
  have gp : Below w.heap.size w w' := au hw0 hbw
  have hfi := (Au)
  have hfj := (wh)
  clear hblk
  go_wp2_with fail
  exact bodyPost_ret (v := (Value.agg #[.slice A7 l7.length c7, .bool m7, .slice A8 l8.length c8, .bool m8])) (by simp [results, Tryz.results44, go_sem, hc, qw, qo, qm, qj, q2]) rfl
   ⟨A7, c7, l7, m7, A8, c8, l8, m8, rfl, hfi.upto jd.out (qy _ _ _ _ _ _ _ _) (ig _ _ _ _ _ _), hfj.upto jd.out (qy _ _ _ _ _ _ _ _) (ig _ _ _ _ _ _), gp.grown (ig _ _ _ _ _ _) gp.size (fun k hk => by injection hk with hk; omega)⟩

end Go.Proofs.YtpjgoogeokbaaaaGreatDoor
namespace Go.Proofs.YtpjgoogeokbaaaaGreatDoor
open Go.RowKit

namespace Wd
theorem bcv (x y : Rat) : x + y = Rat.divInt (x.num * (y.den : Int) + y.num * (x.den : Int)) ((x.den : Int) * (y.den : Int)) := by
 have hx := x.den_nz; have hy := y.den_nz
 conv => lhs; rw [← Rat.num_divInt_den x, ← Rat.num_divInt_den y]
 exact Rat.divInt_add_divInt _ _ om om
theorem aoy (x y : Rat) : x * y = Rat.divInt (x.num * y.num) ((x.den : Int) * (y.den : Int)) := by
 conv => lhs; rw [← Rat.num_divInt_den x, ← Rat.num_divInt_den y]
 exact Rat.divInt_mul_divInt _ _
theorem bpb (x y : Rat) : x / y = Rat.divInt (x.num * (y.den : Int)) ((x.den : Int) * y.num) := by
 rw [Rat.div_def]
 conv => lhs; rw [← Rat.num_divInt_den x, Rat.inv_def]
 exact Rat.divInt_mul_divInt _ _
theorem Vv (n : Int) : (Rat.divInt n 1).num = n ∧ (Rat.divInt n 1).den = 1 := by
 have h : Rat.divInt n 1 = (n : Rat) := by
  rw [← Rat.num_divInt_den (n : Rat)]; rfl
 rw [h]
 exact ⟨rfl, rfl⟩
theorem bcw {x y : Rat} (hx : (x.den : Int) = 1) (hy : (y.den : Int) = 1) : x.num + y.num = (x + y).num ∧ (x.den : Int) = ((x + y).den : Int) := by
 have h : x + y = Rat.divInt (x.num + y.num) 1 := by
  rw [bcv, hx, hy]; simp
 rw [h, (Vv _).1, (Vv _).2]; exact ⟨rfl, hx⟩
theorem bbt {x y : Rat} (hx : (x.den : Int) = 1) (hy : (y.den : Int) = 1) : x.num * y.num = (x * y).num ∧ (x.den : Int) = ((x * y).den : Int) := by
 have h : x * y = Rat.divInt (x.num * y.num) 1 := by
  rw [aoy, hx, hy]; simp
 rw [h, (Vv _).1, (Vv _).2]; exact ⟨rfl, hx⟩
def xy (B K : Nat) (q : Rat) : Prop := Sz B K q.num ∧ Sz B K (q.den : Int)
end Wd

theorem Oa {w : World} {a b c : Int} {K L : Nat} (ha : Wd.Sz di K a) (hb : Wd.Sz di L b) (hK : K + L ≤ 35184372088832) (e : c = a * b) : Gz w 98 a b c := by
 subst e
 exact fun A1 c1 l1 m1 A2 c2 l2 m2 W _ f g => ahu A1 c1 l1 m1 a A2 c2 l2 m2 b W f g (by have := f.len ha; have := g.len hb; omega)
theorem auf {w : World} {a b c : Int} {K L : Nat} (ha : Wd.Sz di K a) (hb : Wd.Sz di L b) (hK : K + L + 1 ≤ 35184372088832) (e : c = a + b) : Gz w 97 a b c := by
 subst e
 exact fun A1 c1 l1 m1 A2 c2 l2 m2 W _ f g => axz A1 c1 l1 m1 a A2 c2 l2 m2 b W f g (by have := f.len ha; have := g.len hb; omega)
theorem Xk {w : World} {a b : Int} {q : Rat} {K : Nat} (ha : Wd.Sz di K a) (hb : Wd.Sz di K b) (h0 : b ≠ 0) (hK : K + 1 ≤ 35184372088832) (e : q = Rat.divInt a b) : adx w 92 a b q := by
 subst e
 exact fun A1 c1 l1 m1 A2 c2 l2 m2 W _ f g => Sg A1 c1 l1 m1 a A2 c2 l2 m2 b K W f g h0 ha hb hK
theorem Lt {w : World} {b : Int} {o : Bool} (h : o = decide (b = 1)) : ∀ (A7 : Option Addr) (c7 : Nat) (l7 : List Nat) (m7 : Bool) (W : World), Below w.heap.size w W → bg W A7 c7 l7 m7 b → Calls Tryz.prog 96 #[(Value.agg #[.slice A7 l7.length c7, .bool m7])] W fun e w' => e = .returned (.bool o) ∧ Below W.heap.size W w' := by
 subst h
 exact fun A c l m W _ f => Yv A c l m b W f

theorem aej (K : Nat) (A1 : Option Addr) (c1 : Nat) (l1 : List Nat) (m1 : Bool) (A2 : Option Addr) (c2 : Nat) (l2 : List Nat) (m2 : Bool) (A3 : Option Addr) (c3 : Nat) (l3 : List Nat) (m3 : Bool) (A4 : Option Addr) (c4 : Nat) (l4 : List Nat) (m4 : Bool) (x y : Rat) (w : World) (h1 : QV w A1 c1 l1 m1 A2 c2 l2 m2 x) (h2 : QV w A3 c3 l3 m3 A4 c4 l4 m4 y) (sx : Wd.xy di K x) (sy : Wd.xy di K y) (hK : 4 * K + 4 ≤ 35184372088832) :
  Calls Tryz.prog 43 #[.agg #[.slice A1 l1.length c1, .bool m1, .slice A2 l2.length c2, .bool m2], .agg #[.slice A3 l3.length c3, .bool m3, .slice A4 l4.length c4, .bool m4]] w fun e w' => QR w (x + y) e w' := by
 have hd1 := fun W (hW : Below w.heap.size w W) => Dm A1 c1 l1 m1 A2 c2 l2 m2 x W (h1.below hW)
 have hd3 := fun W (hW : Below w.heap.size w W) => Dm A3 c3 l3 m3 A4 c4 l4 m4 y W (h2.below hW)
 have hx := x.den_nz; have hy := y.den_nz
 have s1 : Wd.Sz di (2 * K + 1) (x.num * (y.den : Int) + y.num * (x.den : Int)) := by
  have a := sx.1.mul sy.2; have b := sy.1.mul sx.2
  rw [← Nat.two_mul] at a b
  exact a.add zx b
 have s2 : Wd.Sz di (2 * K + 1) ((x.den : Int) * (y.den : Int)) := (sx.2.mul sy.2).mono zx om
 have a1 := Oa (w := w) sx.1 sy.2 om rfl
 have a3 := Oa (w := w) sy.1 sx.2 om rfl
 have an := auf (w := w) (sx.1.mul sy.2) (sy.1.mul sx.2) om rfl
 have am := Oa (w := w) sx.2 sy.2 om rfl
 have ar := Xk (w := w) s1 s2 (Int.mul_ne_zero om om) om (Wd.bcv x y)
 by_cases e1 : (x.den : Int) = 1
 ·
  by_cases e2 : (y.den : Int) = 1
  ·
   exact bgl A1 c1 l1 m1 A2 c2 l2 m2 A3 c3 l3 m3 A4 c4 l4 m4 x.num (x.den : Int) y.num (y.den : Int) _ (x + y) w h1.num h2.num hd1 hd3 (Lt (decide_eq_true e1).symm) (Lt (decide_eq_true e2).symm) (auf sx.1 sy.1 om rfl) (Wd.bcw e1 e2).1 (Wd.bcw e1 e2).2
  ·
   exact bgm A1 c1 l1 m1 A2 c2 l2 m2 A3 c3 l3 m3 A4 c4 l4 m4 x.num (x.den : Int) y.num (y.den : Int) _ _ _ _ (x + y) w h1.num h2.num hd1 hd3 (Lt (decide_eq_true e1).symm) (Lt (decide_eq_false e2).symm) a1 a3 an am ar
 ·
  exact bid A1 c1 l1 m1 A2 c2 l2 m2 A3 c3 l3 m3 A4 c4 l4 m4 x.num (x.den : Int) y.num (y.den : Int) _ _ _ _ (x + y) w h1.num h2.num hd1 hd3 (Lt (decide_eq_false e1).symm) a1 a3 an am ar
theorem asg (A1 : Option Addr) (c1 : Nat) (l1 : List Nat) (m1 : Bool) (A2 : Option Addr) (c2 : Nat) (l2 : List Nat) (m2 : Bool) (x : Rat) (w : World) (h1 : QV w A1 c1 l1 m1 A2 c2 l2 m2 x) :
  Calls Tryz.prog 99 #[.agg #[.slice A1 l1.length c1, .bool m1, .slice A2 l2.length c2, .bool m2]] w fun e w' => QR w (-x) e w' :=
 atr A1 c1 l1 m1 A2 c2 l2 m2 x.num (x.den : Int) (-x.num) x (-x) w h1.num (fun W hW => Dm A1 c1 l1 m1 A2 c2 l2 m2 x W (h1.below hW)) (fun A c l m W _ f => Xe A c l m x.num W f) rfl rfl
theorem asf (K : Nat) (A1 : Option Addr) (c1 : Nat) (l1 : List Nat) (m1 : Bool) (A2 : Option Addr) (c2 : Nat) (l2 : List Nat) (m2 : Bool) (A3 : Option Addr) (c3 : Nat) (l3 : List Nat) (m3 : Bool) (A4 : Option Addr) (c4 : Nat) (l4 : List Nat) (m4 : Bool) (x y : Rat) (w : World) (h1 : QV w A1 c1 l1 m1 A2 c2 l2 m2 x) (h2 : QV w A3 c3 l3 m3 A4 c4 l4 m4 y) (sx : Wd.xy di K x) (sy : Wd.xy di K y) (hK : 4 * K + 4 ≤ 35184372088832) :
  Calls Tryz.prog 44 #[.agg #[.slice A1 l1.length c1, .bool m1, .slice A2 l2.length c2, .bool m2], .agg #[.slice A3 l3.length c3, .bool m3, .slice A4 l4.length c4, .bool m4]] w fun e w' => QR w (x - y) e w' := by
 rw [Rat.sub_eq_add_neg]
 exact atq A1 c1 l1 m1 A2 c2 l2 m2 A3 c3 l3 m3 A4 c4 l4 m4 0 (-y) (x + -y) w (fun W hW => asg A3 c3 l3 m3 A4 c4 l4 m4 y W (h2.below hW))
  (fun A5 c5 l5 m5 A6 c6 l6 m6 W hW f g => aej K A1 c1 l1 m1 A2 c2 l2 m2 A5 c5 l5 m5 A6 c6 l6 m6 x (-y) W (h1.below hW) (QV.of f g) sx ⟨sy.1.neg, sy.2⟩ hK)
end Go.Proofs.YtpjgoogeokbaaaaGreatDoor
