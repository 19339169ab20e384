/- Texts beneath a law of layer 1. -/
import Derived.Test.YtpjgoogeokbaaaaGreatDoorCk14
set_option maxRecDepth 100000
namespace Go.Proofs.YtpjgoogeokbaaaaGreatDoor
open Go.RowKit

def oh : World → World → Prop := fun w w' => Below w.heap.size w w'
theorem oh.drew (w : World) : oh w w.drew := (Below.refl _ _).drew
theorem Md {P : Program} {F : Nat} {fn : Func} (h : P.funcs[F]? = some fn) (hn : (!(fn.name == "runtime.NumGoroutine") && fn.body.isSome) = true) (vs : Array Value) (w : World) : (callFunc F vs).run P w = .ok (.enter F vs) w := by
 simp only [Bool.and_eq_true, Bool.not_eq_true', beq_eq_false_iff_ne] at hn
 have h2 : ¬ fn.body = none := by intro e; rw [e] at hn; exact absurd hn.2 (by simp)
 unfold callFunc
 simp [go_sem, h]
 rw [if_neg hn.1, if_neg h2]
theorem Sl {P : Program} {F : Nat} (hF : ∀ (vs : Array Value) (w : World), (callFunc F vs).run P w = .ok (.enter F vs) w) {a : Act} {w : World} {d : Option Tmp} {xs : Array Operand} {ats : Array TypeId} {ty : TypeId} {pos : String} {af : Array Edge} {gd : Option (Nat × Bool)} :
  (execOp a.eval { dst := d, op := .call { callee := .value (.func F), args := xs, argTypes := ats }, type := ty, pos := pos, after := af, guard := gd }).run P w = .ok (.enter F (xs.map a.eval)) w := by
 have h := hF (#[] ++ xs.map a.eval ++ #[]) w
 rw [Array.empty_append, Array.append_empty] at h
 rw [← h]
 simp only [execOp, resolve, Act.eval, Deferred.ofValue, invoke]
 simp only [pure_bind, Array.empty_append, Array.append_empty]
theorem bge {P : Program} {a : Act} {w : World} {d : Option Tmp} {x : Operand} {i : Nat} {ty : TypeId} {pos : String} {af : Array Edge} {gd : Option (Nat × Bool)} {vs : Array Value} {u : Value} (h : a.eval x = .tuple vs) (hu : vs[i]? = some u) :
  (execOp a.eval { dst := d, op := .extract x i, type := ty, pos := pos, after := af, guard := gd }).run P w = .ok (.value u) w := by
 simp only [execOp, h]
 simp [go_sem, hu]
theorem Ao {P : Program} {o : Oper} {a : Act} {w w' : World} {v : Value} {K : Act → World → Prop} {Q : Exit → Act → World → Prop} (h : (execOp a.eval o).run P w = .ok (.value v) w') (hK : K (a.put o.dst v) w') : o.wp P a w K Q := by
 unfold Oper.wp; rw [h]; exact hK
theorem Sb {P : Program} {o : Oper} {a : Act} {w w' : World} {F : Nat} {vs : Array Value} {K : Act → World → Prop} {Q : Exit → Act → World → Prop} (h : (execOp a.eval o).run P w = .ok (.enter F vs) w') (hK : Calls P F vs w' (fun e w'' => ∃ v, e = .returned v ∧ K (a.put o.dst v) w'')) : o.wp P a w K Q := by
 unfold Oper.wp; rw [h]
 refine hK.mono ?_
 rintro e w'' ⟨v, rfl, h⟩; exact h
theorem ade {P : Program} {Q : Exit → Act → World → Prop} {l : List Oper} {n : Nat} {T : Nat → World → Value → Prop} {G : World → Prop} {al : List Nat} {a0 : Act} {k F d : Nat} {fn : Func}  {ats : Array TypeId} {ty : TypeId} {pos : String} {af : Array Edge} {gd : Option (Nat × Bool)}
  (hF : P.funcs[F]? = some fn) (hn : (!(fn.name == "runtime.NumGoroutine") && fn.body.isSome) = true) (hal : al.contains k = false) (Uq : ∀ W W', G W → oh W W' → G W') 
  (hc : ∀ (W : World) , G W → Calls P F #[] W fun e w' => ∃ u, e = .returned u ∧ oh W w' ∧ T k w' u) :
  Rg.Step P Q l n T G oh al a0 k { dst := some d, op := .call { callee := .value (.func F), args := #[], argTypes := ats }, type := ty, pos := pos, after := af, guard := gd } := by
 intro a w hG hO hN
 refine Sb (Sl (Md hF hn)) ?_
 simp only [List.map_toArray, List.map_cons, List.map_nil]
 refine (hc w  hG ).mono ?_
 rintro e w' ⟨u, rfl, hb, ht⟩
 exact ⟨u, rfl, u, rfl, Uq _ _ hG hb, hb, ht, fun h => by rw [hal] at h; cases h⟩
theorem lg {P : Program} {Q : Exit → Act → World → Prop} {l : List Oper} {n : Nat} {T : Nat → World → Value → Prop} {G : World → Prop} {al : List Nat} {a0 : Act} {k F d : Nat} {fn : Func} {x1 : Operand} {A1 : World → Value → Prop} {ats : Array TypeId} {ty : TypeId} {pos : String} {af : Array Edge} {gd : Option (Nat × Bool)}
  (hF : P.funcs[F]? = some fn) (hn : (!(fn.name == "runtime.NumGoroutine") && fn.body.isSome) = true) (hal : al.contains k = false) (Uq : ∀ W W', G W → oh W W' → G W') (h1 : Rg.xc l n T a0 k x1 A1)
  (hc : ∀ (W : World) (v1 : Value), G W → A1 W v1 → Calls P F #[v1] W fun e w' => ∃ u, e = .returned u ∧ oh W w' ∧ T k w' u) :
  Rg.Step P Q l n T G oh al a0 k { dst := some d, op := .call { callee := .value (.func F), args := #[x1], argTypes := ats }, type := ty, pos := pos, after := af, guard := gd } := by
 intro a w hG hO hN
 refine Sb (Sl (Md hF hn)) ?_
 simp only [List.map_toArray, List.map_cons, List.map_nil]
 refine (hc w (a.eval x1) hG (h1 a w hO hN)).mono ?_
 rintro e w' ⟨u, rfl, hb, ht⟩
 exact ⟨u, rfl, u, rfl, Uq _ _ hG hb, hb, ht, fun h => by rw [hal] at h; cases h⟩
theorem jh {P : Program} {Q : Exit → Act → World → Prop} {l : List Oper} {n : Nat} {T : Nat → World → Value → Prop} {G : World → Prop} {al : List Nat} {a0 : Act} {k F d : Nat} {fn : Func} {x1 x2 : Operand} {A1 A2 : World → Value → Prop} {ats : Array TypeId} {ty : TypeId} {pos : String} {af : Array Edge} {gd : Option (Nat × Bool)}
  (hF : P.funcs[F]? = some fn) (hn : (!(fn.name == "runtime.NumGoroutine") && fn.body.isSome) = true) (hal : al.contains k = false) (Uq : ∀ W W', G W → oh W W' → G W') (h1 : Rg.xc l n T a0 k x1 A1) (h2 : Rg.xc l n T a0 k x2 A2)
  (hc : ∀ (W : World) (v1 v2 : Value), G W → A1 W v1 → A2 W v2 → Calls P F #[v1, v2] W fun e w' => ∃ u, e = .returned u ∧ oh W w' ∧ T k w' u) :
  Rg.Step P Q l n T G oh al a0 k { dst := some d, op := .call { callee := .value (.func F), args := #[x1, x2], argTypes := ats }, type := ty, pos := pos, after := af, guard := gd } := by
 intro a w hG hO hN
 refine Sb (Sl (Md hF hn)) ?_
 simp only [List.map_toArray, List.map_cons, List.map_nil]
 refine (hc w (a.eval x1) (a.eval x2) hG (h1 a w hO hN) (h2 a w hO hN)).mono ?_
 rintro e w' ⟨u, rfl, hb, ht⟩
 exact ⟨u, rfl, u, rfl, Uq _ _ hG hb, hb, ht, fun h => by rw [hal] at h; cases h⟩
theorem ami {P : Program} {Q : Exit → Act → World → Prop} {l : List Oper} {n : Nat} {T : Nat → World → Value → Prop} {G : World → Prop} {al : List Nat} {a0 : Act} {k F d : Nat} {fn : Func} {x1 x2 x3 x4 x5 : Operand} {A1 A2 A3 A4 A5 : World → Value → Prop} {ats : Array TypeId} {ty : TypeId} {pos : String} {af : Array Edge} {gd : Option (Nat × Bool)}
  (hF : P.funcs[F]? = some fn) (hn : (!(fn.name == "runtime.NumGoroutine") && fn.body.isSome) = true) (hal : al.contains k = false) (Uq : ∀ W W', G W → oh W W' → G W') (h1 : Rg.xc l n T a0 k x1 A1) (h2 : Rg.xc l n T a0 k x2 A2) (h3 : Rg.xc l n T a0 k x3 A3) (h4 : Rg.xc l n T a0 k x4 A4) (h5 : Rg.xc l n T a0 k x5 A5)
  (hc : ∀ (W : World) (v1 v2 v3 v4 v5 : Value), G W → A1 W v1 → A2 W v2 → A3 W v3 → A4 W v4 → A5 W v5 → Calls P F #[v1, v2, v3, v4, v5] W fun e w' => ∃ u, e = .returned u ∧ oh W w' ∧ T k w' u) :
  Rg.Step P Q l n T G oh al a0 k { dst := some d, op := .call { callee := .value (.func F), args := #[x1, x2, x3, x4, x5], argTypes := ats }, type := ty, pos := pos, after := af, guard := gd } := by
 intro a w hG hO hN
 refine Sb (Sl (Md hF hn)) ?_
 simp only [List.map_toArray, List.map_cons, List.map_nil]
 refine (hc w (a.eval x1) (a.eval x2) (a.eval x3) (a.eval x4) (a.eval x5) hG (h1 a w hO hN) (h2 a w hO hN) (h3 a w hO hN) (h4 a w hO hN) (h5 a w hO hN)).mono ?_
 rintro e w' ⟨u, rfl, hb, ht⟩
 exact ⟨u, rfl, u, rfl, Uq _ _ hG hb, hb, ht, fun h => by rw [hal] at h; cases h⟩
theorem xe {P : Program} {Q : Exit → Act → World → Prop} {l : List Oper} {n : Nat} {T : Nat → World → Value → Prop} {G : World → Prop} {al : List Nat} {a0 : Act} {k d : Nat} {x : Operand} {ty : TypeId} {pos : String} {af : Array Edge} {gd : Option (Nat × Bool)}
  (hal : al.contains k = false) (hx : Rg.xc l n T a0 k x (T k)) : Rg.Step P Q l n T G oh al a0 k { dst := some d, op := .move x, type := ty, pos := pos, after := af, guard := gd } := by
 intro a w hG hO hN
 exact Ao (v := a.eval x) (w' := w) rfl ⟨_, rfl, hG, Below.refl _ _, hx a w hO hN, fun h => by rw [hal] at h; cases h⟩
theorem xz {P : Program} {Q : Exit → Act → World → Prop} {l : List Oper} {n : Nat} {T : Nat → World → Value → Prop} {G : World → Prop} {al : List Nat} {a0 : Act} {k d : Nat} {x : Operand} {ty : TypeId} {pos : String} {af : Array Edge} {gd : Option (Nat × Bool)}
  (hal : al.contains k = false) (hx : Rg.xc l n T a0 k x (T k)) : Rg.Step P Q l n T G oh al a0 k { dst := some d, op := .assign x, type := ty, pos := pos, after := af, guard := gd } := by
 intro a w hG hO hN
 exact Ao (v := a.eval x) (w' := w) rfl ⟨_, rfl, hG, Below.refl _ _, hx a w hO hN, fun h => by rw [hal] at h; cases h⟩
theorem bbq {P : Program} {Q : Exit → Act → World → Prop} {l : List Oper} {n : Nat} {T : Nat → World → Value → Prop} {G : World → Prop} {al : List Nat} {a0 : Act} {k d i : Nat} {x : Operand} {A : World → Value → Prop} {ty : TypeId} {pos : String} {af : Array Edge} {gd : Option (Nat × Bool)}
  (hal : al.contains k = false) (hx : Rg.xc l n T a0 k x A) (hi : ∀ W v, A W v → ∃ vs, v = .tuple vs ∧ ∃ u, vs[i]? = some u ∧ T k W u) : Rg.Step P Q l n T G oh al a0 k { dst := some d, op := .extract x i, type := ty, pos := pos, after := af, guard := gd } := by
 intro a w hG hO hN
 obtain ⟨vs, h1, u, h2, h3⟩ := hi _ _ (hx a w hO hN)
 exact Ao (bge h1 h2) ⟨_, rfl, hG, Below.refl _ _, h3, fun h => by rw [hal] at h; cases h⟩
theorem aik {P : Program} {a : Act} {w : World} {d : Option Tmp} {c x y : Operand} {b : Bool} {ty : TypeId} {pos : String} {af : Array Edge} {gd : Option (Nat × Bool)} (h : a.eval c = .bool b) :
  (execOp a.eval { dst := d, op := .pick c x y, type := ty, pos := pos, after := af, guard := gd }).run P w = .ok (.value (if b then a.eval x else a.eval y)) w := by
 simp only [execOp, h]
 cases b <;> simp [go_sem]
theorem aih {P : Program} {Q : Exit → Act → World → Prop} {l : List Oper} {n : Nat} {T : Nat → World → Value → Prop} {G : World → Prop} {al : List Nat} {a0 : Act} {k d : Nat} {c x y : Operand} {ty : TypeId} {pos : String} {af : Array Edge} {gd : Option (Nat × Bool)}
  (hal : al.contains k = false) (hc : Rg.xc l n T a0 k c (Rg.ji (.bool true))) (hx : Rg.xc l n T a0 k x (T k)) : Rg.Step P Q l n T G oh al a0 k { dst := some d, op := .pick c x y, type := ty, pos := pos, after := af, guard := gd } := by
 intro a w hG hO hN
 exact Ao (aik (hc a w hO hN)) ⟨_, rfl, hG, Below.refl _ _, hx a w hO hN, fun h => by rw [hal] at h; cases h⟩
theorem ayf {P : Program} {Q : Exit → Act → World → Prop} {l : List Oper} {n : Nat} {T : Nat → World → Value → Prop} {G : World → Prop} {al : List Nat} {a0 : Act} {k d : Nat} {c x y : Operand} {ty : TypeId} {pos : String} {af : Array Edge} {gd : Option (Nat × Bool)}
  (hal : al.contains k = false) (hc : Rg.xc l n T a0 k c (Rg.ji (.bool false))) (hy : Rg.xc l n T a0 k y (T k)) : Rg.Step P Q l n T G oh al a0 k { dst := some d, op := .pick c x y, type := ty, pos := pos, after := af, guard := gd } := by
 intro a w hG hO hN
 exact Ao (aik (hc a w hO hN)) ⟨_, rfl, hG, Below.refl _ _, hy a w hO hN, fun h => by rw [hal] at h; cases h⟩
theorem bga {P : Program} {a : Act} {w : World} {d : Option Tmp} {x : Operand} {b : Bool} {tb ty : TypeId} {pos : String} {af : Array Edge} {gd : Option (Nat × Bool)} (h : a.eval x = .bool b) :
  (execOp a.eval { dst := d, op := .unOp .not tb x, type := ty, pos := pos, after := af, guard := gd }).run P w = .ok (.value (.bool (!b))) w := by
 simp only [execOp, h]
 simp [go_sem]
theorem bbo {P : Program} {Q : Exit → Act → World → Prop} {l : List Oper} {n : Nat} {T : Nat → World → Value → Prop} {G : World → Prop} {al : List Nat} {a0 : Act} {k d : Nat} {x : Operand} {b c : Bool} {tb ty : TypeId} {pos : String} {af : Array Edge} {gd : Option (Nat × Bool)}
  (hal : al.contains k = false) (hx : Rg.xc l n T a0 k x (Rg.ji (.bool b))) (hT : T k = Rg.ji (.bool c)) (hb : (!b) = c) : Rg.Step P Q l n T G oh al a0 k { dst := some d, op := .unOp .not tb x, type := ty, pos := pos, after := af, guard := gd } := by
 intro a w hG hO hN
 exact Ao (bga (hx a w hO hN)) ⟨_, rfl, hG, Below.refl _ _, by rw [hT, ← hb]; rfl, fun h => by rw [hal] at h; cases h⟩
theorem bgc {ρ : Operand → Value} {w : World} {d : Option Tmp} {x y : Operand} {o z : Int} {ty : TypeId} {pos : String} {af : Array Edge} {gd : Option (Nat × Bool)} (h : ρ x = .int .i64 o) (h' : ρ y = .int .i64 z) :
  (execOp ρ { dst := d, op := .binOp .leq 3 x y 3, type := ty, pos := pos, after := af, guard := gd }).run Tryz.prog w = .ok (.value (.bool (decide (o ≤ z)))) w := by
 simp only [execOp, h, h']
 simp [go_sem, Tryz.underlying3]
theorem bbp {Q : Exit → Act → World → Prop} {l : List Oper} {n : Nat} {T : Nat → World → Value → Prop} {G : World → Prop} {al : List Nat} {a0 : Act} {k d : Nat} {x y : Operand} {o z : Int} {ty : TypeId} {pos : String} {af : Array Edge} {gd : Option (Nat × Bool)} {b : Bool}
  (hal : al.contains k = false) (hx : Rg.xc l n T a0 k x (Rg.ji (.int .i64 o))) (hy : Rg.xc l n T a0 k y (Rg.ji (.int .i64 z))) (hT : T k = Rg.ji (.bool b)) (hb : (decide (o ≤ z)) = b) : Rg.Step Tryz.prog Q l n T G oh al a0 k { dst := some d, op := .binOp .leq 3 x y 3, type := ty, pos := pos, after := af, guard := gd } := by
 intro a w hG hO hN
 exact Ao (P := Tryz.prog) (bgc (hx a w hO hN) (hy a w hO hN)) ⟨_, rfl, hG, Below.refl _ _, by rw [hT, hb]; rfl, fun h => by rw [hal] at h; cases h⟩
theorem bgb {ρ : Operand → Value} {w : World} {d : Option Tmp} {x y : Operand} {o z : Int} {ty : TypeId} {pos : String} {af : Array Edge} {gd : Option (Nat × Bool)} (h : ρ x = .int .i64 o) (h' : ρ y = .int .i64 z) :
  (execOp ρ { dst := d, op := .binOp .lss 3 x y 3, type := ty, pos := pos, after := af, guard := gd }).run Tryz.prog w = .ok (.value (.bool (decide (o < z)))) w := by
 simp only [execOp, h, h']
 simp [go_sem, Tryz.underlying3]
theorem Sk {Q : Exit → Act → World → Prop} {l : List Oper} {n : Nat} {T : Nat → World → Value → Prop} {G : World → Prop} {al : List Nat} {a0 : Act} {k d : Nat} {x y : Operand} {o z : Int} {ty : TypeId} {pos : String} {af : Array Edge} {gd : Option (Nat × Bool)} {b : Bool}
  (hal : al.contains k = false) (hx : Rg.xc l n T a0 k x (Rg.ji (.int .i64 o))) (hy : Rg.xc l n T a0 k y (Rg.ji (.int .i64 z))) (hT : T k = Rg.ji (.bool b)) (hb : (decide (o < z)) = b) : Rg.Step Tryz.prog Q l n T G oh al a0 k { dst := some d, op := .binOp .lss 3 x y 3, type := ty, pos := pos, after := af, guard := gd } := by
 intro a w hG hO hN
 exact Ao (P := Tryz.prog) (bgb (hx a w hO hN) (hy a w hO hN)) ⟨_, rfl, hG, Below.refl _ _, by rw [hT, hb]; rfl, fun h => by rw [hal] at h; cases h⟩
theorem bgd {ρ : Operand → Value} {w : World} {d : Option Tmp} {x y : Operand} {o z : Int} {ty : TypeId} {pos : String} {af : Array Edge} {gd : Option (Nat × Bool)} (h : ρ x = .int .i64 o) (h' : ρ y = .int .i64 z) :
  (execOp ρ { dst := d, op := .binOp .gtr 3 x y 3, type := ty, pos := pos, after := af, guard := gd }).run Tryz.prog w = .ok (.value (.bool (decide (z < o)))) w := by
 simp only [execOp, h, h']
 simp [go_sem, Tryz.underlying3]
theorem Jl {Q : Exit → Act → World → Prop} {l : List Oper} {n : Nat} {T : Nat → World → Value → Prop} {G : World → Prop} {al : List Nat} {a0 : Act} {k d : Nat} {x y : Operand} {o z : Int} {ty : TypeId} {pos : String} {af : Array Edge} {gd : Option (Nat × Bool)} {b : Bool}
  (hal : al.contains k = false) (hx : Rg.xc l n T a0 k x (Rg.ji (.int .i64 o))) (hy : Rg.xc l n T a0 k y (Rg.ji (.int .i64 z))) (hT : T k = Rg.ji (.bool b)) (hb : (decide (z < o)) = b) : Rg.Step Tryz.prog Q l n T G oh al a0 k { dst := some d, op := .binOp .gtr 3 x y 3, type := ty, pos := pos, after := af, guard := gd } := by
 intro a w hG hO hN
 exact Ao (P := Tryz.prog) (bgd (hx a w hO hN) (hy a w hO hN)) ⟨_, rfl, hG, Below.refl _ _, by rw [hT, hb]; rfl, fun h => by rw [hal] at h; cases h⟩
theorem bgf {ρ : Operand → Value} {w : World} {d : Option Tmp} {x y : Operand} {o z : Int} {ty : TypeId} {pos : String} {af : Array Edge} {gd : Option (Nat × Bool)} (h : ρ x = .int .i64 o) (h' : ρ y = .int .i64 z) :
  (execOp ρ { dst := d, op := .binOp .eql 3 x y 3, type := ty, pos := pos, after := af, guard := gd }).run Tryz.prog w = .ok (.value (.bool ((o == z)))) w := by
 simp only [execOp, h, h']
 simp [go_sem, Tryz.underlying3]
theorem Ls {Q : Exit → Act → World → Prop} {l : List Oper} {n : Nat} {T : Nat → World → Value → Prop} {G : World → Prop} {al : List Nat} {a0 : Act} {k d : Nat} {x y : Operand} {o z : Int} {ty : TypeId} {pos : String} {af : Array Edge} {gd : Option (Nat × Bool)} {b : Bool}
  (hal : al.contains k = false) (hx : Rg.xc l n T a0 k x (Rg.ji (.int .i64 o))) (hy : Rg.xc l n T a0 k y (Rg.ji (.int .i64 z))) (hT : T k = Rg.ji (.bool b)) (hb : ((o == z)) = b) : Rg.Step Tryz.prog Q l n T G oh al a0 k { dst := some d, op := .binOp .eql 3 x y 3, type := ty, pos := pos, after := af, guard := gd } := by
 intro a w hG hO hN
 exact Ao (P := Tryz.prog) (bgf (hx a w hO hN) (hy a w hO hN)) ⟨_, rfl, hG, Below.refl _ _, by rw [hT, hb]; rfl, fun h => by rw [hal] at h; cases h⟩
def ek (q : Rat) : World → Value → Prop := fun W v => ∃ A1 c1 l1 m1 A2 c2 l2 m2, v = (Value.agg #[.slice A1 (List.length l1) c1, .bool m1, .slice A2 (List.length l2) c2, .bool m2]) ∧ QV W A1 c1 l1 m1 A2 c2 l2 m2 q
theorem df (q : Rat) : Rg.Qe oh (ek q) := by
 rintro w w' v hb ⟨A1, c1, l1, m1, A2, c2, l2, m2, rfl, h⟩
 exact ⟨_, _, _, _, _, _, _, _, rfl, h.below hb⟩
def Dq (B : Nat) : World → Value → Prop := fun W v => ∃ b, v = .pointer (some ⟨b, 0, none⟩) ∧ B ≤ b ∧ vo W b 0
theorem Dn (B : Nat) : Rg.Qe oh (Dq B) := by
 rintro w w' v hb ⟨b, rfl, h1, h2⟩
 exact ⟨b, rfl, h1, h2.below hb⟩
theorem akm {W : World} {b : Nat} (h : W.heap[b]? = some (.cells #[.slice none 0 0, .bool false, .slice none 0 0, .bool false] 52 (0, 0))) : vo W b 0 :=
 have h0 : bg W none 0 [] false 0 := ⟨rq.Qa W 0 om, rfl⟩
 ⟨none, 0, [], false, none, 0, [], false, h, h0, 0, h0, .inr ⟨rfl, rfl⟩⟩
theorem vo.lt {W : World} {b : Nat} {q : Rat} (h : vo W b q) : b < W.heap.size := by
 obtain ⟨_, _, _, _, _, _, _, _, h, _⟩ := h; exact lt_of_block h
theorem aen {ρ : Operand → Value} {w : World} {d : Option Tmp} {x : Operand} {b : Nat} {u0 u1 u2 u3 : Value} {ty : TypeId} {pos : String} {af : Array Edge} {gd : Option (Nat × Bool)} (h : ρ x = .pointer (some ⟨b, 0, none⟩)) (k0 : w.cell? ⟨b, 0, none⟩ = some u0) (k1 : w.cell? ⟨b, 1, none⟩ = some u1) (k2 : w.cell? ⟨b, 2, none⟩ = some u2) (k3 : w.cell? ⟨b, 3, none⟩ = some u3) :
  (execOp ρ { dst := d, op := .load 52 x, type := ty, pos := pos, after := af, guard := gd }).run Tryz.prog w = .ok (.value (.agg #[u0, u1, u2, u3])) w := by
 simp only [execOp, h]
 simp [go_sem, k0, k1, k2, k3]
theorem gy {Q : Exit → Act → World → Prop} {l : List Oper} {n : Nat} {T : Nat → World → Value → Prop} {G : World → Prop} {al : List Nat} {a0 : Act} {k d b : Nat} {x : Operand} {q : Rat} {ty : TypeId} {pos : String} {af : Array Edge} {gd : Option (Nat × Bool)}
  (hal : al.contains k = false) (hx : Rg.xc l n T a0 k x (Rg.ji (.pointer (some ⟨b, 0, none⟩)))) (hb : ∀ W, G W → vo W b q) (hT : T k = ek q) :
  Rg.Step Tryz.prog Q l n T G oh al a0 k { dst := some d, op := .load 52 x, type := ty, pos := pos, after := af, guard := gd } := by
 intro a w hG hO hN
 obtain ⟨A1, c1, l1, m1, A2, c2, l2, m2, hk, hq⟩ := hb w hG
 exact Ao (P := Tryz.prog) (aen (hx a w hO hN) (ag hk 0) (ag hk 1) (ag hk 2) (ag hk 3)) ⟨_, rfl, hG, Below.refl _ _, by rw [hT]; exact ⟨A1, c1, l1, m1, A2, c2, l2, m2, rfl, hq⟩, fun h => by rw [hal] at h; cases h⟩
theorem ayg {ρ : Operand → Value} {w : World} {d : Option Tmp} {ty : TypeId} {pos : String} {af : Array Edge} {gd : Option (Nat × Bool)} :
  (execOp ρ { dst := d, op := .alloc 52, type := ty, pos := pos, after := af, guard := gd }).run Tryz.prog w = .ok (.value (.pointer (some ⟨w.heap.size, 0, none⟩))) (w.alloc (.cells #[.slice none 0 0, .bool false, .slice none 0 0, .bool false] 52)) := by
 simp only [execOp]
 simp [go_sem]
theorem aov (w : World) : ∃ X : World, oh w X ∧ vo X w.heap.size 0 ∧ ∀ (ρ : Operand → Value) (d : Option Tmp) (ty : TypeId) (pos : String) (af : Array Edge) (gd : Option (Nat × Bool)),
  (execOp ρ { dst := d, op := .alloc 52, type := ty, pos := pos, after := af, guard := gd }).run Tryz.prog w = .ok (.value (.pointer (some ⟨w.heap.size, 0, none⟩))) X :=
 ⟨_, (Below.refl _ _).alloc (Nat.le_refl _) _, akm (heap_alloc_new w _), fun _ _ _ _ _ _ => ayg⟩
theorem bnf {P : Program} {Q : Exit → Act → World → Prop} {l : List Oper} {n : Nat} {T : Nat → World → Value → Prop} {G : World → Prop} {al : List Nat} {a0 : Act} {k B : Nat} {o : Oper} {N : Nat → World → Value → Prop} (hnew : ∀ (a : Act) (w : World), ∃ X : World, oh w X ∧ (B ≤ w.heap.size → N B X (.pointer (some ⟨w.heap.size, 0, none⟩))) ∧ (execOp a.eval o).run P w = .ok (.value (.pointer (some ⟨w.heap.size, 0, none⟩))) X)
  (Uq : ∀ W W', G W → oh W W' → G W') (hB : ∀ W, G W → B ≤ W.heap.size) (hT : T k = N B) (hlt : ∀ j W u, al.contains j = true → T j W u → ∃ b, u = .pointer (some ⟨b, 0, none⟩) ∧ b < W.heap.size) :
  Rg.Step P Q l n T G oh al a0 k o := by
 intro a w hG hO hN
 obtain ⟨X, hb, hbx, hr⟩ := hnew a w
 have hT2 : T k X (.pointer (some ⟨w.heap.size, 0, none⟩)) := by rw [hT]; exact hbx (hB w hG)
 have hG2 := Uq _ _ hG hb
 have hne : al.contains k = true → ∀ j u, al.contains j = true → T j w u → u ≠ .pointer (some ⟨w.heap.size, 0, none⟩) := fun _ j u hj ht he => by
  obtain ⟨b, h1, h2⟩ := hlt j w u hj ht
  rw [h1] at he
  have h3 : b = w.heap.size := by first | (simp at he; done) | (simp at he; exact he)
  omega
 exact Ao hr ⟨_, rfl, hG2, hb, hT2, hne⟩
theorem Ho {Q : Exit → Act → World → Prop} {l : List Oper} {n : Nat} {T : Nat → World → Value → Prop} {G : World → Prop} {al : List Nat} {a0 : Act} {k d B : Nat} {ty : TypeId} {pos : String} {af : Array Edge} {gd : Option (Nat × Bool)}
  (Uq : ∀ W W', G W → oh W W' → G W') (hB : ∀ W, G W → B ≤ W.heap.size) (hT : T k = Dq B) (hlt : ∀ j W u, al.contains j = true → T j W u → ∃ b, u = .pointer (some ⟨b, 0, none⟩) ∧ b < W.heap.size) :
  Rg.Step Tryz.prog Q l n T G oh al a0 k { dst := some d, op := .alloc 52, type := ty, pos := pos, after := af, guard := gd } := by
 refine bnf (N := Dq) (B := B) ?_ Uq hB hT hlt
 intro a w
 exact (aov w).elim fun X h => ⟨X, h.1, fun hB => ⟨w.heap.size, rfl, hB, h.2.1⟩, h.2.2 a.eval (some d) ty pos af gd⟩
theorem Fy {T : Nat → World → Value → Prop} {js : List Nat} {B : Nat} (h : ∀ j, js.contains j = true → T j = Dq B) : ∀ j W u, js.contains j = true → T j W u → ∃ b, u = .pointer (some ⟨b, 0, none⟩) ∧ b < W.heap.size := fun j W u hj ht => by
 rw [h j hj] at ht
 obtain ⟨b, h1, _, h2⟩ := ht
 exact ⟨b, h1, h2.lt⟩
structure Own (w : World) (bs : List (Nat × Rat)) (W : World) : Prop where
 bel : Below w.heap.size w W
 nd : (bs.map Prod.fst).Nodup
 box : ∀ b q, (b, q) ∈ bs → w.heap.size ≤ b ∧ vo W b q
theorem Own.nil (w : World) : Own w [] w := ⟨Below.refl _ _, List.nodup_nil, fun b q h => by cases h⟩
theorem Own.step {w : World} {bs : List (Nat × Rat)} : ∀ W W', Own w bs W → oh W W' → Own w bs W' := fun W W' h hb => ⟨au h.bel hb, h.nd, fun b q hm => ⟨(h.box b q hm).1, (h.box b q hm).2.below hb⟩⟩
theorem Own.lt {w W : World} {bs : List (Nat × Rat)} {b : Nat} {q : Rat} (h : Own w bs W) (hm : (b, q) ∈ bs) : b < W.heap.size := (h.box b q hm).2.lt
theorem Own.add {w W V : World} {bs : List (Nat × Rat)} {b : Nat} {q : Rat} (h : Own w bs V) (hVW : oh V W) (hb : V.heap.size ≤ b) (hq : vo W b q) : Own w ((b, q) :: bs) W :=
 ⟨au h.bel hVW, List.nodup_cons.2 ⟨fun hm => by
  obtain ⟨p, hp, he⟩ := List.mem_map.1 hm
  have := h.lt (b := p.1) (q := p.2) hp
  omega, h.nd⟩, fun b' q' hm => by
  rcases List.mem_cons.1 hm with e | hm
  ·
   cases e; exact ⟨Nat.le_trans h.bel.size hb, hq⟩
  ·
   exact ((Own.step V W h hVW).box b' q' hm)⟩
theorem Own.push {w W : World} {bs : List (Nat × Rat)} {q : Rat} {A1 : Option Addr} {c1 : Nat} {l1 : List Nat} {m1 : Bool} {A2 : Option Addr} {c2 : Nat} {l2 : List Nat} {m2 : Bool} (h : Own w bs W) (hv : QV W A1 c1 l1 m1 A2 c2 l2 m2 q) (b : Nat) (hb : b = W.heap.size) : Own w ((b, q) :: bs) (W.alloc (.cells #[.slice A1 l1.length c1, .bool m1, .slice A2 l2.length c2, .bool m2] 52)) := by
 subst hb
 exact h.add ((Below.refl _ _).alloc (Nat.le_refl _) _) (Nat.le_refl _) ⟨_, _, _, _, _, _, _, _, heap_alloc_new W _, hv.below ((Below.refl _ _).alloc (Nat.le_refl _) _)⟩
theorem Own.Vk {w W : World} {bs : List (Nat × Rat)} (h : Own w bs W) (b : Nat) (hb : b = W.heap.size) : Own w ((b, 0) :: bs) (W.alloc (.cells #[.slice none 0 0, .bool false, .slice none 0 0, .bool false] 52)) := by
 subst hb
 exact h.add ((Below.refl _ _).alloc (Nat.le_refl _) _) (Nat.le_refl _) (akm (heap_alloc_new W _))
theorem Own.other {w W : World} {bs : List (Nat × Rat)} (o : Obj) (h : Own w bs W) : Own w bs (W.alloc o) := Own.step _ _ h ((Below.refl _ _).alloc (Nat.le_refl _) _)
def Da (W : World) (b : Nat) (v0 v1 v2 v3 : Value) : World := (((W.setCell ⟨b, 0, none⟩ v0).setCell ⟨b, 1, none⟩ v1).setCell ⟨b, 2, none⟩ v2).setCell ⟨b, 3, none⟩ v3
theorem Own.set {w W : World} {xs ys : List (Nat × Rat)} {b : Nat} {q0 q : Rat} {A1 : Option Addr} {c1 : Nat} {l1 : List Nat} {m1 : Bool} {A2 : Option Addr} {c2 : Nat} {l2 : List Nat} {m2 : Bool} (h : Own w (xs ++ (b, q0) :: ys) W) (hv : QV W A1 c1 l1 m1 A2 c2 l2 m2 q) :
  Own w (xs ++ (b, q) :: ys) (Da W b (.slice A1 l1.length c1) (.bool m1) (.slice A2 l2.length c2) (.bool m2)) := by
 obtain ⟨hge, hb⟩ := h.box b q0 (List.mem_append_right _ List.mem_cons_self)
 obtain ⟨A, c, l, m, A', c', l', m', h1, h2⟩ := hb
 have hg := ig W b (.slice A1 l1.length c1) (.bool m1) (.slice A2 l2.length c2) (.bool m2)
 have hnd := h.nd
 rw [List.map_append, List.map_cons] at hnd
 have hn : ∀ b' q', (b', q') ∈ xs ++ ys → b' ≠ b := fun b' q' hm e => by
  subst e
  obtain ⟨_, h4, h5⟩ := List.nodup_append.1 hnd
  rcases List.mem_append.1 hm with hm | hm
  ·
   exact h5 b' (List.mem_map.2 ⟨_, hm, rfl⟩) b' List.mem_cons_self rfl
  ·
   exact (List.nodup_cons.1 h4).1 (List.mem_map.2 ⟨_, hm, rfl⟩)
 refine ⟨h.bel.grown hg h.bel.size (fun k hk => by injection hk with hk; omega), by rw [List.map_append, List.map_cons]; exact hnd, fun b' q' hm => ?_⟩
 rcases List.mem_append.1 hm with hm | hm
 rotate_left
 rcases List.mem_cons.1 hm with e | hm
 ·
  cases e
  exact ⟨hge, ⟨_, _, _, _, _, _, _, _, Yy h1, hv.upto h1 (qy _ _ _ _ _ _ _ _) hg⟩⟩
 all_goals
  have hne := hn b' q' (by first | exact List.mem_append_right _ hm | exact List.mem_append_left _ hm)
  obtain ⟨hge', B, d, r, p, B', d', r', p', g1, g2⟩ := h.box b' q' (by first | exact List.mem_append_right _ (List.mem_cons_of_mem _ hm) | exact List.mem_append_left _ hm)
  exact ⟨hge', B, d, r, p, B', d', r', p', (hg.block b' (lt_of_block g1) (fun e => hne (by first | exact Option.some.inj e | exact (Option.some.inj e).symm))).trans g1, g2.upto h1 (qy _ _ _ _ _ _ _ _) hg⟩
theorem Own.blq {w W V : World} {bs : List (Nat × Rat)} {b b' : Nat} {q q' : Rat} (h : Own w bs V) (hVW : oh V W) (hb : V.heap.size ≤ b) (hq : vo W b q) (hb' : V.heap.size ≤ b') (hq' : vo W b' q') (hne : b' ≠ b) : Own w ((b', q') :: (b, q) :: bs) W := by
 have h1 := Own.add h hVW hb hq
 have h2 := Own.add h hVW hb' hq'
 refine ⟨h1.bel, List.nodup_cons.2 ⟨fun hm => ?_, h1.nd⟩, fun c p hm => ?_⟩
 ·
  rw [List.map_cons] at hm
  rcases List.mem_cons.1 hm with e | hm
  ·
   exact hne e
  ·
   exact (List.nodup_cons.1 h2.nd).1 hm
 ·
  rcases List.mem_cons.1 hm with e | hm
  ·
   cases e; exact h2.box _ _ List.mem_cons_self
  ·
   exact h1.box _ _ hm
theorem Ud {W : World} {b : Nat} {q0 q : Rat} {v0 v1 v2 v3 : Value} {A1 : Option Addr} {c1 : Nat} {l1 : List Nat} {m1 : Bool} {A2 : Option Addr} {c2 : Nat} {l2 : List Nat} {m2 : Bool} (h : vo W b q0) (hv : QV W A1 c1 l1 m1 A2 c2 l2 m2 q) : QV (Da W b v0 v1 v2 v3) A1 c1 l1 m1 A2 c2 l2 m2 q := by
 obtain ⟨A, c, l, m, A', c', l', m', h1, h2⟩ := h
 exact hv.upto h1 (qy _ _ _ _ _ _ _ _) (ig W b v0 v1 v2 v3)
def cz (w : World) (bs : List (Nat × Rat)) (V : World) : World → Prop := fun W => Own w bs W ∧ oh V W
theorem cz.step {w V : World} {bs : List (Nat × Rat)} : ∀ W W', cz w bs V W → oh W W' → cz w bs V W' := fun W W' h hb => ⟨Own.step W W' h.1 hb, au h.2 hb⟩
theorem cz.size {w V : World} {bs : List (Nat × Rat)} : ∀ W, cz w bs V W → V.heap.size ≤ W.heap.size := fun _ h => h.2.size
theorem cz.start {w V : World} {bs : List (Nat × Rat)} (h : Own w bs V) : cz w bs V V.drew := ⟨Own.step _ _ h (oh.drew V), oh.drew V⟩
theorem cz.begin {w V : World} {bs : List (Nat × Rat)} (h : Own w bs V) : cz w bs V V := ⟨h, Below.refl _ _⟩
theorem cz.box {w V W : World} {bs : List (Nat × Rat)} {b : Nat} {q : Rat} (hm : (b, q) ∈ bs) (h : cz w bs V W) : vo W b q := (h.1.box b q hm).2
def qz (T : World → Value → Prop) (w : World) (e : Ending) (w' : World) : Prop := ∃ u, e = .returned u ∧ oh w w' ∧ T w' u
theorem Mf {w w' : World} {q : Rat} {e : Ending} (h : QR w q e w') : qz (ek q) w e w' := by
 obtain ⟨A1, c1, l1, m1, A2, c2, l2, m2, rfl, h1, h2, hb⟩ := h
 exact ⟨_, rfl, hb, _, _, _, _, _, _, _, _, rfl, QV.of h1 h2⟩
def Ce (z : Int) : World → Value → Prop := fun W v => ∃ A c l m, v = .agg #[.slice A (List.length l) c, .bool m] ∧ bg W A c l m z
theorem Ew (z : Int) : Rg.Qe oh (Ce z) := by
 rintro w w' v hb ⟨A, c, l, m, rfl, h⟩
 exact ⟨_, _, _, _, rfl, h.below hb⟩
theorem ati {ρ : Operand → Value} {w : World} {d : Option Tmp} {x : Operand} {b : Nat} {ty : TypeId} {pos : String} {af : Array Edge} {gd : Option (Nat × Bool)} (h : ρ x = .pointer (some ⟨b, 0, none⟩)) :
  (execOp ρ { dst := d, op := .fieldAddr 52 x 0, type := ty, pos := pos, after := af, guard := gd }).run Tryz.prog w = .ok (.value (.pointer (some ⟨b, 0, none⟩))) w := by
 simp only [execOp, h]
 simp [go_sem]
theorem adb {Q : Exit → Act → World → Prop} {l : List Oper} {n : Nat} {T : Nat → World → Value → Prop} {G : World → Prop} {al : List Nat} {a0 : Act} {k d b : Nat} {x : Operand} {ty : TypeId} {pos : String} {af : Array Edge} {gd : Option (Nat × Bool)}
  (hal : al.contains k = false) (hx : Rg.xc l n T a0 k x (Rg.ji (.pointer (some ⟨b, 0, none⟩)))) (hT : T k = Rg.ji (.pointer (some ⟨b, 0, none⟩))) :
  Rg.Step Tryz.prog Q l n T G oh al a0 k { dst := some d, op := .fieldAddr 52 x 0, type := ty, pos := pos, after := af, guard := gd } := by
 intro a w hG hO hN
 exact Ao (P := Tryz.prog) (ati (hx a w hO hN)) ⟨_, rfl, hG, Below.refl _ _, by rw [hT]; rfl, fun h => by rw [hal] at h; cases h⟩
theorem atg {ρ : Operand → Value} {w : World} {d : Option Tmp} {x : Operand} {b : Nat} {u0 u1 : Value} {ty : TypeId} {pos : String} {af : Array Edge} {gd : Option (Nat × Bool)} (h : ρ x = .pointer (some ⟨b, 0, none⟩)) (k0 : w.cell? ⟨b, 0, none⟩ = some u0) (k1 : w.cell? ⟨b, 1, none⟩ = some u1) :
  (execOp ρ { dst := d, op := .load 50 x, type := ty, pos := pos, after := af, guard := gd }).run Tryz.prog w = .ok (.value (.agg #[u0, u1])) w := by
 simp only [execOp, h]
 simp [go_sem, k0, k1]
theorem ada {Q : Exit → Act → World → Prop} {l : List Oper} {n : Nat} {T : Nat → World → Value → Prop} {G : World → Prop} {al : List Nat} {a0 : Act} {k d b : Nat} {x : Operand} {q : Rat} {ty : TypeId} {pos : String} {af : Array Edge} {gd : Option (Nat × Bool)}
  (hal : al.contains k = false) (hx : Rg.xc l n T a0 k x (Rg.ji (.pointer (some ⟨b, 0, none⟩)))) (hb : ∀ W, G W → vo W b q) (hT : T k = Ce q.num) :
  Rg.Step Tryz.prog Q l n T G oh al a0 k { dst := some d, op := .load 50 x, type := ty, pos := pos, after := af, guard := gd } := by
 intro a w hG hO hN
 obtain ⟨A1, c1, l1, m1, A2, c2, l2, m2, hk, hq⟩ := hb w hG
 exact Ao (P := Tryz.prog) (atg (hx a w hO hN) (ag hk 0) (ag hk 1)) ⟨_, rfl, hG, Below.refl _ _, by rw [hT]; exact ⟨A1, c1, l1, m1, rfl, hq.num⟩, fun h => by rw [hal] at h; cases h⟩
theorem aol {ρ : Operand → Value} {w : World} {d : Option Tmp} {x y : Operand} {u0 u1 u2 u3 : Value} {ty : TypeId} {pos : String} {af : Array Edge} {gd : Option (Nat × Bool)} (h : ρ x = .agg #[u0, u1]) (h' : ρ y = .agg #[u2, u3]) :
  (execOp ρ { dst := d, op := .build 52 #[(0, x), (1, y)], type := ty, pos := pos, after := af, guard := gd }).run Tryz.prog w = .ok (.value (.agg #[u0, u1, u2, u3])) w := by
 simp [execOp, h, h', go_sem]
theorem aii {Q : Exit → Act → World → Prop} {l : List Oper} {n : Nat} {T : Nat → World → Value → Prop} {G : World → Prop} {al : List Nat} {a0 : Act} {k d : Nat} {x y : Operand} {a b : Int} {q : Rat} {ty : TypeId} {pos : String} {af : Array Edge} {gd : Option (Nat × Bool)}
  (hal : al.contains k = false) (hx : Rg.xc l n T a0 k x (Ce a)) (hy : Rg.xc l n T a0 k y (Ce b)) (ha : a = q.num) (hb : b = (q.den : Int)) (hT : T k = ek q) :
  Rg.Step Tryz.prog Q l n T G oh al a0 k { dst := some d, op := .build 52 #[(0, x), (1, y)], type := ty, pos := pos, after := af, guard := gd } := by
 intro s w hG hO hN
 obtain ⟨A1, c1, l1, m1, e1, h1⟩ := hx s w hO hN
 obtain ⟨A2, c2, l2, m2, e2, h2⟩ := hy s w hO hN
 subst ha; subst hb
 exact Ao (P := Tryz.prog) (aol e1 e2) ⟨_, rfl, hG, Below.refl _ _, by rw [hT]; exact ⟨A1, c1, l1, m1, A2, c2, l2, m2, rfl, QV.of h1 h2⟩, fun h => by rw [hal] at h; cases h⟩
theorem Ua {w w' : World} {z : Int} {e : Ending} (h : uq w z e w') : qz (Ce z) w e w' := by
 obtain ⟨A, c, l, m, rfl, h1, hb⟩ := h
 exact ⟨_, rfl, hb, _, _, _, _, rfl, h1⟩
theorem Ww {W : World} {b b' : Nat} {q0 q' : Rat} {v0 v1 v2 v3 : Value} (h : vo W b q0) (hne : b' ≠ b) (h' : vo W b' q') : vo (Da W b v0 v1 v2 v3) b' q' := by
 obtain ⟨B, d, r, p, B', d', r', p', g1, g2⟩ := h'
 have hg := ig W b v0 v1 v2 v3
 exact ⟨B, d, r, p, B', d', r', p', (hg.block b' (lt_of_block g1) (fun e => hne (by first | exact Option.some.inj e | exact (Option.some.inj e).symm))).trans g1, Ud h g2⟩
theorem Own.front {w W : World} {xs ys : List (Nat × Rat)} {p : Nat × Rat} (h : Own w (xs ++ p :: ys) W) : Own w (p :: (xs ++ ys)) W :=
 ⟨h.bel, by
  have := h.nd
  have e : List.Perm ((xs ++ p :: ys).map Prod.fst) ((p :: (xs ++ ys)).map Prod.fst) := List.Perm.map _ List.perm_middle
  exact e.nodup_iff.1 this, fun b q hm => h.box b q (by
  rcases List.mem_cons.1 hm with e | hm
  ·
   subst e; exact List.mem_append_right _ List.mem_cons_self
  ·
   rcases List.mem_append.1 hm with hm | hm
   ·
    exact List.mem_append_left _ hm
   ·
    exact List.mem_append_right _ (List.mem_cons_of_mem _ hm))⟩
theorem Own.ne2 {w W : World} {bs : List (Nat × Rat)} {r s : Nat} {p q : Rat} (h : Own w ((r, p) :: (s, q) :: bs) W) : s ≠ r := fun e => by
 have := h.nd
 rw [List.map_cons, List.map_cons] at this
 exact (List.nodup_cons.1 this).1 (by rw [e]; exact List.mem_cons_self)
def Tz (r s : Nat) (p q : Rat) : World → World → Prop := fun w w' => (∀ x v, ek x w v → ek x w' v) ∧ (vo w r p → vo w' r p) ∧ (vo w s q → vo w' s q)
def Gy (w : World) (bs : List (Nat × Rat)) (r s : Nat) : World → Prop := fun W => ∃ p q, Own w ((r, p) :: (s, q) :: bs) W
theorem ayq {r s : Nat} {p q : Rat} (w : World) : Tz r s p q w w := ⟨fun _ _ h => h, fun h => h, fun h => h⟩
theorem Dj {r s : Nat} {p q : Rat} (x : Rat) : Rg.Qe (Tz r s p q) (ek x) := fun _ _ v hE h => hE.1 x v h
theorem Kj {r s : Nat} {p q : Rat} : Rg.Qe (Tz r s p q) (fun W _ => vo W r p) := fun _ _ _ hE h => hE.2.1 h
theorem Ki {r s : Nat} {p q : Rat} : Rg.Qe (Tz r s p q) (fun W _ => vo W s q) := fun _ _ _ hE h => hE.2.2 h
theorem Gy.box {w W : World} {bs : List (Nat × Rat)} {r s b : Nat} {x : Rat} (hm : (b, x) ∈ bs) (h : Gy w bs r s W) : vo W b x := by
 obtain ⟨p, q, h⟩ := h
 exact (h.box b x (List.mem_cons_of_mem _ (List.mem_cons_of_mem _ hm))).2
theorem Gy.fin {w W : World} {bs : List (Nat × Rat)} {r s : Nat} {p q : Rat} (h : Gy w bs r s W) (h1 : vo W r p) (h2 : vo W s q) : Own w ((r, p) :: (s, q) :: bs) W := by
 obtain ⟨p', q', h⟩ := h
 refine ⟨h.bel, h.nd, fun b x hm => ?_⟩
 rcases List.mem_cons.1 hm with e | hm
 ·
  cases e; exact ⟨(h.box r p' List.mem_cons_self).1, h1⟩
 ·
  rcases List.mem_cons.1 hm with e | hm
  ·
   cases e; exact ⟨(h.box s q' (List.mem_cons_of_mem _ List.mem_cons_self)).1, h2⟩
  ·
   exact h.box b x (List.mem_cons_of_mem _ (List.mem_cons_of_mem _ hm))
theorem Ch {Q : Exit → Act → World → Prop} {l : List Oper} {n : Nat} {T : Nat → World → Value → Prop} {w : World} {bs : List (Nat × Rat)} {r s : Nat} {p q : Rat} {a0 : Act} {k d b : Nat} {x : Operand} {z : Rat} {ty : TypeId} {pos : String} {af : Array Edge} {gd : Option (Nat × Bool)}
  (hx : Rg.xc l n T a0 k x (Rg.ji (.pointer (some ⟨b, 0, none⟩)))) (hm : (b, z) ∈ bs) (hT : T k = ek z) :
  Rg.Step Tryz.prog Q l n T (Gy w bs r s) (Tz r s p q) [] a0 k { dst := some d, op := .load 52 x, type := ty, pos := pos, after := af, guard := gd } := by
 intro a w hG hO hN
 obtain ⟨A1, c1, l1, m1, A2, c2, l2, m2, hk, hq⟩ := Gy.box hm hG
 exact Ao (P := Tryz.prog) (aen (hx a w hO hN) (ag hk 0) (ag hk 1) (ag hk 2) (ag hk 3)) ⟨_, rfl, hG, ayq _, by rw [hT]; exact ⟨A1, c1, l1, m1, A2, c2, l2, m2, rfl, hq⟩, fun h => by simp at h⟩
theorem Yz {ρ : Operand → Value} {w : World} {d : Option Tmp} {x y : Operand} {b : Nat} {A1 A2 : Option Addr} {n1 n2 c1 c2 : Nat} {m1 m2 : Bool} {ty : TypeId} {pos : String} {af : Array Edge} {gd : Option (Nat × Bool)} (h : ρ x = .pointer (some ⟨b, 0, none⟩)) (h' : ρ y = .agg #[.slice A1 n1 c1, .bool m1, .slice A2 n2 c2, .bool m2])
  (k0 : ∃ v, w.cell? ⟨b, 0, none⟩ = some v) (k1 : ∃ v, w.cell? ⟨b, 1, none⟩ = some v) (k2 : ∃ v, w.cell? ⟨b, 2, none⟩ = some v) (k3 : ∃ v, w.cell? ⟨b, 3, none⟩ = some v)
  (f0 : w.frozen? ⟨b, 0, none⟩ = false) (f1 : w.frozen? ⟨b, 1, none⟩ = false) (f2 : w.frozen? ⟨b, 2, none⟩ = false) (f3 : w.frozen? ⟨b, 3, none⟩ = false) :
  (execOp ρ { dst := d, op := .store 52 x y, type := ty, pos := pos, after := af, guard := gd }).run Tryz.prog w = .ok .skip (Da w b (.slice A1 n1 c1) (.bool m1) (.slice A2 n2 c2) (.bool m2)) := by
 obtain ⟨v0, k0⟩ := k0; obtain ⟨v1, k1⟩ := k1; obtain ⟨v2, k2⟩ := k2; obtain ⟨v3, k3⟩ := k3
 unfold Da
 simp only [execOp, h, h']
 simp [go_sem, k0, k1, k2, k3, f0, f1, f2, f3]
theorem agd {P : Program} {o : Oper} {a : Act} {w w' : World} {K : Act → World → Prop} {Q : Exit → Act → World → Prop} (h : (execOp a.eval o).run P w = .ok .skip w') (hK : K (a.put o.dst undef) w') : o.wp P a w K Q := by
 unfold Oper.wp; rw [h]; exact hK
theorem afh {W : World} {b : Nat} {q : Rat} (h : vo W b q) : (∃ v, W.cell? ⟨b, 0, none⟩ = some v) ∧ (∃ v, W.cell? ⟨b, 1, none⟩ = some v) ∧ (∃ v, W.cell? ⟨b, 2, none⟩ = some v) ∧ (∃ v, W.cell? ⟨b, 3, none⟩ = some v) ∧
  W.frozen? ⟨b, 0, none⟩ = false ∧ W.frozen? ⟨b, 1, none⟩ = false ∧ W.frozen? ⟨b, 2, none⟩ = false ∧ W.frozen? ⟨b, 3, none⟩ = false := by
 obtain ⟨_, _, _, _, _, _, _, _, h, _⟩ := h
 exact ⟨⟨_, ag h 0⟩, ⟨_, ag h 1⟩, ⟨_, ag h 2⟩, ⟨_, ag h 3⟩, ah h 0, ah h 1, ah h 2, ah h 3⟩
theorem Nz {Q : Exit → Act → World → Prop} {l : List Oper} {n : Nat} {T : Nat → World → Value → Prop} {w : World} {bs : List (Nat × Rat)} {r s : Nat} {p q : Rat} {a0 : Act} {k : Nat} {x y : Operand} {ty : TypeId} {pos : String} {af : Array Edge} {gd : Option (Nat × Bool)}
  (hx : Rg.xc l n T a0 k x (Rg.ji (.pointer (some ⟨r, 0, none⟩)))) (hy : Rg.xc l n T a0 k y (ek p)) (hT : T k = fun W _ => vo W r p) :
  Rg.Step Tryz.prog Q l n T (Gy w bs r s) (Tz r s p q) [] a0 k { dst := none, op := .store 52 x y, type := ty, pos := pos, after := af, guard := gd } := by
 intro a W hG hO hN
 obtain ⟨A1, c1, l1, m1, A2, c2, l2, m2, e1, hv⟩ := hy a W hO hN
 obtain ⟨p0, q0, h⟩ := hG
 have hb := (h.box r p0 List.mem_cons_self).2
 obtain ⟨k0, k1, k2, k3, f0, f1, f2, f3⟩ := afh hb
 have h2 := Own.set (xs := []) (q := p) h hv
 refine agd (P := Tryz.prog) (Yz (hx a W hO hN) e1 k0 k1 k2 k3 f0 f1 f2 f3) ⟨undef, rfl, ⟨p, q0, h2⟩, ⟨fun z v hz => ?_, fun _ => (h2.box r p List.mem_cons_self).2, fun h3 => Ww hb h.ne2 h3⟩, by rw [hT]; exact (h2.box r p List.mem_cons_self).2, fun h => by simp at h⟩
 obtain ⟨B1, d1, r1, s1, B2, d2, r2, s2, rfl, hz⟩ := hz
 exact ⟨_, _, _, _, _, _, _, _, rfl, Ud hb hz⟩
theorem Ny {Q : Exit → Act → World → Prop} {l : List Oper} {n : Nat} {T : Nat → World → Value → Prop} {w : World} {bs : List (Nat × Rat)} {r s : Nat} {p q : Rat} {a0 : Act} {k : Nat} {x y : Operand} {ty : TypeId} {pos : String} {af : Array Edge} {gd : Option (Nat × Bool)}
  (hx : Rg.xc l n T a0 k x (Rg.ji (.pointer (some ⟨s, 0, none⟩)))) (hy : Rg.xc l n T a0 k y (ek q)) (hT : T k = fun W _ => vo W s q) :
  Rg.Step Tryz.prog Q l n T (Gy w bs r s) (Tz r s p q) [] a0 k { dst := none, op := .store 52 x y, type := ty, pos := pos, after := af, guard := gd } := by
 intro a W hG hO hN
 obtain ⟨A1, c1, l1, m1, A2, c2, l2, m2, e1, hv⟩ := hy a W hO hN
 obtain ⟨p0, q0, h⟩ := hG
 have hb := (h.box s q0 (List.mem_cons_of_mem _ List.mem_cons_self)).2
 obtain ⟨k0, k1, k2, k3, f0, f1, f2, f3⟩ := afh hb
 have h2 := Own.set (xs := [(r, p0)]) (q := q) h hv
 have h3 := (h2.box s q (List.mem_cons_of_mem _ List.mem_cons_self)).2
 refine agd (P := Tryz.prog) (Yz (hx a W hO hN) e1 k0 k1 k2 k3 f0 f1 f2 f3) ⟨undef, rfl, ⟨p0, q, h2⟩, ⟨fun z v hz => ?_, fun h4 => Ww hb (Ne.symm h.ne2) h4, fun _ => h3⟩, by rw [hT]; exact h3, fun h => by simp at h⟩
 obtain ⟨B1, d1, r1, s1, B2, d2, r2, s2, rfl, hz⟩ := hz
 exact ⟨_, _, _, _, _, _, _, _, rfl, Ud hb hz⟩

end Go.Proofs.YtpjgoogeokbaaaaGreatDoor
namespace Go.Proofs.YtpjgoogeokbaaaaGreatDoor
open Go.RowKit

set_option maxHeartbeats 16000000 in
theorem bbd (x q : Rat) (w : World) (u1 : Value) (h1 : ek x w u1) (ha : (x.den : Int) = q.num) (hb : (1 : Int) = (q.den : Int))
  (hden : ∀ (W : World) (v0 : Value), ek (x) W v0 → Calls Tryz.prog 95 #[v0] W (qz (Ce (x.den)) W))
  (hone : ∀ (W : World) , Calls Tryz.prog 107 #[] W (qz (Ce (1)) W)) :
  Calls Tryz.prog 65 #[u1] w (qz (ek q) w) := by
 obtain ⟨A1, c1, l1, m1, A2, c2, l2, m2, rfl, hq1⟩ := h1
 have ara := hide hden
 have abh := hide hone
 have HHA := hide ha
 have HHB := hide hb
 clear hden hone ha hb
 go_enter Tryz.func65, Tryz.ntmps65
 go_upto_region 1 with fail
 have hO := (Own.Vk (Own.push (Own.nil w) (hq1.below (Below.refl _ _)) (w.heap.size) rfl) (w.heap.size + 1) (by simp only [World.size_alloc]))
 generalize (w.alloc (.cells #[.slice A1 l1.length c1, .bool m1, .slice A2 l2.length c2, .bool m2] 52)).alloc (.cells #[.slice none 0 0, .bool false, .slice none 0 0, .bool false] 52) = W0 at *
 have HO := hide hO
 clear hO
 go_upto_region 1 with fail
 refine Rg.uu 4 7 (Rg.pick [ek (x), Ce (x.den : Int), Ce 1, ek (q)]) (cz w [(w.heap.size + 1, 0), (w.heap.size, x)] W0) oh [] kr rfl (Rg.oq.pick ⟨df _, Ew _, Ew _, df _, trivial⟩) (cz.begin (aa HO))
  (Rg.ax (Rg.plain rfl (gy rfl (Rg.ja kr rfl) (fun W h => cz.box (List.Mem.tail _ (List.Mem.head _)) h) rfl))
   (Rg.ax (Rg.plain rfl (lg Tryz.func95 kr rfl cz.step (Rg.dw 0 kr) (fun W v0 hG h0 => aa ara W v0 h0)))
   (Rg.ax (Rg.plain rfl (ade Tryz.func107 kr rfl cz.step  (fun W  hG  => aa abh W)))
   (Rg.ax (Rg.plain rfl (aii rfl (Rg.dw 1 kr) (Rg.dw 2 kr) (aa HHA) (aa HHB) rfl))
   Rg.jc)))) ?_
 intro v V1 hG1 hv hne
 clear hne
 simp only [Rg.puts, List.take_succ_cons, List.take_zero, List.drop_succ_cons, List.drop_zero, Act.put, List.setIfInBounds_toArray, List.set_cons_zero, List.set_cons_succ]
 obtain ⟨abn, aat, Zt, Zl, abm, aas, Zr, Zk, e3, f3⟩ := (show ek (q) V1 (v 3) from hv 3 (by decide))
 simp only [e3]
 have hO := hG1.1
 obtain ⟨-, _, _, _, _, _, _, _, _, hz, -⟩ := hO.box (w.heap.size + 1) (0) (List.Mem.head _)
 have iw := ag hz 0
 have vg := ah hz 0
 have iq := ag hz 1
 have ve := ah hz 1
 have il := ag hz 2
 have uy := ah hz 2
 have ik := ag hz 3
 have uw := ah hz 3
 have iy := lt_of_block hz
 clear hz
 go_wp2_with fail
 replace hO := Own.set (xs := []) (ys := [(w.heap.size, x)]) hO f3
 unfold Da at hO
 generalize (((V1.setCell ⟨w.heap.size + 1, 0, none⟩ (.slice abn Zt.length aat)).setCell ⟨w.heap.size + 1, 1, none⟩ (.bool Zl)).setCell ⟨w.heap.size + 1, 2, none⟩ (.slice abm Zr.length aas)).setCell ⟨w.heap.size + 1, 3, none⟩ (.bool Zk) = U1 at *
 try clear iw vg iq ve il uy ik uw hG1
 try clear e3 f3 iy
 try clear hv
 replace HO := hide hO
 clear hO
 obtain ⟨vk, nk, mq, mf, mh, ni, mo, ma, mg, dh, mi⟩ := (aa HO).box _ _ (List.Mem.head _)
 have iw := ag dh 0
 have iq := ag dh 1
 have il := ag dh 2
 have ik := ag dh 3
 have iy := lt_of_block dh
 clear dh vk
 go_wp2_with fail
 exact bodyPost_ret (v := .agg #[.slice nk mf.length mq, .bool mh, .slice ni ma.length mo, .bool mg]) (by simp [results, Tryz.results65, go_sem, iw, iq, il, ik, iy]) rfl
  ⟨_, rfl, (aa HO).bel, ⟨_, _, _, _, _, _, _, _, rfl, mi⟩⟩
set_option maxHeartbeats 16000000 in
theorem ayw (x q : Rat) (w : World) (u1 : Value) (h1 : ek x w u1) (ha : x.num = q.num) (hb : (1 : Int) = (q.den : Int))
  (hone : ∀ (W : World) , Calls Tryz.prog 107 #[] W (qz (Ce (1)) W)) :
  Calls Tryz.prog 115 #[u1] w (qz (ek q) w) := by
 obtain ⟨A1, c1, l1, m1, A2, c2, l2, m2, rfl, hq1⟩ := h1
 have abh := hide hone
 have HHA := hide ha
 have HHB := hide hb
 clear hone ha hb
 go_enter Tryz.func115, Tryz.ntmps115
 go_upto_region 1 with fail
 have hO := (Own.Vk (Own.push (Own.nil w) (hq1.below (Below.refl _ _)) (w.heap.size) rfl) (w.heap.size + 1) (by simp only [World.size_alloc]))
 generalize (w.alloc (.cells #[.slice A1 l1.length c1, .bool m1, .slice A2 l2.length c2, .bool m2] 52)).alloc (.cells #[.slice none 0 0, .bool false, .slice none 0 0, .bool false] 52) = W0 at *
 have HO := hide hO
 clear hO
 go_upto_region 1 with fail
 refine Rg.region 4 7 (Rg.pick [Rg.ji (.pointer (some ⟨w.heap.size, 0, none⟩)), Ce (x).num, Ce 1, ek (q)]) (cz w [(w.heap.size + 1, 0), (w.heap.size, x)] W0) oh [] kr kr rfl (Rg.oq.pick ⟨Rg.fw _, Ew _, Ew _, df _, trivial⟩) (cz.start (aa HO))
  (Rg.ax (Rg.plain rfl (adb rfl (Rg.ja kr rfl) rfl))
   (Rg.ax (Rg.plain rfl (ada rfl (Rg.dw 0 kr) (fun W h => cz.box (List.Mem.tail _ (List.Mem.head _)) h) rfl))
   (Rg.ax (Rg.plain rfl (ade Tryz.func107 kr rfl cz.step  (fun W  hG  => aa abh W)))
   (Rg.ax (Rg.plain rfl (aii rfl (Rg.dw 1 kr) (Rg.dw 2 kr) (aa HHA) (aa HHB) rfl))
   Rg.jc)))) ?_
 intro v V1 hG1 hv hne
 clear hne
 simp only [Rg.puts, List.take_succ_cons, List.take_zero, List.drop_succ_cons, List.drop_zero, Act.put, List.setIfInBounds_toArray, List.set_cons_zero, List.set_cons_succ]
 obtain ⟨abn, aat, Zt, Zl, abm, aas, Zr, Zk, e3, f3⟩ := (show ek (q) V1 (v 3) from hv 3 (by decide))
 simp only [e3]
 have hO := hG1.1
 obtain ⟨-, _, _, _, _, _, _, _, _, hz, -⟩ := hO.box (w.heap.size + 1) (0) (List.Mem.head _)
 have iw := ag hz 0
 have vg := ah hz 0
 have iq := ag hz 1
 have ve := ah hz 1
 have il := ag hz 2
 have uy := ah hz 2
 have ik := ag hz 3
 have uw := ah hz 3
 have iy := lt_of_block hz
 clear hz
 go_wp2_with fail
 replace hO := Own.set (xs := []) (ys := [(w.heap.size, x)]) hO f3
 unfold Da at hO
 generalize (((V1.setCell ⟨w.heap.size + 1, 0, none⟩ (.slice abn Zt.length aat)).setCell ⟨w.heap.size + 1, 1, none⟩ (.bool Zl)).setCell ⟨w.heap.size + 1, 2, none⟩ (.slice abm Zr.length aas)).setCell ⟨w.heap.size + 1, 3, none⟩ (.bool Zk) = U1 at *
 try clear iw vg iq ve il uy ik uw hG1
 try clear e3 f3 iy
 try clear hv
 replace HO := hide hO
 clear hO
 obtain ⟨vk, nk, mq, mf, mh, ni, mo, ma, mg, dh, mi⟩ := (aa HO).box _ _ (List.Mem.head _)
 have iw := ag dh 0
 have iq := ag dh 1
 have il := ag dh 2
 have ik := ag dh 3
 have iy := lt_of_block dh
 clear dh vk
 go_wp2_with fail
 exact bodyPost_ret (v := .agg #[.slice nk mf.length mq, .bool mh, .slice ni ma.length mo, .bool mg]) (by simp [results, Tryz.results115, go_sem, iw, iq, il, ik, iy]) rfl
  ⟨_, rfl, (aa HO).bel, ⟨_, _, _, _, _, _, _, _, rfl, mi⟩⟩
set_option maxHeartbeats 16000000 in
theorem bbf (x y : Rat) (o : Int) (w : World) (u1 u2 : Value) (h1 : ek x w u1) (h2 : ek y w u2)
  (bck : ∀ (W : World) (v0 : Value), ek (y) W v0 → Calls Tryz.prog 95 #[v0] W (qz (Ce (y.den)) W))
  (hm1 : ∀ (W : World) (v0 v1 : Value), Ce (x.num) W v0 → Ce (y.den) W v1 → Calls Tryz.prog 98 #[v0, v1] W (qz (Ce (x.num * (y.den : Int))) W))
  (bcj : ∀ (W : World) (v0 : Value), ek (x) W v0 → Calls Tryz.prog 95 #[v0] W (qz (Ce (x.den)) W))
  (hm2 : ∀ (W : World) (v0 v1 : Value), Ce (y.num) W v0 → Ce (x.den) W v1 → Calls Tryz.prog 98 #[v0, v1] W (qz (Ce (y.num * (x.den : Int))) W))
  (hc : ∀ (W : World) (v0 v1 : Value), Ce (x.num * (y.den : Int)) W v0 → Ce (y.num * (x.den : Int)) W v1 → Calls Tryz.prog 117 #[v0, v1] W (qz (Rg.ji (.int .i64 o)) W)) :
  Calls Tryz.prog 64 #[u1, u2] w (qz (Rg.ji (.int .i64 o)) w) := by
 obtain ⟨A1, c1, l1, m1, A2, c2, l2, m2, rfl, hq1⟩ := h1
 obtain ⟨A3, c3, l3, m3, A4, c4, l4, m4, rfl, hq3⟩ := h2
 have bmi := hide bck
 have bvg := hide hm1
 have bmh := hide bcj
 have bvf := hide hm2
 have HHC := hide hc
 clear bck hm1 bcj hm2 hc
 go_enter Tryz.func64, Tryz.ntmps64
 go_upto_region 1 with fail
 have hO := (Own.push (Own.push (Own.nil w) (hq1.below (Below.refl _ _)) (w.heap.size) rfl) (hq3.below (by repeat (first | exact Below.refl _ _ | refine je ?_ _))) (w.heap.size + 1) (by simp only [World.size_alloc]))
 generalize (w.alloc (.cells #[.slice A1 l1.length c1, .bool m1, .slice A2 l2.length c2, .bool m2] 52)).alloc (.cells #[.slice A3 l3.length c3, .bool m3, .slice A4 l4.length c4, .bool m4] 52) = W0 at *
 have HO := hide hO
 clear hO
 go_upto_region 1 with fail
 refine Rg.region 12 16 (Rg.pick [Rg.ji (.pointer (some ⟨w.heap.size, 0, none⟩)), Ce (x).num, ek (y), Ce (y.den : Int), Ce (x.num * (y.den : Int)), Rg.ji (.pointer (some ⟨w.heap.size + 1, 0, none⟩)), Ce (y).num, ek (x), Ce (x.den : Int), Ce (y.num * (x.den : Int)), Rg.ji (.int .i64 o), Rg.ji (.int .i64 o)]) (cz w [(w.heap.size + 1, y), (w.heap.size, x)] W0) oh [] kr kr rfl (Rg.oq.pick ⟨Rg.fw _, Ew _, df _, Ew _, Ew _, Rg.fw _, Ew _, df _, Ew _, Ew _, Rg.fw _, Rg.fw _, trivial⟩) (cz.start (aa HO))
  (Rg.ax (Rg.plain rfl (adb rfl (Rg.ja kr rfl) rfl))
   (Rg.ax (Rg.plain rfl (ada rfl (Rg.dw 0 kr) (fun W h => cz.box (List.Mem.tail _ (List.Mem.head _)) h) rfl))
   (Rg.ax (Rg.plain rfl (gy rfl (Rg.ja kr rfl) (fun W h => cz.box (List.Mem.head _) h) rfl))
   (Rg.ax (Rg.plain rfl (lg Tryz.func95 kr rfl cz.step (Rg.dw 2 kr) (fun W v0 hG h0 => aa bmi W v0 h0)))
   (Rg.ax (Rg.plain rfl (jh Tryz.func98 kr rfl cz.step (Rg.dw 1 kr) (Rg.dw 3 kr) (fun W v0 v1 hG h0 h1 => aa bvg W v0 v1 h0 h1)))
   (Rg.ax (Rg.plain rfl (adb rfl (Rg.ja kr rfl) rfl))
   (Rg.ax (Rg.plain rfl (ada rfl (Rg.dw 5 kr) (fun W h => cz.box (List.Mem.head _) h) rfl))
   (Rg.ax (Rg.plain rfl (gy rfl (Rg.ja kr rfl) (fun W h => cz.box (List.Mem.tail _ (List.Mem.head _)) h) rfl))
   (Rg.ax (Rg.plain rfl (lg Tryz.func95 kr rfl cz.step (Rg.dw 7 kr) (fun W v0 hG h0 => aa bmh W v0 h0)))
   (Rg.ax (Rg.plain rfl (jh Tryz.func98 kr rfl cz.step (Rg.dw 6 kr) (Rg.dw 8 kr) (fun W v0 v1 hG h0 h1 => aa bvf W v0 v1 h0 h1)))
   (Rg.ax (Rg.plain rfl (jh Tryz.func117 kr rfl cz.step (Rg.dw 4 kr) (Rg.dw 9 kr) (fun W v0 v1 hG h0 h1 => aa HHC W v0 v1 h0 h1)))
   (Rg.ax (Rg.plain rfl (xz rfl (Rg.dw 10 kr)))
   Rg.jc)))))))))))) ?_
 intro v V1 hG1 hv hne
 clear hne
 simp only [Rg.puts, List.take_succ_cons, List.take_zero, List.drop_succ_cons, List.drop_zero, Act.put, List.setIfInBounds_toArray, List.set_cons_zero, List.set_cons_succ]
 have e11 : v 11 = .int .i64 o := hv 11 (by decide)
 simp only [e11]
 have hO := hG1.1
 clear hG1
 try clear e11
 try clear hv
 replace HO := hide hO
 clear hO
 have HB := hide (aa HO).bel
 clear HO
 go_wp2_with fail
 all_goals first | go_ret | skip
 exact ⟨_, rfl, aa HB, rfl⟩
theorem aap (x : Rat) (W : World) (v : Value) (h : ek x W v) : Calls Tryz.prog 95 #[v] W (qz (Ce (x.den : Int)) W) := by
 obtain ⟨A1, c1, l1, m1, A2, c2, l2, m2, rfl, hq⟩ := h
 exact (Dm A1 c1 l1 m1 A2 c2 l2 m2 x W hq).mono (fun e w' => Ua)
theorem aqk (W : World) : Calls Tryz.prog 107 #[] W (qz (Ce 1) W) := (Nu W).mono (fun e w' => Ua)
theorem avz {a b : Int} {K : Nat} (ha : Wd.Sz di K a) (hb : Wd.Sz di K b) (hK : 4 * K + 4 ≤ 35184372088832) (W : World) (v0 v1 : Value) (h0 : Ce a W v0) (h1 : Ce b W v1) : Calls Tryz.prog 98 #[v0, v1] W (qz (Ce (a * b)) W) := by
 obtain ⟨A1, c1, l1, m1, rfl, f1⟩ := h0
 obtain ⟨A2, c2, l2, m2, rfl, f2⟩ := h1
 exact (ahu A1 c1 l1 m1 a A2 c2 l2 m2 b W f1 f2 (by have := f1.len ha; have := f2.len hb; omega)).mono (fun e w' => Ua)
theorem awc {a b : Int} (W : World) (v0 v1 : Value) (h0 : Ce a W v0) (h1 : Ce b W v1) : Calls Tryz.prog 117 #[v0, v1] W (qz (Rg.ji (.int .i64 (gm (a - b)))) W) := by
 obtain ⟨A1, c1, l1, m1, rfl, f1⟩ := h0
 obtain ⟨A2, c2, l2, m2, rfl, f2⟩ := h1
 exact (ahw A1 c1 l1 m1 a A2 c2 l2 m2 b W f1 f2).mono (fun e w' h => ⟨_, h.1, h.2, rfl⟩)
theorem bpd (x : Rat) (W : World) (v : Value) (h : ek x W v) : Calls Tryz.prog 65 #[v] W (qz (ek (Rat.divInt (x.den : Int) 1)) W) :=
 bbd x _ W v h (Wd.yg _).1.symm (Wd.yg _).2.symm (fun W v h => aap x W v h) aqk
theorem bpc (x : Rat) (W : World) (v : Value) (h : ek x W v) : Calls Tryz.prog 115 #[v] W (qz (ek (Rat.divInt x.num 1)) W) :=
 ayw x _ W v h (Wd.yg _).1.symm (Wd.yg _).2.symm aqk
theorem aql {x y : Rat} {K : Nat} (sx : Wd.xy di K x) (sy : Wd.xy di K y) (hK : 4 * K + 4 ≤ 35184372088832) (W : World) (v0 v1 : Value) (h0 : ek x W v0) (h1 : ek y W v1) : Calls Tryz.prog 64 #[v0, v1] W (qz (Rg.ji (.int .i64 (gm (x.num * (y.den : Int) - y.num * (x.den : Int))))) W) :=
 bbf x y _ W v0 v1 h0 h1 (fun W v h => aap y W v h) (fun W v0 v1 h0 h1 => avz sx.1 sy.2 hK W v0 v1 h0 h1) (fun W v h => aap x W v h) (fun W v0 v1 h0 h1 => avz sy.1 sx.2 hK W v0 v1 h0 h1) (fun W v0 v1 h0 h1 => awc W v0 v1 h0 h1)
theorem Il (n : Int) (b1 : -9223372036854775808 ≤ n) (b2 : n ≤ 9223372036854775807) (W : World) : Calls Tryz.prog 72 #[.int .i64 n] W (qz (ek (Rat.divInt n 1)) W) :=
 (Xf n _ W b1 b2 (Wd.yg n).1.symm (Wd.yg n).2.symm).mono (fun e w' => Mf)
theorem akk (n d : Int) (b1 : -9223372036854775808 ≤ n) (b2 : n ≤ 9223372036854775807) (b3 : -9223372036854775808 ≤ d) (b4 : d ≤ 9223372036854775807) (hd : d ≠ 0) (W : World) : Calls Tryz.prog 110 #[.int .i64 n, .int .i64 d] W (qz (ek (Rat.divInt n d)) W) :=
 (asn n d W b1 b2 b3 b4 hd).mono (fun e w' => Mf)
theorem bpe {x y : Rat} {K : Nat} (sx : Wd.xy di K x) (sy : Wd.xy di K y) (hK : 4 * K + 4 ≤ 35184372088832)  (W : World) (v0 v1 : Value) (h0 : ek x W v0) (h1 : ek y W v1) : Calls Tryz.prog 43 #[v0, v1] W (qz (ek (x + y)) W) := by
 obtain ⟨A1, c1, l1, m1, A2, c2, l2, m2, rfl, f1⟩ := h0
 obtain ⟨A3, c3, l3, m3, A4, c4, l4, m4, rfl, f2⟩ := h1
 exact (aej K A1 c1 l1 m1 A2 c2 l2 m2 A3 c3 l3 m3 A4 c4 l4 m4 x y W f1 f2 sx sy hK).mono (fun e w' => Mf)
theorem afy {x y : Rat} {K : Nat} (sx : Wd.xy di K x) (sy : Wd.xy di K y) (hK : 4 * K + 4 ≤ 35184372088832)  (W : World) (v0 v1 : Value) (h0 : ek x W v0) (h1 : ek y W v1) : Calls Tryz.prog 44 #[v0, v1] W (qz (ek (x - y)) W) := by
 obtain ⟨A1, c1, l1, m1, A2, c2, l2, m2, rfl, f1⟩ := h0
 obtain ⟨A3, c3, l3, m3, A4, c4, l4, m4, rfl, f2⟩ := h1
 exact (asf K A1 c1 l1 m1 A2 c2 l2 m2 A3 c3 l3 m3 A4 c4 l4 m4 x y W f1 f2 sx sy hK).mono (fun e w' => Mf)
theorem afz {x y : Rat} {K : Nat} (sx : Wd.xy di K x) (sy : Wd.xy di K y) (hK : 4 * K + 4 ≤ 35184372088832)  (W : World) (v0 v1 : Value) (h0 : ek x W v0) (h1 : ek y W v1) : Calls Tryz.prog 45 #[v0, v1] W (qz (ek (x * y)) W) := by
 obtain ⟨A1, c1, l1, m1, A2, c2, l2, m2, rfl, f1⟩ := h0
 obtain ⟨A3, c3, l3, m3, A4, c4, l4, m4, rfl, f2⟩ := h1
 exact (aeh K A1 c1 l1 m1 A2 c2 l2 m2 A3 c3 l3 m3 A4 c4 l4 m4 x y W f1 f2 sx sy hK).mono (fun e w' => Mf)
theorem bcr {x y : Rat} {K : Nat} (sx : Wd.xy di K x) (sy : Wd.xy di K y) (hK : 4 * K + 4 ≤ 35184372088832) (h0q : y.num ≠ 0) (W : World) (v0 v1 : Value) (h0 : ek x W v0) (h1 : ek y W v1) : Calls Tryz.prog 47 #[v0, v1] W (qz (ek (x / y)) W) := by
 obtain ⟨A1, c1, l1, m1, A2, c2, l2, m2, rfl, f1⟩ := h0
 obtain ⟨A3, c3, l3, m3, A4, c4, l4, m4, rfl, f2⟩ := h1
 exact (aei K A1 c1 l1 m1 A2 c2 l2 m2 A3 c3 l3 m3 A4 c4 l4 m4 x y W f1 f2 sx sy hK h0q).mono (fun e w' => Mf)
theorem bhk {x : Rat} {K : Nat} (sx : Wd.xy di K x) (hK : 4 * K + 4 ≤ 35184372088832) (W : World) (v0 : Value) (h0 : ek x W v0) : Calls Tryz.prog 56 #[v0] W (qz (ek (Rat.divInt (x.num / (x.den : Int)) 1)) W) := by
 obtain ⟨A1, c1, l1, m1, A2, c2, l2, m2, rfl, f1⟩ := h0
 exact (Vy K A1 c1 l1 m1 A2 c2 l2 m2 x W f1 sx hK).mono (fun e w' => Mf)
theorem blj {x : Rat} (W : World) (v0 : Value) (h0 : ek x W v0) : Calls Tryz.prog 116 #[v0] W (qz (Rg.ji (.int .i64 (gm x.num))) W) := by
 obtain ⟨A1, c1, l1, m1, A2, c2, l2, m2, rfl, f1⟩ := h0
 exact (aof A1 c1 l1 m1 A2 c2 l2 m2 x W f1).mono (fun e w' h => ⟨_, h.1, h.2, rfl⟩)
end Go.Proofs.YtpjgoogeokbaaaaGreatDoor
namespace Go.Proofs.YtpjgoogeokbaaaaGreatDoor
open Go.RowKit

set_option maxHeartbeats 16000000 in
theorem aqh (l s d e M y1 y2 r y3 k res : Rat) (m o : Int) (hres : (o < 0 → res = r) ∧ (¬ o < 0 → res = k)) (w : World) (u1 u2 u3 u4 : Value) (h1 : ek l w u1) (h2 : ek s w u2) (h3 : ek d w u3) (h4 : ek e w u4)
  (hint : ∀ (W : World) , Calls Tryz.prog 72 #[.int .i64 m] W (qz (ek (M)) W))
  (hsub : ∀ (W : World) (v0 v1 : Value), ek (M) W v0 → ek (d) W v1 → Calls Tryz.prog 44 #[v0, v1] W (qz (ek (y1)) W))
  (hdv : ∀ (W : World) (v0 v1 : Value), ek (y1) W v0 → ek (e) W v1 → Calls Tryz.prog 47 #[v0, v1] W (qz (ek (y2)) W))
  (hfl : ∀ (W : World) (v0 : Value), ek (y2) W v0 → Calls Tryz.prog 56 #[v0] W (qz (ek (r)) W))
  (bkl : ∀ (W : World) (v0 v1 : Value), ek (l) W v0 → ek (s) W v1 → Calls Tryz.prog 47 #[v0, v1] W (qz (ek (y3)) W))
  (bkg : ∀ (W : World) (v0 : Value), ek (y3) W v0 → Calls Tryz.prog 56 #[v0] W (qz (ek (k)) W))
  (hcm : ∀ (W : World) (v0 v1 : Value), ek (r) W v0 → ek (k) W v1 → Calls Tryz.prog 64 #[v0, v1] W (qz (Rg.ji (.int .i64 o)) W)) :
  Calls Tryz.prog 114 #[u1, u2, u3, u4, .int .i64 m] w (qz (ek res) w) := by
 obtain ⟨A1, c1, l1, m1, A2, c2, l2, m2, rfl, hq1⟩ := h1
 obtain ⟨A3, c3, l3, m3, A4, c4, l4, m4, rfl, hq3⟩ := h2
 obtain ⟨A5, c5, l5, m5, A6, c6, l6, m6, rfl, hq5⟩ := h3
 obtain ⟨A7, c7, l7, m7, A8, c8, l8, m8, rfl, hq7⟩ := h4
 have aeb := hide hres
 clear hres
 have bqa := hide hint
 have bpz := hide hsub
 have bvi := hide hdv
 have bvh := hide hfl
 have bqc := hide bkl
 have bqb := hide bkg
 have bmj := hide hcm
 clear hint hsub hdv hfl bkl bkg hcm
 go_enter Tryz.func114, Tryz.ntmps114
 go_upto_region 1 with fail
 have hO := (Own.Vk (Own.push (Own.push (Own.push (Own.push (Own.nil w) (hq1.below (Below.refl _ _)) (w.heap.size) rfl) (hq3.below (by repeat (first | exact Below.refl _ _ | refine je ?_ _))) (w.heap.size + 1) (by simp only [World.size_alloc])) (hq5.below (by repeat (first | exact Below.refl _ _ | refine je ?_ _))) (w.heap.size + 2) (by simp only [World.size_alloc])) (hq7.below (by repeat (first | exact Below.refl _ _ | refine je ?_ _))) (w.heap.size + 3) (by simp only [World.size_alloc])) (w.heap.size + 4) (by simp only [World.size_alloc]))
 generalize ((((w.alloc (.cells #[.slice A1 l1.length c1, .bool m1, .slice A2 l2.length c2, .bool m2] 52)).alloc (.cells #[.slice A3 l3.length c3, .bool m3, .slice A4 l4.length c4, .bool m4] 52)).alloc (.cells #[.slice A5 l5.length c5, .bool m5, .slice A6 l6.length c6, .bool m6] 52)).alloc (.cells #[.slice A7 l7.length c7, .bool m7, .slice A8 l8.length c8, .bool m8] 52)).alloc (.cells #[.slice none 0 0, .bool false, .slice none 0 0, .bool false] 52) = W0 at *
 have HO := hide hO
 clear hO
 go_upto_region 1 with fail
 refine Rg.region 8 30 (Rg.pick [Rg.ji (.int .i64 m), ek (M), ek (d), ek (y1), ek (e), ek (y2), ek (r), Dq W0.heap.size]) (cz w [(w.heap.size + 4, 0), (w.heap.size + 3, e), (w.heap.size + 2, d), (w.heap.size + 1, s), (w.heap.size, l)] W0) oh [7] kr kr rfl (Rg.oq.pick ⟨Rg.fw _, df _, df _, df _, df _, df _, df _, Dn _, trivial⟩) (cz.start (aa HO))
  (Rg.ax (Rg.plain rfl (xe rfl (Rg.ja kr rfl)))
   (Rg.ax (Rg.plain rfl (lg Tryz.func72 kr rfl cz.step (Rg.dw 0 kr) (fun W v0 hG h0 => by cases h0; exact aa bqa W)))
   (Rg.ax (Rg.plain rfl (gy rfl (Rg.ja kr rfl) (fun W h => cz.box (List.Mem.tail _ (List.Mem.tail _ (List.Mem.head _))) h) rfl))
   (Rg.ax (Rg.plain rfl (jh Tryz.func44 kr rfl cz.step (Rg.dw 1 kr) (Rg.dw 2 kr) (fun W v0 v1 hG h0 h1 => aa bpz W v0 v1 h0 h1)))
   (Rg.ax (Rg.plain rfl (gy rfl (Rg.ja kr rfl) (fun W h => cz.box (List.Mem.tail _ (List.Mem.head _)) h) rfl))
   (Rg.ax (Rg.plain rfl (jh Tryz.func47 kr rfl cz.step (Rg.dw 3 kr) (Rg.dw 4 kr) (fun W v0 v1 hG h0 h1 => aa bvi W v0 v1 h0 h1)))
   (Rg.ax (Rg.plain rfl (lg Tryz.func56 kr rfl cz.step (Rg.dw 5 kr) (fun W v0 hG h0 => aa bvh W v0 h0)))
   (Rg.ax (Rg.plain rfl (Ho cz.step cz.size rfl (Fy (by intro j hj; simp at hj; (repeat' (first | (rcases hj with rfl | hj))) <;> first | (subst hj; rfl) | rfl))))
   Rg.jc)))))))) ?_
 intro v V1 hG1 hv hne
 clear hne
 simp only [Rg.puts, List.take_succ_cons, List.take_zero, List.drop_succ_cons, List.drop_zero, Act.put, List.setIfInBounds_toArray, List.set_cons_zero, List.set_cons_succ]
 obtain ⟨bqs, bpu, bop, bnw, bqr, bpt, boo, bnv, e6, f6⟩ := (show ek (r) V1 (v 6) from hv 6 (by decide))
 obtain ⟨qg, e7, Tj, hz7⟩ := (show Dq W0.heap.size V1 (v 7) from hv 7 (by decide))
 simp only [e6, e7]
 have hO := hG1.1
 replace hO := Own.add (aa HO) hG1.2 Tj hz7
 obtain ⟨-, _, _, _, _, _, _, _, _, hz, -⟩ := hO.box (qg) (0) (List.Mem.head _)
 have Qo := ag hz 0
 have Qx := ah hz 0
 have Qm := ag hz 1
 have Qv := ah hz 1
 have Qk := ag hz 2
 have Qt := ah hz 2
 have Qi := ag hz 3
 have Qr := ah hz 3
 have Ri := lt_of_block hz
 clear hz
 go_upto_region 2 with fail
 replace hO := Own.set (xs := []) (ys := [(w.heap.size + 4, 0), (w.heap.size + 3, e), (w.heap.size + 2, d), (w.heap.size + 1, s), (w.heap.size, l)]) hO f6
 unfold Da at hO
 generalize (((V1.setCell ⟨qg, 0, none⟩ (.slice bqs bop.length bpu)).setCell ⟨qg, 1, none⟩ (.bool bnw)).setCell ⟨qg, 2, none⟩ (.slice bqr boo.length bpt)).setCell ⟨qg, 3, none⟩ (.bool bnv) = U1 at *
 try clear Qo Qx Qm Qv Qk Qt Qi Qr hG1
 try clear e6 e7 f6 Tj hz7 Ri
 try clear hv
 replace HO := hide hO
 clear hO
 go_upto_region 2 with fail
 refine Rg.uu 5 30 (Rg.pick [ek (l), ek (s), ek (y3), ek (k), Dq U1.heap.size]) (cz w [(qg, r), (w.heap.size + 4, 0), (w.heap.size + 3, e), (w.heap.size + 2, d), (w.heap.size + 1, s), (w.heap.size, l)] U1) oh [4] kr rfl (Rg.oq.pick ⟨df _, df _, df _, df _, Dn _, trivial⟩) (cz.begin (aa HO))
  (Rg.ax (Rg.plain rfl (gy rfl (Rg.ja kr rfl) (fun W h => cz.box (List.Mem.tail _ (List.Mem.tail _ (List.Mem.tail _ (List.Mem.tail _ (List.Mem.tail _ (List.Mem.head _)))))) h) rfl))
   (Rg.ax (Rg.plain rfl (gy rfl (Rg.ja kr rfl) (fun W h => cz.box (List.Mem.tail _ (List.Mem.tail _ (List.Mem.tail _ (List.Mem.tail _ (List.Mem.head _))))) h) rfl))
   (Rg.ax (Rg.plain rfl (jh Tryz.func47 kr rfl cz.step (Rg.dw 0 kr) (Rg.dw 1 kr) (fun W v0 v1 hG h0 h1 => aa bqc W v0 v1 h0 h1)))
   (Rg.ax (Rg.plain rfl (lg Tryz.func56 kr rfl cz.step (Rg.dw 2 kr) (fun W v0 hG h0 => aa bqb W v0 h0)))
   (Rg.ax (Rg.plain rfl (Ho cz.step cz.size rfl (Fy (by intro j hj; simp at hj; (repeat' (first | (rcases hj with rfl | hj))) <;> first | (subst hj; rfl) | rfl))))
   Rg.jc))))) ?_
 intro v V2 hG2 hv hne
 clear hne
 simp only [Rg.puts, List.take_succ_cons, List.take_zero, List.drop_succ_cons, List.drop_zero, Act.put, List.setIfInBounds_toArray, List.set_cons_zero, List.set_cons_succ]
 obtain ⟨bqo, bpq, bok, bns, bqn, bpp, boj, bnr, e3, f3⟩ := (show ek (k) V2 (v 3) from hv 3 (by decide))
 obtain ⟨Oy, e4, hge4, hz4⟩ := (show Dq U1.heap.size V2 (v 4) from hv 4 (by decide))
 simp only [e3, e4]
 have hO := hG2.1
 replace hO := Own.add (aa HO) hG2.2 hge4 hz4
 obtain ⟨-, _, _, _, _, _, _, _, _, hz, -⟩ := hO.box (Oy) (0) (List.Mem.head _)
 have bek := ag hz 0
 have bfi := ah hz 0
 have bee := ag hz 1
 have bfd := ah hz 1
 have bdz := ag hz 2
 have bey := ah hz 2
 have bdu := ag hz 3
 have bet := ah hz 3
 have bha := lt_of_block hz
 clear hz
 go_upto_region 3 with fail
 replace hO := Own.set (xs := []) (ys := [(qg, r), (w.heap.size + 4, 0), (w.heap.size + 3, e), (w.heap.size + 2, d), (w.heap.size + 1, s), (w.heap.size, l)]) hO f3
 unfold Da at hO
 generalize (((V2.setCell ⟨Oy, 0, none⟩ (.slice bqo bok.length bpq)).setCell ⟨Oy, 1, none⟩ (.bool bns)).setCell ⟨Oy, 2, none⟩ (.slice bqn boj.length bpp)).setCell ⟨Oy, 3, none⟩ (.bool bnr) = U2 at *
 try clear bek bfi bee bfd bdz bey bdu bet hG2
 try clear e3 e4 f3 hge4 hz4 bha
 try clear hv
 replace HO := hide hO
 clear hO
 by_cases hlt : o < 0
 ·
  obtain rfl : r = res := ((aa aeb).1 hlt).symm
  clear aeb
  have d1 : decide (o < 0) = true := decide_eq_true hlt
  clear hlt
  go_upto_region 3 with fail
  refine Rg.uu 4 30 (Rg.pick [ek (r), ek (k), Rg.ji (.int .i64 o), Rg.ji (.bool (true))]) (cz w [(Oy, k), (qg, r), (w.heap.size + 4, 0), (w.heap.size + 3, e), (w.heap.size + 2, d), (w.heap.size + 1, s), (w.heap.size, l)] U2) oh [] kr rfl (Rg.oq.pick ⟨df _, df _, Rg.fw _, Rg.fw _, trivial⟩) (cz.begin (aa HO))
   (Rg.ax (Rg.plain rfl (gy rfl (Rg.ja kr rfl) (fun W h => cz.box (List.Mem.tail _ (List.Mem.head _)) h) rfl))
    (Rg.ax (Rg.plain rfl (gy rfl (Rg.ja kr rfl) (fun W h => cz.box (List.Mem.head _) h) rfl))
    (Rg.ax (Rg.plain rfl (jh Tryz.func64 kr rfl cz.step (Rg.dw 0 kr) (Rg.dw 1 kr) (fun W v0 v1 hG h0 h1 => aa bmj W v0 v1 h0 h1)))
    (Rg.ax (Rg.plain rfl (Sk rfl (Rg.dw 2 kr) (Rg.zg _) rfl d1))
    Rg.jc)))) ?_
  intro v V3 hG3 hv hne
  clear hne
  simp only [Rg.puts, List.take_succ_cons, List.take_zero, List.drop_succ_cons, List.drop_zero, Act.put, List.setIfInBounds_toArray, List.set_cons_zero, List.set_cons_succ]
  have e3 : v 3 = .bool (true) := hv 3 (by decide)
  simp only [e3]
  have hO := hG3.1
  clear hG3
  try clear e3
  try clear hv
  replace HO := hide hO
  clear hO
  clear d1
  go_upto_region 4 with fail
  refine Rg.uu 1 30 (Rg.pick [ek (r)]) (cz w [(Oy, k), (qg, r), (w.heap.size + 4, 0), (w.heap.size + 3, e), (w.heap.size + 2, d), (w.heap.size + 1, s), (w.heap.size, l)] V3) oh [] kr rfl (Rg.oq.pick ⟨df _, trivial⟩) (cz.begin (aa HO))
   (Rg.ax (Rg.plain rfl (gy rfl (Rg.ja kr rfl) (fun W h => cz.box (List.Mem.tail _ (List.Mem.head _)) h) rfl))
    Rg.jc) ?_
  intro v V4 hG4 hv hne
  clear hne
  simp only [Rg.puts, List.take_succ_cons, List.take_zero, List.drop_succ_cons, List.drop_zero, Act.put, List.setIfInBounds_toArray, List.set_cons_zero, List.set_cons_succ]
  obtain ⟨arh, aqn, apf, apa, arf, aqm, ape, aoz, e0, f0⟩ := (show ek (r) V4 (v 0) from hv 0 (by decide))
  simp only [e0]
  have hO := hG4.1
  obtain ⟨-, _, _, _, _, _, _, _, _, hz, -⟩ := hO.box (w.heap.size + 4) (0) (List.Mem.tail _ (List.Mem.tail _ (List.Mem.head _)))
  have Am := ag hz 0
  have Hm := ah hz 0
  have Al := ag hz 1
  have Hl := ah hz 1
  have Ak := ag hz 2
  have Hg := ah hz 2
  have Aj := ag hz 3
  have Hf := ah hz 3
  have Aq := lt_of_block hz
  clear hz
  go_wp2_with fail
  replace hO := Own.set (xs := [(Oy, k), (qg, r)]) (ys := [(w.heap.size + 3, e), (w.heap.size + 2, d), (w.heap.size + 1, s), (w.heap.size, l)]) hO f0
  unfold Da at hO
  generalize (((V4.setCell ⟨w.heap.size + 4, 0, none⟩ (.slice arh apf.length aqn)).setCell ⟨w.heap.size + 4, 1, none⟩ (.bool apa)).setCell ⟨w.heap.size + 4, 2, none⟩ (.slice arf ape.length aqm)).setCell ⟨w.heap.size + 4, 3, none⟩ (.bool aoz) = U4 at *
  try clear Am Hm Al Hl Ak Hg Aj Hf hG4
  try clear e0 f0 Aq
  try clear hv
  replace HO := hide hO
  clear hO
  obtain ⟨Hu, Jf, Jd, Iw, Iz, Je, Jc, Iu, Iy, ru, Jb⟩ := (aa HO).box _ _ (List.Mem.tail _ (List.Mem.tail _ (List.Mem.head _)))
  have Am := ag ru 0
  have Al := ag ru 1
  have Ak := ag ru 2
  have Aj := ag ru 3
  have Aq := lt_of_block ru
  clear ru Hu
  go_wp2_with fail
  exact bodyPost_ret (v := .agg #[.slice Jf Iw.length Jd, .bool Iz, .slice Je Iu.length Jc, .bool Iy]) (by simp [results, Tryz.results114, go_sem, Am, Al, Ak, Aj, Aq]) rfl
   ⟨_, rfl, (aa HO).bel, ⟨_, _, _, _, _, _, _, _, rfl, Jb⟩⟩
 ·
  obtain rfl : k = res := ((aa aeb).2 hlt).symm
  clear aeb
  have d1 : decide (o < 0) = false := decide_eq_false hlt
  clear hlt
  go_upto_region 3 with fail
  refine Rg.uu 4 30 (Rg.pick [ek (r), ek (k), Rg.ji (.int .i64 o), Rg.ji (.bool (false))]) (cz w [(Oy, k), (qg, r), (w.heap.size + 4, 0), (w.heap.size + 3, e), (w.heap.size + 2, d), (w.heap.size + 1, s), (w.heap.size, l)] U2) oh [] kr rfl (Rg.oq.pick ⟨df _, df _, Rg.fw _, Rg.fw _, trivial⟩) (cz.begin (aa HO))
   (Rg.ax (Rg.plain rfl (gy rfl (Rg.ja kr rfl) (fun W h => cz.box (List.Mem.tail _ (List.Mem.head _)) h) rfl))
    (Rg.ax (Rg.plain rfl (gy rfl (Rg.ja kr rfl) (fun W h => cz.box (List.Mem.head _) h) rfl))
    (Rg.ax (Rg.plain rfl (jh Tryz.func64 kr rfl cz.step (Rg.dw 0 kr) (Rg.dw 1 kr) (fun W v0 v1 hG h0 h1 => aa bmj W v0 v1 h0 h1)))
    (Rg.ax (Rg.plain rfl (Sk rfl (Rg.dw 2 kr) (Rg.zg _) rfl d1))
    Rg.jc)))) ?_
  intro v V3 hG3 hv hne
  clear hne
  simp only [Rg.puts, List.take_succ_cons, List.take_zero, List.drop_succ_cons, List.drop_zero, Act.put, List.setIfInBounds_toArray, List.set_cons_zero, List.set_cons_succ]
  have e3 : v 3 = .bool (false) := hv 3 (by decide)
  simp only [e3]
  have hO := hG3.1
  clear hG3
  try clear e3
  try clear hv
  replace HO := hide hO
  clear hO
  clear d1
  go_upto_region 5 with fail
  refine Rg.uu 1 30 (Rg.pick [ek (k)]) (cz w [(Oy, k), (qg, r), (w.heap.size + 4, 0), (w.heap.size + 3, e), (w.heap.size + 2, d), (w.heap.size + 1, s), (w.heap.size, l)] V3) oh [] kr rfl (Rg.oq.pick ⟨df _, trivial⟩) (cz.begin (aa HO))
   (Rg.ax (Rg.plain rfl (gy rfl (Rg.ja kr rfl) (fun W h => cz.box (List.Mem.head _) h) rfl))
    Rg.jc) ?_
  intro v V4 hG4 hv hne
  clear hne
  simp only [Rg.puts, List.take_succ_cons, List.take_zero, List.drop_succ_cons, List.drop_zero, Act.put, List.setIfInBounds_toArray, List.set_cons_zero, List.set_cons_succ]
  obtain ⟨arh, aqn, apf, apa, arf, aqm, ape, aoz, e0, f0⟩ := (show ek (k) V4 (v 0) from hv 0 (by decide))
  simp only [e0]
  have hO := hG4.1
  obtain ⟨-, _, _, _, _, _, _, _, _, hz, -⟩ := hO.box (w.heap.size + 4) (0) (List.Mem.tail _ (List.Mem.tail _ (List.Mem.head _)))
  have Am := ag hz 0
  have Hm := ah hz 0
  have Al := ag hz 1
  have Hl := ah hz 1
  have Ak := ag hz 2
  have Hg := ah hz 2
  have Aj := ag hz 3
  have Hf := ah hz 3
  have Aq := lt_of_block hz
  clear hz
  go_wp2_with fail
  replace hO := Own.set (xs := [(Oy, k), (qg, r)]) (ys := [(w.heap.size + 3, e), (w.heap.size + 2, d), (w.heap.size + 1, s), (w.heap.size, l)]) hO f0
  unfold Da at hO
  generalize (((V4.setCell ⟨w.heap.size + 4, 0, none⟩ (.slice arh apf.length aqn)).setCell ⟨w.heap.size + 4, 1, none⟩ (.bool apa)).setCell ⟨w.heap.size + 4, 2, none⟩ (.slice arf ape.length aqm)).setCell ⟨w.heap.size + 4, 3, none⟩ (.bool aoz) = U4 at *
  try clear Am Hm Al Hl Ak Hg Aj Hf hG4
  try clear e0 f0 Aq
  try clear hv
  replace HO := hide hO
  clear hO
  obtain ⟨Hu, Jf, Jd, Iw, Iz, Je, Jc, Iu, Iy, ru, Jb⟩ := (aa HO).box _ _ (List.Mem.tail _ (List.Mem.tail _ (List.Mem.head _)))
  have Am := ag ru 0
  have Al := ag ru 1
  have Ak := ag ru 2
  have Aj := ag ru 3
  have Aq := lt_of_block ru
  clear ru Hu
  go_wp2_with fail
  exact bodyPost_ret (v := .agg #[.slice Jf Iw.length Jd, .bool Iz, .slice Je Iu.length Jc, .bool Iy]) (by simp [results, Tryz.results114, go_sem, Am, Al, Ak, Aj, Aq]) rfl
   ⟨_, rfl, (aa HO).bel, ⟨_, _, _, _, _, _, _, _, rfl, Jb⟩⟩

end Go.Proofs.YtpjgoogeokbaaaaGreatDoor
namespace Go.Proofs.YtpjgoogeokbaaaaGreatDoor
open Go.RowKit

def Bd (z : Int) : Prop := -10000000000000000000000000000000000000 ≤ z ∧ z ≤ 10000000000000000000000000000000000000
theorem Bd.sz {z : Int} (h : Bd z) : Wd.Sz di 4 z := by
 have e : (10000000000000000000000000000000000000 : Nat) < di ^ 4 := by decide
 unfold Bd at h
 unfold Wd.Sz; omega
theorem Bd.Nv {p q : Int} (hp : Bd p) (hq : Bd q) (h0 : q ≠ 0) : Wd.xy di 4 (Rat.divInt p q) := by
 obtain ⟨h1, h2⟩ := Wd.Hw p q h0
 exact ⟨by rw [h1]; exact hp.sz.tdiv _, by rw [h2]; exact hq.sz.tdiv _⟩
theorem bd1 : Bd 1 := by unfold Bd; omega
theorem Bd.Nw {p : Int} (hp : Bd p) : Wd.xy di 4 (Rat.divInt p 1) := hp.Nv bd1 om
theorem Cg {a b : Int} (hb : 0 < b) (hg : a.natAbs.gcd b.natAbs = 1) (W : World) (v : Value) (h : ek (Rat.divInt a b) W v) : Calls Tryz.prog 65 #[v] W (qz (ek (Rat.divInt (b) 1)) W) := by
 have h := bpd _ W v h
 rwa [(Wd.Ik hb hg).2] at h
theorem Pp {a b : Int} (hb : 0 < b) (hg : a.natAbs.gcd b.natAbs = 1) (W : World) (v : Value) (h : ek (Rat.divInt a b) W v) : Calls Tryz.prog 115 #[v] W (qz (ek (Rat.divInt (a) 1)) W) := by
 have h := bpc _ W v h
 rwa [(Wd.Ik hb hg).1] at h
theorem Rl {p q : Int} (hp : Bd p) (hq : Bd q) (h0 : 0 < q) (W : World) (v : Value) (h : ek (Rat.divInt p q) W v) : Calls Tryz.prog 56 #[v] W (qz (ek (Rat.divInt (p / q) 1)) W) := by
 have h := bhk (K := 4) (hp.Nv hq om) om W v h
 rwa [Wd.akf h0] at h
theorem auw {p : Int} (W : World) (v : Value) (h : ek (Rat.divInt (p) 1) W v) : Calls Tryz.prog 116 #[v] W (qz (Rg.ji (.int .i64 (gm p))) W) := by
 have h := blj W v h
 rwa [(Wd.yg p).1] at h
theorem Og {p q : Int} (hp : Bd p) (hq : Bd q) (W : World) (v0 v1 : Value) (h0 : ek (Rat.divInt (p) 1) W v0) (h1 : ek (Rat.divInt (q) 1) W v1) : Calls Tryz.prog 64 #[v0, v1] W (qz (Rg.ji (.int .i64 (gm (p - q)))) W) := by
 have h := aql (K := 4) hp.Nw hq.Nw om W v0 v1 h0 h1
 rwa [(Wd.yg p).1, (Wd.yg p).2, (Wd.yg q).1, (Wd.yg q).2, Int.mul_one, Int.mul_one] at h
theorem Rm {a b n d : Int} (ha : Bd a) (hb : Bd b) (hn : Bd n) (hd : Bd d) (hb0 : 0 < b) (hd0 : 0 < d) (g1 : a.natAbs.gcd b.natAbs = 1) (g2 : n.natAbs.gcd d.natAbs = 1) (W : World) (v0 v1 : Value) (h0 : ek (Rat.divInt a b) W v0) (h1 : ek (Rat.divInt n d) W v1) : Calls Tryz.prog 64 #[v0, v1] W (qz (Rg.ji (.int .i64 (gm (a * d - n * b)))) W) := by
 have h := aql (K := 4) (ha.Nv hb om) (hn.Nv hd om) om W v0 v1 h0 h1
 rwa [(Wd.Ik hb0 g1).1, (Wd.Ik hb0 g1).2, (Wd.Ik hd0 g2).1, (Wd.Ik hd0 g2).2] at h
theorem Hq {p q : Int} (hp : Bd p) (hq : Bd q) (W : World) (v0 v1 : Value) (h0 : ek ((Rat.divInt (p) 1)) W v0) (h1 : ek ((Rat.divInt (q) 1)) W v1) : Calls Tryz.prog 43 #[v0, v1] W (qz (ek ((Rat.divInt (p + q) 1))) W) := by
 have h := bpe (K := 4) hp.Nw hq.Nw om  W v0 v1 h0 h1
 rwa [Wd.bhf] at h
theorem bje {p q : Int} (hp : Bd p) (hq : Bd q) (W : World) (v0 v1 : Value) (h0 : ek ((Rat.divInt (p) 1)) W v0) (h1 : ek ((Rat.divInt (q) 1)) W v1) : Calls Tryz.prog 44 #[v0, v1] W (qz (ek ((Rat.divInt (p - q) 1))) W) := by
 have h := afy (K := 4) hp.Nw hq.Nw om  W v0 v1 h0 h1
 rwa [Wd.bhd] at h
theorem Zx {p q : Int} (hp : Bd p) (hq : Bd q) (W : World) (v0 v1 : Value) (h0 : ek ((Rat.divInt (p) 1)) W v0) (h1 : ek ((Rat.divInt (q) 1)) W v1) : Calls Tryz.prog 45 #[v0, v1] W (qz (ek ((Rat.divInt (p * q) 1))) W) := by
 have h := afz (K := 4) hp.Nw hq.Nw om  W v0 v1 h0 h1
 rwa [Wd.bhe] at h
theorem Oe {p q : Int} (hp : Bd p) (hq : Bd q) (h0q : q ≠ 0) (W : World) (v0 v1 : Value) (h0 : ek ((Rat.divInt (p) 1)) W v0) (h1 : ek ((Rat.divInt (q) 1)) W v1) : Calls Tryz.prog 47 #[v0, v1] W (qz (ek (Rat.divInt p q)) W) := by
 have h := bcr (K := 4) hp.Nw hq.Nw om (by rw [(Wd.yg q).1]; exact h0q) W v0 v1 h0 h1
 rwa [Wd.auy] at h
theorem Ui {p d q : Int} (hp : Bd p) (hd : Bd d) (hd0 : d ≠ 0) (hq : Bd q) (W : World) (v0 v1 : Value) (h0 : ek (Rat.divInt p d) W v0) (h1 : ek ((Rat.divInt (q) 1)) W v1) : Calls Tryz.prog 45 #[v0, v1] W (qz (ek (Rat.divInt (p * q) d)) W) := by
 have h := afz (K := 4) (hp.Nv hd hd0) hq.Nw om  W v0 v1 h0 h1
 rwa [Wd.bgx] at h
theorem ajg {p d q : Int} (hp : Bd p) (hd : Bd d) (hd0 : d ≠ 0) (hq : Bd q) (W : World) (v0 v1 : Value) (h0 : ek (Rat.divInt p d) W v0) (h1 : ek ((Rat.divInt (q) 1)) W v1) : Calls Tryz.prog 44 #[v0, v1] W (qz (ek (Rat.divInt (p - q * d) d)) W) := by
 have h := afy (K := 4) (hp.Nv hd hd0) hq.Nw om  W v0 v1 h0 h1
 rwa [Wd.ayc hd0] at h
theorem amv {p d q : Int} (hp : Bd p) (hd : Bd d) (hd0 : d ≠ 0) (hq : Bd q) (W : World) (v0 v1 : Value) (h0 : ek ((Rat.divInt (q) 1)) W v0) (h1 : ek (Rat.divInt p d) W v1) : Calls Tryz.prog 44 #[v0, v1] W (qz (ek (Rat.divInt (q * d - p) d)) W) := by
 have h := afy (K := 4) hq.Nw (hp.Nv hd hd0) om  W v0 v1 h0 h1
 rwa [Wd.azq hd0] at h
theorem bjf {l h d : Int} (hl : Bd l) (hh : Bd h) (hd : Bd d) (hd0 : d ≠ 0) (hh0 : h ≠ 0) (W : World) (v0 v1 : Value) (h0 : ek (Rat.divInt l d) W v0) (h1 : ek (Rat.divInt h d) W v1) : Calls Tryz.prog 47 #[v0, v1] W (qz (ek (Rat.divInt l h)) W) := by
 have h := bcr (K := 4) (hl.Nv hd hd0) (hh.Nv hd hd0) om (Wd.bio hd0 hh0) W v0 v1 h0 h1
 rwa [Wd.bbb hd0] at h
theorem aff {L H D m b e : Int} (hL : 0 < L) (hH : 0 < H) (hD : 0 < D) (bL : Bd L) (bH : Bd H) (bD : Bd D) (hb : b ≤ m) (hb1 : 1 ≤ b) (he : 1 ≤ e) (hem : e ≤ m) (hm : m ≤ 1000000000000) (W : World) (v1 v2 v3 v4 : Value) (h1 : ek (Rat.divInt L D) W v1) (h2 : ek (Rat.divInt H D) W v2) (h3 : ek (Rat.divInt (b) 1) W v3) (h4 : ek (Rat.divInt (e) 1) W v4) :
  Calls Tryz.prog 114 #[v1, v2, v3, v4, .int .i64 m] W (qz (ek (Rat.divInt (Wd.Hy L H m b e) 1)) W) := by
 have B : ∀ z : Int, -1000000000000 ≤ z → z ≤ 1000000000000 → Bd z := fun z g1 g2 => by unfold Bd; omega
 have d1 : 0 ≤ (m - b) / e := Int.ediv_nonneg om om
 have d2 : 0 ≤ L / H := Int.ediv_nonneg om om
 have f1 : (m - b) / e ≤ m - b := Int.ediv_le_self _ om
 have f2 : L / H ≤ L := Int.ediv_le_self _ om
 have bq : Bd (L / H) := by unfold Bd at bL ⊢; omega
 refine aqh (Rat.divInt L D) (Rat.divInt H D) (Rat.divInt (b) 1) (Rat.divInt (e) 1) (Rat.divInt (m) 1) (Rat.divInt (m - b) 1) (Rat.divInt (m - b) e) (Rat.divInt ((m - b) / e) 1) (Rat.divInt L H) (Rat.divInt (L / H) 1) (Rat.divInt (Wd.Hy L H m b e) 1) m (gm ((m - b) / e - L / H)) ⟨fun h => ?_, fun h => ?_⟩ W v1 v2 v3 v4 h1 h2 h3 h4
  (fun W => Il m om om W) (fun W v0 v1 h0 h1 => bje (B m om om) (B b om om) W v0 v1 h0 h1)
  (fun W v0 v1 h0 h1 => Oe (B (m - b) om om) (B e om om) om W v0 v1 h0 h1) (fun W v0 h0 => Rl (B (m - b) om om) (B e om om) om W v0 h0)
  (fun W v0 v1 h0 h1 => bjf bL bH bD om om W v0 v1 h0 h1) (fun W v0 h0 => Rl bL bH hH W v0 h0)
  (fun W v0 v1 h0 h1 => Og (B ((m - b) / e) om om) bq W v0 v1 h0 h1)
 ·
  unfold Wd.Hy
  rw [if_pos (by unfold gm at h; (repeat' split at h) <;> omega)]
 ·
  unfold Wd.Hy
  rw [if_neg (by unfold gm at h; (repeat' split at h) <;> omega)]

end Go.Proofs.YtpjgoogeokbaaaaGreatDoor
namespace Go.Proofs.YtpjgoogeokbaaaaGreatDoor
open Go.RowKit

theorem Qz {z : Int} (h : z = 0) : (gm z == 0) = true := by rw [h]; rfl
theorem Qy {z : Int} (h : z ≠ 0) : (gm z == 0) = false := by
 unfold gm; (repeat' split) <;> first | rfl | omega
theorem Yw {z : Int} (h : 0 < z) : decide (0 < gm z) = true := decide_eq_true (by unfold gm; (repeat' split) <;> omega)
theorem Nq {z : Int} (h : ¬ 0 < z) : decide (0 < gm z) = false := decide_eq_false (by unfold gm; (repeat' split) <;> omega)
theorem bfv {z : Int} (h : z ≤ 0) : decide (gm z ≤ 0) = true := decide_eq_true (by unfold gm; (repeat' split) <;> omega)
theorem bfu {z : Int} (h : 0 < z) : decide (gm z ≤ 0) = false := decide_eq_false (by unfold gm; (repeat' split) <;> omega)
theorem Own.empty {w W : World} (h : Below w.heap.size w W) : Own w [] W := ⟨h, List.nodup_nil, fun b q h => by cases h⟩
theorem Yg {V W : World} {b : Nat} {v0 v1 v2 v3 : Value} (h : oh V W) (hb : V.heap.size ≤ b) : oh V (Da W b v0 v1 v2 v3) :=
 h.grown (ig W b v0 v1 v2 v3) h.size (fun k hk => by injection hk with hk; omega)
theorem ath {ρ : Operand → Value} {w : World} {d : Option Tmp} {x : Operand} {b : Nat} {u0 u1 : Value} {ty : TypeId} {pos : String} {af : Array Edge} {gd : Option (Nat × Bool)} (h : ρ x = .pointer (some ⟨b, 0, none⟩)) (k0 : w.cell? ⟨b, 0, none⟩ = some u0) (k1 : w.cell? ⟨b, 1, none⟩ = some u1) :
  (execOp ρ { dst := d, op := .load 23 x, type := ty, pos := pos, after := af, guard := gd }).run Tryz.prog w = .ok (.value (.agg #[u0, u1])) w := by
 simp only [execOp, h]
 simp [go_sem, k0, k1]
theorem bfz {Q : Exit → Act → World → Prop} {l : List Oper} {n : Nat} {T : Nat → World → Value → Prop} {G : World → Prop} {al : List Nat} {a0 : Act} {k d b : Nat} {x : Operand} {u0 u1 : Value} {ty : TypeId} {pos : String} {af : Array Edge} {gd : Option (Nat × Bool)}
  (hal : al.contains k = false) (hx : Rg.xc l n T a0 k x (Rg.ji (.pointer (some ⟨b, 0, none⟩)))) (hb : ∀ W, G W → W.cell? ⟨b, 0, none⟩ = some u0 ∧ W.cell? ⟨b, 1, none⟩ = some u1) (hT : T k = Rg.ji (.agg #[u0, u1])) :
  Rg.Step Tryz.prog Q l n T G oh al a0 k { dst := some d, op := .load 23 x, type := ty, pos := pos, after := af, guard := gd } := by
 intro a w hG hO hN
 obtain ⟨k0, k1⟩ := hb w hG
 exact Ao (P := Tryz.prog) (ath (hx a w hO hN) k0 k1) ⟨_, rfl, hG, Below.refl _ _, by rw [hT]; rfl, fun h => by rw [hal] at h; cases h⟩

end Go.Proofs.YtpjgoogeokbaaaaGreatDoor
