/- Texts beneath a law of layer 1. -/
import Derived.Test.YtpjgoogeokbaaaaGreatDoorCk14
set_option maxRecDepth 100000
namespace Go.Proofs.YtpjgoogeokbaaaaGreatDoor
open Go.RowKit

def og : World → World → Prop := fun w w' => Below w.heap.size w w'
theorem og.drew (w : World) : og w w.drew := (Below.refl _ _).drew
theorem J6 {P : Program} {F : Nat} {fn : Func} (h : P.funcs[F]? = some fn) (hn : (!(fn.name == "runtime.NumGoroutine") && fn.body.isSome) = true) (vs : Array Value) (w : World) : (callFunc F vs).run P w = .ok (.enter F vs) w := by
 simp only [Bool.and_eq_true, Bool.not_eq_true', beq_eq_false_iff_ne] at hn
 have h2 : ¬ fn.body = none := by intro e; rw [e] at hn; exact absurd hn.2 (by simp)
 unfold callFunc
 simp [go_sem, h]
 rw [if_neg hn.1, if_neg h2]
theorem Ph {P : Program} {F : Nat} (hF : ∀ (vs : Array Value) (w : World), (callFunc F vs).run P w = .ok (.enter F vs) w) {a : Act} {w : World} {d : Option Tmp} {xs : Array Operand} {ats : Array TypeId} {ty : TypeId} {pos : String} {af : Array Edge} {gd : Option (Nat × Bool)} :
  (execOp a.eval { dst := d, op := .call { callee := .value (.func F), args := xs, argTypes := ats }, type := ty, pos := pos, after := af, guard := gd }).run P w = .ok (.enter F (xs.map a.eval)) w := by
 have h := hF (#[] ++ xs.map a.eval ++ #[]) w
 rw [Array.empty_append, Array.append_empty] at h
 rw [← h]
 simp only [execOp, resolve, Act.eval, Deferred.ofValue, invoke]
 simp only [pure_bind, Array.empty_append, Array.append_empty]
theorem atx {P : Program} {a : Act} {w : World} {d : Option Tmp} {x : Operand} {i : Nat} {ty : TypeId} {pos : String} {af : Array Edge} {gd : Option (Nat × Bool)} {vs : Array Value} {u : Value} (h : a.eval x = .tuple vs) (hu : vs[i]? = some u) :
  (execOp a.eval { dst := d, op := .extract x i, type := ty, pos := pos, after := af, guard := gd }).run P w = .ok (.value u) w := by
 simp only [execOp, h]
 simp [go_sem, hu]
theorem zq {P : Program} {o : Oper} {a : Act} {w w' : World} {v : Value} {K : Act → World → Prop} {Q : Exit → Act → World → Prop} (h : (execOp a.eval o).run P w = .ok (.value v) w') (hK : K (a.put o.dst v) w') : o.wp P a w K Q := by
 unfold Oper.wp; rw [h]; exact hK
theorem O6 {P : Program} {o : Oper} {a : Act} {w w' : World} {F : Nat} {vs : Array Value} {K : Act → World → Prop} {Q : Exit → Act → World → Prop} (h : (execOp a.eval o).run P w = .ok (.enter F vs) w') (hK : Calls P F vs w' (fun e w'' => ∃ v, e = .returned v ∧ K (a.put o.dst v) w'')) : o.wp P a w K Q := by
 unfold Oper.wp; rw [h]
 refine hK.mono ?_
 rintro e w'' ⟨v, rfl, h⟩; exact h
theorem Yw {P : Program} {Q : Exit → Act → World → Prop} {l : List Oper} {n : Nat} {T : Nat → World → Value → Prop} {G : World → Prop} {al : List Nat} {a0 : Act} {k F d : Nat} {fn : Func}  {ats : Array TypeId} {ty : TypeId} {pos : String} {af : Array Edge} {gd : Option (Nat × Bool)}
  (hF : P.funcs[F]? = some fn) (hn : (!(fn.name == "runtime.NumGoroutine") && fn.body.isSome) = true) (hal : al.contains k = false) (Q0 : ∀ W W', G W → og W W' → G W') 
  (hc : ∀ (W : World) , G W → Calls P F #[] W fun e w' => ∃ u, e = .returned u ∧ og W w' ∧ T k w' u) :
  Rg.Step P Q l n T G og al a0 k { dst := some d, op := .call { callee := .value (.func F), args := #[], argTypes := ats }, type := ty, pos := pos, after := af, guard := gd } := by
 intro a w hG hO hN
 refine O6 (Ph (J6 hF hn)) ?_
 simp only [List.map_toArray, List.map_cons, List.map_nil]
 refine (hc w  hG ).mono ?_
 rintro e w' ⟨u, rfl, hb, ht⟩
 exact ⟨u, rfl, u, rfl, Q0 _ _ hG hb, hb, ht, fun h => by rw [hal] at h; cases h⟩
theorem kz {P : Program} {Q : Exit → Act → World → Prop} {l : List Oper} {n : Nat} {T : Nat → World → Value → Prop} {G : World → Prop} {al : List Nat} {a0 : Act} {k F d : Nat} {fn : Func} {x1 : Operand} {A1 : World → Value → Prop} {ats : Array TypeId} {ty : TypeId} {pos : String} {af : Array Edge} {gd : Option (Nat × Bool)}
  (hF : P.funcs[F]? = some fn) (hn : (!(fn.name == "runtime.NumGoroutine") && fn.body.isSome) = true) (hal : al.contains k = false) (Q0 : ∀ W W', G W → og W W' → G W') (h1 : Rg.u6 l n T a0 k x1 A1)
  (hc : ∀ (W : World) (v1 : Value), G W → A1 W v1 → Calls P F #[v1] W fun e w' => ∃ u, e = .returned u ∧ og W w' ∧ T k w' u) :
  Rg.Step P Q l n T G og al a0 k { dst := some d, op := .call { callee := .value (.func F), args := #[x1], argTypes := ats }, type := ty, pos := pos, after := af, guard := gd } := by
 intro a w hG hO hN
 refine O6 (Ph (J6 hF hn)) ?_
 simp only [List.map_toArray, List.map_cons, List.map_nil]
 refine (hc w (a.eval x1) hG (h1 a w hO hN)).mono ?_
 rintro e w' ⟨u, rfl, hb, ht⟩
 exact ⟨u, rfl, u, rfl, Q0 _ _ hG hb, hb, ht, fun h => by rw [hal] at h; cases h⟩
theorem jh {P : Program} {Q : Exit → Act → World → Prop} {l : List Oper} {n : Nat} {T : Nat → World → Value → Prop} {G : World → Prop} {al : List Nat} {a0 : Act} {k F d : Nat} {fn : Func} {x1 x2 : Operand} {A1 A2 : World → Value → Prop} {ats : Array TypeId} {ty : TypeId} {pos : String} {af : Array Edge} {gd : Option (Nat × Bool)}
  (hF : P.funcs[F]? = some fn) (hn : (!(fn.name == "runtime.NumGoroutine") && fn.body.isSome) = true) (hal : al.contains k = false) (Q0 : ∀ W W', G W → og W W' → G W') (h1 : Rg.u6 l n T a0 k x1 A1) (h2 : Rg.u6 l n T a0 k x2 A2)
  (hc : ∀ (W : World) (v1 v2 : Value), G W → A1 W v1 → A2 W v2 → Calls P F #[v1, v2] W fun e w' => ∃ u, e = .returned u ∧ og W w' ∧ T k w' u) :
  Rg.Step P Q l n T G og al a0 k { dst := some d, op := .call { callee := .value (.func F), args := #[x1, x2], argTypes := ats }, type := ty, pos := pos, after := af, guard := gd } := by
 intro a w hG hO hN
 refine O6 (Ph (J6 hF hn)) ?_
 simp only [List.map_toArray, List.map_cons, List.map_nil]
 refine (hc w (a.eval x1) (a.eval x2) hG (h1 a w hO hN) (h2 a w hO hN)).mono ?_
 rintro e w' ⟨u, rfl, hb, ht⟩
 exact ⟨u, rfl, u, rfl, Q0 _ _ hG hb, hb, ht, fun h => by rw [hal] at h; cases h⟩
theorem afq {P : Program} {Q : Exit → Act → World → Prop} {l : List Oper} {n : Nat} {T : Nat → World → Value → Prop} {G : World → Prop} {al : List Nat} {a0 : Act} {k F d : Nat} {fn : Func} {x1 x2 x3 x4 x5 : Operand} {A1 A2 A3 A4 A5 : World → Value → Prop} {ats : Array TypeId} {ty : TypeId} {pos : String} {af : Array Edge} {gd : Option (Nat × Bool)}
  (hF : P.funcs[F]? = some fn) (hn : (!(fn.name == "runtime.NumGoroutine") && fn.body.isSome) = true) (hal : al.contains k = false) (Q0 : ∀ W W', G W → og W W' → G W') (h1 : Rg.u6 l n T a0 k x1 A1) (h2 : Rg.u6 l n T a0 k x2 A2) (h3 : Rg.u6 l n T a0 k x3 A3) (h4 : Rg.u6 l n T a0 k x4 A4) (h5 : Rg.u6 l n T a0 k x5 A5)
  (hc : ∀ (W : World) (v1 v2 v3 v4 v5 : Value), G W → A1 W v1 → A2 W v2 → A3 W v3 → A4 W v4 → A5 W v5 → Calls P F #[v1, v2, v3, v4, v5] W fun e w' => ∃ u, e = .returned u ∧ og W w' ∧ T k w' u) :
  Rg.Step P Q l n T G og al a0 k { dst := some d, op := .call { callee := .value (.func F), args := #[x1, x2, x3, x4, x5], argTypes := ats }, type := ty, pos := pos, after := af, guard := gd } := by
 intro a w hG hO hN
 refine O6 (Ph (J6 hF hn)) ?_
 simp only [List.map_toArray, List.map_cons, List.map_nil]
 refine (hc w (a.eval x1) (a.eval x2) (a.eval x3) (a.eval x4) (a.eval x5) hG (h1 a w hO hN) (h2 a w hO hN) (h3 a w hO hN) (h4 a w hO hN) (h5 a w hO hN)).mono ?_
 rintro e w' ⟨u, rfl, hb, ht⟩
 exact ⟨u, rfl, u, rfl, Q0 _ _ hG hb, hb, ht, fun h => by rw [hal] at h; cases h⟩
theorem u7 {P : Program} {Q : Exit → Act → World → Prop} {l : List Oper} {n : Nat} {T : Nat → World → Value → Prop} {G : World → Prop} {al : List Nat} {a0 : Act} {k d : Nat} {x : Operand} {ty : TypeId} {pos : String} {af : Array Edge} {gd : Option (Nat × Bool)}
  (hal : al.contains k = false) (hx : Rg.u6 l n T a0 k x (T k)) : Rg.Step P Q l n T G og al a0 k { dst := some d, op := .move x, type := ty, pos := pos, after := af, guard := gd } := by
 intro a w hG hO hN
 exact zq (v := a.eval x) (w' := w) rfl ⟨_, rfl, hG, Below.refl _ _, hx a w hO hN, fun h => by rw [hal] at h; cases h⟩
theorem xc {P : Program} {Q : Exit → Act → World → Prop} {l : List Oper} {n : Nat} {T : Nat → World → Value → Prop} {G : World → Prop} {al : List Nat} {a0 : Act} {k d : Nat} {x : Operand} {ty : TypeId} {pos : String} {af : Array Edge} {gd : Option (Nat × Bool)}
  (hal : al.contains k = false) (hx : Rg.u6 l n T a0 k x (T k)) : Rg.Step P Q l n T G og al a0 k { dst := some d, op := .assign x, type := ty, pos := pos, after := af, guard := gd } := by
 intro a w hG hO hN
 exact zq (v := a.eval x) (w' := w) rfl ⟨_, rfl, hG, Below.refl _ _, hx a w hO hN, fun h => by rw [hal] at h; cases h⟩
theorem aqh {P : Program} {Q : Exit → Act → World → Prop} {l : List Oper} {n : Nat} {T : Nat → World → Value → Prop} {G : World → Prop} {al : List Nat} {a0 : Act} {k d i : Nat} {x : Operand} {A : World → Value → Prop} {ty : TypeId} {pos : String} {af : Array Edge} {gd : Option (Nat × Bool)}
  (hal : al.contains k = false) (hx : Rg.u6 l n T a0 k x A) (hi : ∀ W v, A W v → ∃ vs, v = .tuple vs ∧ ∃ u, vs[i]? = some u ∧ T k W u) : Rg.Step P Q l n T G og al a0 k { dst := some d, op := .extract x i, type := ty, pos := pos, after := af, guard := gd } := by
 intro a w hG hO hN
 obtain ⟨vs, h1, u, h2, h3⟩ := hi _ _ (hx a w hO hN)
 exact zq (atx h1 h2) ⟨_, rfl, hG, Below.refl _ _, h3, fun h => by rw [hal] at h; cases h⟩
theorem acw {P : Program} {a : Act} {w : World} {d : Option Tmp} {c x y : Operand} {b : Bool} {ty : TypeId} {pos : String} {af : Array Edge} {gd : Option (Nat × Bool)} (h : a.eval c = .bool b) :
  (execOp a.eval { dst := d, op := .pick c x y, type := ty, pos := pos, after := af, guard := gd }).run P w = .ok (.value (if b then a.eval x else a.eval y)) w := by
 simp only [execOp, h]
 cases b <;> simp [go_sem]
theorem acs {P : Program} {Q : Exit → Act → World → Prop} {l : List Oper} {n : Nat} {T : Nat → World → Value → Prop} {G : World → Prop} {al : List Nat} {a0 : Act} {k d : Nat} {c x y : Operand} {ty : TypeId} {pos : String} {af : Array Edge} {gd : Option (Nat × Bool)}
  (hal : al.contains k = false) (hc : Rg.u6 l n T a0 k c (Rg.ji (.bool true))) (hx : Rg.u6 l n T a0 k x (T k)) : Rg.Step P Q l n T G og al a0 k { dst := some d, op := .pick c x y, type := ty, pos := pos, after := af, guard := gd } := by
 intro a w hG hO hN
 exact zq (acw (hc a w hO hN)) ⟨_, rfl, hG, Below.refl _ _, hx a w hO hN, fun h => by rw [hal] at h; cases h⟩
theorem an2 {P : Program} {Q : Exit → Act → World → Prop} {l : List Oper} {n : Nat} {T : Nat → World → Value → Prop} {G : World → Prop} {al : List Nat} {a0 : Act} {k d : Nat} {c x y : Operand} {ty : TypeId} {pos : String} {af : Array Edge} {gd : Option (Nat × Bool)}
  (hal : al.contains k = false) (hc : Rg.u6 l n T a0 k c (Rg.ji (.bool false))) (hy : Rg.u6 l n T a0 k y (T k)) : Rg.Step P Q l n T G og al a0 k { dst := some d, op := .pick c x y, type := ty, pos := pos, after := af, guard := gd } := by
 intro a w hG hO hN
 exact zq (acw (hc a w hO hN)) ⟨_, rfl, hG, Below.refl _ _, hy a w hO hN, fun h => by rw [hal] at h; cases h⟩
theorem att {P : Program} {a : Act} {w : World} {d : Option Tmp} {x : Operand} {b : Bool} {tb ty : TypeId} {pos : String} {af : Array Edge} {gd : Option (Nat × Bool)} (h : a.eval x = .bool b) :
  (execOp a.eval { dst := d, op := .unOp .not tb x, type := ty, pos := pos, after := af, guard := gd }).run P w = .ok (.value (.bool (!b))) w := by
 simp only [execOp, h]
 simp [go_sem]
theorem aqf {P : Program} {Q : Exit → Act → World → Prop} {l : List Oper} {n : Nat} {T : Nat → World → Value → Prop} {G : World → Prop} {al : List Nat} {a0 : Act} {k d : Nat} {x : Operand} {b c : Bool} {tb ty : TypeId} {pos : String} {af : Array Edge} {gd : Option (Nat × Bool)}
  (hal : al.contains k = false) (hx : Rg.u6 l n T a0 k x (Rg.ji (.bool b))) (hT : T k = Rg.ji (.bool c)) (hb : (!b) = c) : Rg.Step P Q l n T G og al a0 k { dst := some d, op := .unOp .not tb x, type := ty, pos := pos, after := af, guard := gd } := by
 intro a w hG hO hN
 exact zq (att (hx a w hO hN)) ⟨_, rfl, hG, Below.refl _ _, by rw [hT, ← hb]; rfl, fun h => by rw [hal] at h; cases h⟩
theorem atv {ρ : Operand → Value} {w : World} {d : Option Tmp} {x y : Operand} {o z : Int} {ty : TypeId} {pos : String} {af : Array Edge} {gd : Option (Nat × Bool)} (h : ρ x = .int .i64 o) (h' : ρ y = .int .i64 z) :
  (execOp ρ { dst := d, op := .binOp .leq 3 x y 3, type := ty, pos := pos, after := af, guard := gd }).run Tryz.prog w = .ok (.value (.bool (decide (o ≤ z)))) w := by
 simp only [execOp, h, h']
 simp [go_sem, Tryz.underlying3]
theorem aqg {Q : Exit → Act → World → Prop} {l : List Oper} {n : Nat} {T : Nat → World → Value → Prop} {G : World → Prop} {al : List Nat} {a0 : Act} {k d : Nat} {x y : Operand} {o z : Int} {ty : TypeId} {pos : String} {af : Array Edge} {gd : Option (Nat × Bool)} {b : Bool}
  (hal : al.contains k = false) (hx : Rg.u6 l n T a0 k x (Rg.ji (.int .i64 o))) (hy : Rg.u6 l n T a0 k y (Rg.ji (.int .i64 z))) (hT : T k = Rg.ji (.bool b)) (hb : (decide (o ≤ z)) = b) : Rg.Step Tryz.prog Q l n T G og al a0 k { dst := some d, op := .binOp .leq 3 x y 3, type := ty, pos := pos, after := af, guard := gd } := by
 intro a w hG hO hN
 exact zq (P := Tryz.prog) (atv (hx a w hO hN) (hy a w hO hN)) ⟨_, rfl, hG, Below.refl _ _, by rw [hT, hb]; rfl, fun h => by rw [hal] at h; cases h⟩
theorem atu {ρ : Operand → Value} {w : World} {d : Option Tmp} {x y : Operand} {o z : Int} {ty : TypeId} {pos : String} {af : Array Edge} {gd : Option (Nat × Bool)} (h : ρ x = .int .i64 o) (h' : ρ y = .int .i64 z) :
  (execOp ρ { dst := d, op := .binOp .lss 3 x y 3, type := ty, pos := pos, after := af, guard := gd }).run Tryz.prog w = .ok (.value (.bool (decide (o < z)))) w := by
 simp only [execOp, h, h']
 simp [go_sem, Tryz.underlying3]
theorem Pg {Q : Exit → Act → World → Prop} {l : List Oper} {n : Nat} {T : Nat → World → Value → Prop} {G : World → Prop} {al : List Nat} {a0 : Act} {k d : Nat} {x y : Operand} {o z : Int} {ty : TypeId} {pos : String} {af : Array Edge} {gd : Option (Nat × Bool)} {b : Bool}
  (hal : al.contains k = false) (hx : Rg.u6 l n T a0 k x (Rg.ji (.int .i64 o))) (hy : Rg.u6 l n T a0 k y (Rg.ji (.int .i64 z))) (hT : T k = Rg.ji (.bool b)) (hb : (decide (o < z)) = b) : Rg.Step Tryz.prog Q l n T G og al a0 k { dst := some d, op := .binOp .lss 3 x y 3, type := ty, pos := pos, after := af, guard := gd } := by
 intro a w hG hO hN
 exact zq (P := Tryz.prog) (atu (hx a w hO hN) (hy a w hO hN)) ⟨_, rfl, hG, Below.refl _ _, by rw [hT, hb]; rfl, fun h => by rw [hal] at h; cases h⟩
theorem atw {ρ : Operand → Value} {w : World} {d : Option Tmp} {x y : Operand} {o z : Int} {ty : TypeId} {pos : String} {af : Array Edge} {gd : Option (Nat × Bool)} (h : ρ x = .int .i64 o) (h' : ρ y = .int .i64 z) :
  (execOp ρ { dst := d, op := .binOp .gtr 3 x y 3, type := ty, pos := pos, after := af, guard := gd }).run Tryz.prog w = .ok (.value (.bool (decide (z < o)))) w := by
 simp only [execOp, h, h']
 simp [go_sem, Tryz.underlying3]
theorem Hu {Q : Exit → Act → World → Prop} {l : List Oper} {n : Nat} {T : Nat → World → Value → Prop} {G : World → Prop} {al : List Nat} {a0 : Act} {k d : Nat} {x y : Operand} {o z : Int} {ty : TypeId} {pos : String} {af : Array Edge} {gd : Option (Nat × Bool)} {b : Bool}
  (hal : al.contains k = false) (hx : Rg.u6 l n T a0 k x (Rg.ji (.int .i64 o))) (hy : Rg.u6 l n T a0 k y (Rg.ji (.int .i64 z))) (hT : T k = Rg.ji (.bool b)) (hb : (decide (z < o)) = b) : Rg.Step Tryz.prog Q l n T G og al a0 k { dst := some d, op := .binOp .gtr 3 x y 3, type := ty, pos := pos, after := af, guard := gd } := by
 intro a w hG hO hN
 exact zq (P := Tryz.prog) (atw (hx a w hO hN) (hy a w hO hN)) ⟨_, rfl, hG, Below.refl _ _, by rw [hT, hb]; rfl, fun h => by rw [hal] at h; cases h⟩
theorem aty {ρ : Operand → Value} {w : World} {d : Option Tmp} {x y : Operand} {o z : Int} {ty : TypeId} {pos : String} {af : Array Edge} {gd : Option (Nat × Bool)} (h : ρ x = .int .i64 o) (h' : ρ y = .int .i64 z) :
  (execOp ρ { dst := d, op := .binOp .eql 3 x y 3, type := ty, pos := pos, after := af, guard := gd }).run Tryz.prog w = .ok (.value (.bool ((o == z)))) w := by
 simp only [execOp, h, h']
 simp [go_sem, Tryz.underlying3]
theorem Jv {Q : Exit → Act → World → Prop} {l : List Oper} {n : Nat} {T : Nat → World → Value → Prop} {G : World → Prop} {al : List Nat} {a0 : Act} {k d : Nat} {x y : Operand} {o z : Int} {ty : TypeId} {pos : String} {af : Array Edge} {gd : Option (Nat × Bool)} {b : Bool}
  (hal : al.contains k = false) (hx : Rg.u6 l n T a0 k x (Rg.ji (.int .i64 o))) (hy : Rg.u6 l n T a0 k y (Rg.ji (.int .i64 z))) (hT : T k = Rg.ji (.bool b)) (hb : ((o == z)) = b) : Rg.Step Tryz.prog Q l n T G og al a0 k { dst := some d, op := .binOp .eql 3 x y 3, type := ty, pos := pos, after := af, guard := gd } := by
 intro a w hG hO hN
 exact zq (P := Tryz.prog) (aty (hx a w hO hN) (hy a w hO hN)) ⟨_, rfl, hG, Below.refl _ _, by rw [hT, hb]; rfl, fun h => by rw [hal] at h; cases h⟩
def ek (q : Rat) : World → Value → Prop := fun W v => ∃ A1 c1 l1 m1 A2 c2 l2 m2, v = (Value.agg #[.slice A1 (List.length l1) c1, .bool m1, .slice A2 (List.length l2) c2, .bool m2]) ∧ QV W A1 c1 l1 m1 A2 c2 l2 m2 q
theorem df (q : Rat) : Rg.Ng og (ek q) := by
 rintro w w' v hb ⟨A1, c1, l1, m1, A2, c2, l2, m2, rfl, h⟩
 exact ⟨_, _, _, _, _, _, _, _, rfl, h.below hb⟩
def Cv (B : Nat) : World → Value → Prop := fun W v => ∃ b, v = .pointer (some ⟨b, 0, none⟩) ∧ B ≤ b ∧ uj W b 0
theorem Ct (B : Nat) : Rg.Ng og (Cv B) := by
 rintro w w' v hb ⟨b, rfl, h1, h2⟩
 exact ⟨b, rfl, h1, h2.below hb⟩
theorem aeh {W : World} {b : Nat} (h : W.heap[b]? = some (.cells #[.slice none 0 0, .bool false, .slice none 0 0, .bool false] 52 (0, 0))) : uj W b 0 :=
 have h0 : bg W none 0 [] false 0 := ⟨qj.Na W 0 om, rfl⟩
 ⟨none, 0, [], false, none, 0, [], false, h, h0, 0, h0, .inr ⟨rfl, rfl⟩⟩
theorem uj.lt {W : World} {b : Nat} {q : Rat} (h : uj W b q) : b < W.heap.size := by
 obtain ⟨_, _, _, _, _, _, _, _, h, _⟩ := h; exact lt_of_block h
theorem Zw {ρ : Operand → Value} {w : World} {d : Option Tmp} {x : Operand} {b : Nat} {u0 u1 u2 u3 : Value} {ty : TypeId} {pos : String} {af : Array Edge} {gd : Option (Nat × Bool)} (h : ρ x = .pointer (some ⟨b, 0, none⟩)) (k0 : w.cell? ⟨b, 0, none⟩ = some u0) (k1 : w.cell? ⟨b, 1, none⟩ = some u1) (k2 : w.cell? ⟨b, 2, none⟩ = some u2) (k3 : w.cell? ⟨b, 3, none⟩ = some u3) :
  (execOp ρ { dst := d, op := .load 52 x, type := ty, pos := pos, after := af, guard := gd }).run Tryz.prog w = .ok (.value (.agg #[u0, u1, u2, u3])) w := by
 simp only [execOp, h]
 simp [go_sem, k0, k1, k2, k3]
theorem gy {Q : Exit → Act → World → Prop} {l : List Oper} {n : Nat} {T : Nat → World → Value → Prop} {G : World → Prop} {al : List Nat} {a0 : Act} {k d b : Nat} {x : Operand} {q : Rat} {ty : TypeId} {pos : String} {af : Array Edge} {gd : Option (Nat × Bool)}
  (hal : al.contains k = false) (hx : Rg.u6 l n T a0 k x (Rg.ji (.pointer (some ⟨b, 0, none⟩)))) (hb : ∀ W, G W → uj W b q) (hT : T k = ek q) :
  Rg.Step Tryz.prog Q l n T G og al a0 k { dst := some d, op := .load 52 x, type := ty, pos := pos, after := af, guard := gd } := by
 intro a w hG hO hN
 obtain ⟨A1, c1, l1, m1, A2, c2, l2, m2, hk, hq⟩ := hb w hG
 exact zq (P := Tryz.prog) (Zw (hx a w hO hN) (ag hk 0) (ag hk 1) (ag hk 2) (ag hk 3)) ⟨_, rfl, hG, Below.refl _ _, by rw [hT]; exact ⟨A1, c1, l1, m1, A2, c2, l2, m2, rfl, hq⟩, fun h => by rw [hal] at h; cases h⟩
theorem an3 {ρ : Operand → Value} {w : World} {d : Option Tmp} {ty : TypeId} {pos : String} {af : Array Edge} {gd : Option (Nat × Bool)} :
  (execOp ρ { dst := d, op := .alloc 52, type := ty, pos := pos, after := af, guard := gd }).run Tryz.prog w = .ok (.value (.pointer (some ⟨w.heap.size, 0, none⟩))) (w.alloc (.cells #[.slice none 0 0, .bool false, .slice none 0 0, .bool false] 52)) := by
 simp only [execOp]
 simp [go_sem]
theorem ahh (w : World) : ∃ X : World, og w X ∧ uj X w.heap.size 0 ∧ ∀ (ρ : Operand → Value) (d : Option Tmp) (ty : TypeId) (pos : String) (af : Array Edge) (gd : Option (Nat × Bool)),
  (execOp ρ { dst := d, op := .alloc 52, type := ty, pos := pos, after := af, guard := gd }).run Tryz.prog w = .ok (.value (.pointer (some ⟨w.heap.size, 0, none⟩))) X :=
 ⟨_, (Below.refl _ _).alloc (Nat.le_refl _) _, aeh (heap_alloc_new w _), fun _ _ _ _ _ _ => an3⟩
theorem ay0 {P : Program} {Q : Exit → Act → World → Prop} {l : List Oper} {n : Nat} {T : Nat → World → Value → Prop} {G : World → Prop} {al : List Nat} {a0 : Act} {k B : Nat} {o : Oper} {N : Nat → World → Value → Prop} (hnew : ∀ (a : Act) (w : World), ∃ X : World, og w X ∧ (B ≤ w.heap.size → N B X (.pointer (some ⟨w.heap.size, 0, none⟩))) ∧ (execOp a.eval o).run P w = .ok (.value (.pointer (some ⟨w.heap.size, 0, none⟩))) X)
  (Q0 : ∀ W W', G W → og W W' → G W') (hB : ∀ W, G W → B ≤ W.heap.size) (hT : T k = N B) (hlt : ∀ j W u, al.contains j = true → T j W u → ∃ b, u = .pointer (some ⟨b, 0, none⟩) ∧ b < W.heap.size) :
  Rg.Step P Q l n T G og al a0 k o := by
 intro a w hG hO hN
 obtain ⟨X, hb, hbx, hr⟩ := hnew a w
 have hT2 : T k X (.pointer (some ⟨w.heap.size, 0, none⟩)) := by rw [hT]; exact hbx (hB w hG)
 have hG2 := Q0 _ _ hG hb
 have hne : al.contains k = true → ∀ j u, al.contains j = true → T j w u → u ≠ .pointer (some ⟨w.heap.size, 0, none⟩) := fun _ j u hj ht he => by
  obtain ⟨b, h1, h2⟩ := hlt j w u hj ht
  rw [h1] at he
  have h3 : b = w.heap.size := by simpa using he
  omega
 exact zq hr ⟨_, rfl, hG2, hb, hT2, hne⟩
theorem F7 {Q : Exit → Act → World → Prop} {l : List Oper} {n : Nat} {T : Nat → World → Value → Prop} {G : World → Prop} {al : List Nat} {a0 : Act} {k d B : Nat} {ty : TypeId} {pos : String} {af : Array Edge} {gd : Option (Nat × Bool)}
  (Q0 : ∀ W W', G W → og W W' → G W') (hB : ∀ W, G W → B ≤ W.heap.size) (hT : T k = Cv B) (hlt : ∀ j W u, al.contains j = true → T j W u → ∃ b, u = .pointer (some ⟨b, 0, none⟩) ∧ b < W.heap.size) :
  Rg.Step Tryz.prog Q l n T G og al a0 k { dst := some d, op := .alloc 52, type := ty, pos := pos, after := af, guard := gd } := by
 refine ay0 (N := Cv) (B := B) ?_ Q0 hB hT hlt
 intro a w
 exact (ahh w).elim fun X h => ⟨X, h.1, fun hB => ⟨w.heap.size, rfl, hB, h.2.1⟩, h.2.2 a.eval (some d) ty pos af gd⟩
theorem En {T : Nat → World → Value → Prop} {js : List Nat} {B : Nat} (h : ∀ j, js.contains j = true → T j = Cv B) : ∀ j W u, js.contains j = true → T j W u → ∃ b, u = .pointer (some ⟨b, 0, none⟩) ∧ b < W.heap.size := fun j W u hj ht => by
 rw [h j hj] at ht
 obtain ⟨b, h1, _, h2⟩ := ht
 exact ⟨b, h1, h2.lt⟩
structure Own (w : World) (bs : List (Nat × Rat)) (W : World) : Prop where
 bel : Below w.heap.size w W
 nd : (bs.map Prod.fst).Nodup
 box : ∀ b q, (b, q) ∈ bs → w.heap.size ≤ b ∧ uj W b q
theorem Own.nil (w : World) : Own w [] w := ⟨Below.refl _ _, List.nodup_nil, fun b q h => by cases h⟩
theorem Own.step {w : World} {bs : List (Nat × Rat)} : ∀ W W', Own w bs W → og W W' → Own w bs W' := fun W W' h hb => ⟨au h.bel hb, h.nd, fun b q hm => ⟨(h.box b q hm).1, (h.box b q hm).2.below hb⟩⟩
theorem Own.lt {w W : World} {bs : List (Nat × Rat)} {b : Nat} {q : Rat} (h : Own w bs W) (hm : (b, q) ∈ bs) : b < W.heap.size := (h.box b q hm).2.lt
theorem Own.add {w W V : World} {bs : List (Nat × Rat)} {b : Nat} {q : Rat} (h : Own w bs V) (hVW : og V W) (hb : V.heap.size ≤ b) (hq : uj W b q) : Own w ((b, q) :: bs) W :=
 ⟨au h.bel hVW, List.nodup_cons.2 ⟨fun hm => by
  obtain ⟨p, hp, he⟩ := List.mem_map.1 hm
  have := h.lt (b := p.1) (q := p.2) hp
  omega, h.nd⟩, fun b' q' hm => by
  rcases List.mem_cons.1 hm with e | hm
  ·
   cases e; exact ⟨Nat.le_trans h.bel.size hb, hq⟩
  ·
   exact ((Own.step V W h hVW).box b' q' hm)⟩
theorem Own.push {w W : World} {bs : List (Nat × Rat)} {q : Rat} {A1 : Option Addr} {c1 : Nat} {l1 : List Nat} {m1 : Bool} {A2 : Option Addr} {c2 : Nat} {l2 : List Nat} {m2 : Bool} (h : Own w bs W) (hv : QV W A1 c1 l1 m1 A2 c2 l2 m2 q) (b : Nat) (hb : b = W.heap.size) : Own w ((b, q) :: bs) (W.alloc (.cells #[.slice A1 l1.length c1, .bool m1, .slice A2 l2.length c2, .bool m2] 52)) := by
 subst hb
 exact h.add ((Below.refl _ _).alloc (Nat.le_refl _) _) (Nat.le_refl _) ⟨_, _, _, _, _, _, _, _, heap_alloc_new W _, hv.below ((Below.refl _ _).alloc (Nat.le_refl _) _)⟩
theorem Own.Rn {w W : World} {bs : List (Nat × Rat)} (h : Own w bs W) (b : Nat) (hb : b = W.heap.size) : Own w ((b, 0) :: bs) (W.alloc (.cells #[.slice none 0 0, .bool false, .slice none 0 0, .bool false] 52)) := by
 subst hb
 exact h.add ((Below.refl _ _).alloc (Nat.le_refl _) _) (Nat.le_refl _) (aeh (heap_alloc_new W _))
theorem Own.other {w W : World} {bs : List (Nat × Rat)} (o : Obj) (h : Own w bs W) : Own w bs (W.alloc o) := Own.step _ _ h ((Below.refl _ _).alloc (Nat.le_refl _) _)
def Cf (W : World) (b : Nat) (v0 v1 v2 v3 : Value) : World := (((W.setCell ⟨b, 0, none⟩ v0).setCell ⟨b, 1, none⟩ v1).setCell ⟨b, 2, none⟩ v2).setCell ⟨b, 3, none⟩ v3
theorem Own.set {w W : World} {xs ys : List (Nat × Rat)} {b : Nat} {q0 q : Rat} {A1 : Option Addr} {c1 : Nat} {l1 : List Nat} {m1 : Bool} {A2 : Option Addr} {c2 : Nat} {l2 : List Nat} {m2 : Bool} (h : Own w (xs ++ (b, q0) :: ys) W) (hv : QV W A1 c1 l1 m1 A2 c2 l2 m2 q) :
  Own w (xs ++ (b, q) :: ys) (Cf W b (.slice A1 l1.length c1) (.bool m1) (.slice A2 l2.length c2) (.bool m2)) := by
 obtain ⟨hge, hb⟩ := h.box b q0 (List.mem_append_right _ List.mem_cons_self)
 obtain ⟨A, c, l, m, A', c', l', m', h1, h2⟩ := hb
 have hg := ig W b (.slice A1 l1.length c1) (.bool m1) (.slice A2 l2.length c2) (.bool m2)
 have hnd := h.nd
 rw [List.map_append, List.map_cons] at hnd
 have hn : ∀ b' q', (b', q') ∈ xs ++ ys → b' ≠ b := fun b' q' hm e => by
  subst e
  obtain ⟨_, h4, h5⟩ := List.nodup_append.1 hnd
  rcases List.mem_append.1 hm with hm | hm
  ·
   exact h5 b' (List.mem_map.2 ⟨_, hm, rfl⟩) b' List.mem_cons_self rfl
  ·
   exact (List.nodup_cons.1 h4).1 (List.mem_map.2 ⟨_, hm, rfl⟩)
 refine ⟨h.bel.grown hg h.bel.size (fun k hk => by injection hk with hk; omega), by rw [List.map_append, List.map_cons]; exact hnd, fun b' q' hm => ?_⟩
 rcases List.mem_append.1 hm with hm | hm
 rotate_left
 rcases List.mem_cons.1 hm with e | hm
 ·
  cases e
  exact ⟨hge, ⟨_, _, _, _, _, _, _, _, Uy h1, hv.upto h1 (qg _ _ _ _ _ _ _ _) hg⟩⟩
 all_goals
  have hne := hn b' q' (by first | exact List.mem_append_right _ hm | exact List.mem_append_left _ hm)
  obtain ⟨hge', B, d, r, p, B', d', r', p', g1, g2⟩ := h.box b' q' (by first | exact List.mem_append_right _ (List.mem_cons_of_mem _ hm) | exact List.mem_append_left _ hm)
  exact ⟨hge', B, d, r, p, B', d', r', p', (hg.block b' (lt_of_block g1) (fun e => hne (by first | exact Option.some.inj e | exact (Option.some.inj e).symm))).trans g1, g2.upto h1 (qg _ _ _ _ _ _ _ _) hg⟩
theorem Own.axy {w W V : World} {bs : List (Nat × Rat)} {b b' : Nat} {q q' : Rat} (h : Own w bs V) (hVW : og V W) (hb : V.heap.size ≤ b) (hq : uj W b q) (hb' : V.heap.size ≤ b') (hq' : uj W b' q') (hne : b' ≠ b) : Own w ((b', q') :: (b, q) :: bs) W := by
 have h1 := Own.add h hVW hb hq
 have h2 := Own.add h hVW hb' hq'
 refine ⟨h1.bel, List.nodup_cons.2 ⟨fun hm => ?_, h1.nd⟩, fun c p hm => ?_⟩
 ·
  rw [List.map_cons] at hm
  rcases List.mem_cons.1 hm with e | hm
  ·
   exact hne e
  ·
   exact (List.nodup_cons.1 h2.nd).1 hm
 ·
  rcases List.mem_cons.1 hm with e | hm
  ·
   cases e; exact h2.box _ _ List.mem_cons_self
  ·
   exact h1.box _ _ hm
theorem Qo {W : World} {b : Nat} {q0 q : Rat} {v0 v1 v2 v3 : Value} {A1 : Option Addr} {c1 : Nat} {l1 : List Nat} {m1 : Bool} {A2 : Option Addr} {c2 : Nat} {l2 : List Nat} {m2 : Bool} (h : uj W b q0) (hv : QV W A1 c1 l1 m1 A2 c2 l2 m2 q) : QV (Cf W b v0 v1 v2 v3) A1 c1 l1 m1 A2 c2 l2 m2 q := by
 obtain ⟨A, c, l, m, A', c', l', m', h1, h2⟩ := h
 exact hv.upto h1 (qg _ _ _ _ _ _ _ _) (ig W b v0 v1 v2 v3)
def cz (w : World) (bs : List (Nat × Rat)) (V : World) : World → Prop := fun W => Own w bs W ∧ og V W
theorem cz.step {w V : World} {bs : List (Nat × Rat)} : ∀ W W', cz w bs V W → og W W' → cz w bs V W' := fun W W' h hb => ⟨Own.step W W' h.1 hb, au h.2 hb⟩
theorem cz.size {w V : World} {bs : List (Nat × Rat)} : ∀ W, cz w bs V W → V.heap.size ≤ W.heap.size := fun _ h => h.2.size
theorem cz.start {w V : World} {bs : List (Nat × Rat)} (h : Own w bs V) : cz w bs V V.drew := ⟨Own.step _ _ h (og.drew V), og.drew V⟩
theorem cz.begin {w V : World} {bs : List (Nat × Rat)} (h : Own w bs V) : cz w bs V V := ⟨h, Below.refl _ _⟩
theorem cz.box {w V W : World} {bs : List (Nat × Rat)} {b : Nat} {q : Rat} (hm : (b, q) ∈ bs) (h : cz w bs V W) : uj W b q := (h.1.box b q hm).2
def qh (T : World → Value → Prop) (w : World) (e : Ending) (w' : World) : Prop := ∃ u, e = .returned u ∧ og w w' ∧ T w' u
theorem J8 {w w' : World} {q : Rat} {e : Ending} (h : QR w q e w') : qh (ek q) w e w' := by
 obtain ⟨A1, c1, l1, m1, A2, c2, l2, m2, rfl, h1, h2, hb⟩ := h
 exact ⟨_, rfl, hb, _, _, _, _, _, _, _, _, rfl, QV.of h1 h2⟩
def Ar (z : Int) : World → Value → Prop := fun W v => ∃ A c l m, v = .agg #[.slice A (List.length l) c, .bool m] ∧ bg W A c l m z
theorem Dz (z : Int) : Rg.Ng og (Ar z) := by
 rintro w w' v hb ⟨A, c, l, m, rfl, h⟩
 exact ⟨_, _, _, _, rfl, h.below hb⟩
theorem akh {ρ : Operand → Value} {w : World} {d : Option Tmp} {x : Operand} {b : Nat} {ty : TypeId} {pos : String} {af : Array Edge} {gd : Option (Nat × Bool)} (h : ρ x = .pointer (some ⟨b, 0, none⟩)) :
  (execOp ρ { dst := d, op := .fieldAddr 52 x 0, type := ty, pos := pos, after := af, guard := gd }).run Tryz.prog w = .ok (.value (.pointer (some ⟨b, 0, none⟩))) w := by
 simp only [execOp, h]
 simp [go_sem]
theorem Yv {Q : Exit → Act → World → Prop} {l : List Oper} {n : Nat} {T : Nat → World → Value → Prop} {G : World → Prop} {al : List Nat} {a0 : Act} {k d b : Nat} {x : Operand} {ty : TypeId} {pos : String} {af : Array Edge} {gd : Option (Nat × Bool)}
  (hal : al.contains k = false) (hx : Rg.u6 l n T a0 k x (Rg.ji (.pointer (some ⟨b, 0, none⟩)))) (hT : T k = Rg.ji (.pointer (some ⟨b, 0, none⟩))) :
  Rg.Step Tryz.prog Q l n T G og al a0 k { dst := some d, op := .fieldAddr 52 x 0, type := ty, pos := pos, after := af, guard := gd } := by
 intro a w hG hO hN
 exact zq (P := Tryz.prog) (akh (hx a w hO hN)) ⟨_, rfl, hG, Below.refl _ _, by rw [hT]; rfl, fun h => by rw [hal] at h; cases h⟩
theorem akf {ρ : Operand → Value} {w : World} {d : Option Tmp} {x : Operand} {b : Nat} {u0 u1 : Value} {ty : TypeId} {pos : String} {af : Array Edge} {gd : Option (Nat × Bool)} (h : ρ x = .pointer (some ⟨b, 0, none⟩)) (k0 : w.cell? ⟨b, 0, none⟩ = some u0) (k1 : w.cell? ⟨b, 1, none⟩ = some u1) :
  (execOp ρ { dst := d, op := .load 50 x, type := ty, pos := pos, after := af, guard := gd }).run Tryz.prog w = .ok (.value (.agg #[u0, u1])) w := by
 simp only [execOp, h]
 simp [go_sem, k0, k1]
theorem Yu {Q : Exit → Act → World → Prop} {l : List Oper} {n : Nat} {T : Nat → World → Value → Prop} {G : World → Prop} {al : List Nat} {a0 : Act} {k d b : Nat} {x : Operand} {q : Rat} {ty : TypeId} {pos : String} {af : Array Edge} {gd : Option (Nat × Bool)}
  (hal : al.contains k = false) (hx : Rg.u6 l n T a0 k x (Rg.ji (.pointer (some ⟨b, 0, none⟩)))) (hb : ∀ W, G W → uj W b q) (hT : T k = Ar q.num) :
  Rg.Step Tryz.prog Q l n T G og al a0 k { dst := some d, op := .load 50 x, type := ty, pos := pos, after := af, guard := gd } := by
 intro a w hG hO hN
 obtain ⟨A1, c1, l1, m1, A2, c2, l2, m2, hk, hq⟩ := hb w hG
 exact zq (P := Tryz.prog) (akf (hx a w hO hN) (ag hk 0) (ag hk 1)) ⟨_, rfl, hG, Below.refl _ _, by rw [hT]; exact ⟨A1, c1, l1, m1, rfl, hq.num⟩, fun h => by rw [hal] at h; cases h⟩
theorem ag7 {ρ : Operand → Value} {w : World} {d : Option Tmp} {x y : Operand} {u0 u1 u2 u3 : Value} {ty : TypeId} {pos : String} {af : Array Edge} {gd : Option (Nat × Bool)} (h : ρ x = .agg #[u0, u1]) (h' : ρ y = .agg #[u2, u3]) :
  (execOp ρ { dst := d, op := .build 52 #[(0, x), (1, y)], type := ty, pos := pos, after := af, guard := gd }).run Tryz.prog w = .ok (.value (.agg #[u0, u1, u2, u3])) w := by
 simp [execOp, h, h', go_sem]
theorem acu {Q : Exit → Act → World → Prop} {l : List Oper} {n : Nat} {T : Nat → World → Value → Prop} {G : World → Prop} {al : List Nat} {a0 : Act} {k d : Nat} {x y : Operand} {a b : Int} {q : Rat} {ty : TypeId} {pos : String} {af : Array Edge} {gd : Option (Nat × Bool)}
  (hal : al.contains k = false) (hx : Rg.u6 l n T a0 k x (Ar a)) (hy : Rg.u6 l n T a0 k y (Ar b)) (ha : a = q.num) (hb : b = (q.den : Int)) (hT : T k = ek q) :
  Rg.Step Tryz.prog Q l n T G og al a0 k { dst := some d, op := .build 52 #[(0, x), (1, y)], type := ty, pos := pos, after := af, guard := gd } := by
 intro s w hG hO hN
 obtain ⟨A1, c1, l1, m1, e1, h1⟩ := hx s w hO hN
 obtain ⟨A2, c2, l2, m2, e2, h2⟩ := hy s w hO hN
 subst ha; subst hb
 exact zq (P := Tryz.prog) (ag7 e1 e2) ⟨_, rfl, hG, Below.refl _ _, by rw [hT]; exact ⟨A1, c1, l1, m1, A2, c2, l2, m2, rfl, QV.of h1 h2⟩, fun h => by rw [hal] at h; cases h⟩
theorem Ql {w w' : World} {z : Int} {e : Ending} (h : sw w z e w') : qh (Ar z) w e w' := by
 obtain ⟨A, c, l, m, rfl, h1, hb⟩ := h
 exact ⟨_, rfl, hb, _, _, _, _, rfl, h1⟩
theorem Sn {W : World} {b b' : Nat} {q0 q' : Rat} {v0 v1 v2 v3 : Value} (h : uj W b q0) (hne : b' ≠ b) (h' : uj W b' q') : uj (Cf W b v0 v1 v2 v3) b' q' := by
 obtain ⟨B, d, r, p, B', d', r', p', g1, g2⟩ := h'
 have hg := ig W b v0 v1 v2 v3
 exact ⟨B, d, r, p, B', d', r', p', (hg.block b' (lt_of_block g1) (fun e => hne (by first | exact Option.some.inj e | exact (Option.some.inj e).symm))).trans g1, Qo h g2⟩
theorem Own.front {w W : World} {xs ys : List (Nat × Rat)} {p : Nat × Rat} (h : Own w (xs ++ p :: ys) W) : Own w (p :: (xs ++ ys)) W :=
 ⟨h.bel, by
  have := h.nd
  have e : List.Perm ((xs ++ p :: ys).map Prod.fst) ((p :: (xs ++ ys)).map Prod.fst) := List.Perm.map _ List.perm_middle
  exact e.nodup_iff.1 this, fun b q hm => h.box b q (by
  rcases List.mem_cons.1 hm with e | hm
  ·
   subst e; exact List.mem_append_right _ List.mem_cons_self
  ·
   rcases List.mem_append.1 hm with hm | hm
   ·
    exact List.mem_append_left _ hm
   ·
    exact List.mem_append_right _ (List.mem_cons_of_mem _ hm))⟩
theorem Own.ne2 {w W : World} {bs : List (Nat × Rat)} {r s : Nat} {p q : Rat} (h : Own w ((r, p) :: (s, q) :: bs) W) : s ≠ r := fun e => by
 have := h.nd
 rw [List.map_cons, List.map_cons] at this
 exact (List.nodup_cons.1 this).1 (by rw [e]; exact List.mem_cons_self)
def Qk (r s : Nat) (p q : Rat) : World → World → Prop := fun w w' => (∀ x v, ek x w v → ek x w' v) ∧ (uj w r p → uj w' r p) ∧ (uj w s q → uj w' s q)
def Fq (w : World) (bs : List (Nat × Rat)) (r s : Nat) : World → Prop := fun W => ∃ p q, Own w ((r, p) :: (s, q) :: bs) W
theorem aod {r s : Nat} {p q : Rat} (w : World) : Qk r s p q w w := ⟨fun _ _ h => h, fun h => h, fun h => h⟩
theorem Co {r s : Nat} {p q : Rat} (x : Rat) : Rg.Ng (Qk r s p q) (ek x) := fun _ _ v hE h => hE.1 x v h
theorem Iy {r s : Nat} {p q : Rat} : Rg.Ng (Qk r s p q) (fun W _ => uj W r p) := fun _ _ _ hE h => hE.2.1 h
theorem Iw {r s : Nat} {p q : Rat} : Rg.Ng (Qk r s p q) (fun W _ => uj W s q) := fun _ _ _ hE h => hE.2.2 h
theorem Fq.box {w W : World} {bs : List (Nat × Rat)} {r s b : Nat} {x : Rat} (hm : (b, x) ∈ bs) (h : Fq w bs r s W) : uj W b x := by
 obtain ⟨p, q, h⟩ := h
 exact (h.box b x (List.mem_cons_of_mem _ (List.mem_cons_of_mem _ hm))).2
theorem Fq.fin {w W : World} {bs : List (Nat × Rat)} {r s : Nat} {p q : Rat} (h : Fq w bs r s W) (h1 : uj W r p) (h2 : uj W s q) : Own w ((r, p) :: (s, q) :: bs) W := by
 obtain ⟨p', q', h⟩ := h
 refine ⟨h.bel, h.nd, fun b x hm => ?_⟩
 rcases List.mem_cons.1 hm with e | hm
 ·
  cases e; exact ⟨(h.box r p' List.mem_cons_self).1, h1⟩
 ·
  rcases List.mem_cons.1 hm with e | hm
  ·
   cases e; exact ⟨(h.box s q' (List.mem_cons_of_mem _ List.mem_cons_self)).1, h2⟩
  ·
   exact h.box b x (List.mem_cons_of_mem _ (List.mem_cons_of_mem _ hm))
theorem Az {Q : Exit → Act → World → Prop} {l : List Oper} {n : Nat} {T : Nat → World → Value → Prop} {w : World} {bs : List (Nat × Rat)} {r s : Nat} {p q : Rat} {a0 : Act} {k d b : Nat} {x : Operand} {z : Rat} {ty : TypeId} {pos : String} {af : Array Edge} {gd : Option (Nat × Bool)}
  (hx : Rg.u6 l n T a0 k x (Rg.ji (.pointer (some ⟨b, 0, none⟩)))) (hm : (b, z) ∈ bs) (hT : T k = ek z) :
  Rg.Step Tryz.prog Q l n T (Fq w bs r s) (Qk r s p q) [] a0 k { dst := some d, op := .load 52 x, type := ty, pos := pos, after := af, guard := gd } := by
 intro a w hG hO hN
 obtain ⟨A1, c1, l1, m1, A2, c2, l2, m2, hk, hq⟩ := Fq.box hm hG
 exact zq (P := Tryz.prog) (Zw (hx a w hO hN) (ag hk 0) (ag hk 1) (ag hk 2) (ag hk 3)) ⟨_, rfl, hG, aod _, by rw [hT]; exact ⟨A1, c1, l1, m1, A2, c2, l2, m2, rfl, hq⟩, fun h => by simp at h⟩
theorem Uz {ρ : Operand → Value} {w : World} {d : Option Tmp} {x y : Operand} {b : Nat} {A1 A2 : Option Addr} {n1 n2 c1 c2 : Nat} {m1 m2 : Bool} {ty : TypeId} {pos : String} {af : Array Edge} {gd : Option (Nat × Bool)} (h : ρ x = .pointer (some ⟨b, 0, none⟩)) (h' : ρ y = .agg #[.slice A1 n1 c1, .bool m1, .slice A2 n2 c2, .bool m2])
  (k0 : ∃ v, w.cell? ⟨b, 0, none⟩ = some v) (k1 : ∃ v, w.cell? ⟨b, 1, none⟩ = some v) (k2 : ∃ v, w.cell? ⟨b, 2, none⟩ = some v) (k3 : ∃ v, w.cell? ⟨b, 3, none⟩ = some v)
  (f0 : w.frozen? ⟨b, 0, none⟩ = false) (f1 : w.frozen? ⟨b, 1, none⟩ = false) (f2 : w.frozen? ⟨b, 2, none⟩ = false) (f3 : w.frozen? ⟨b, 3, none⟩ = false) :
  (execOp ρ { dst := d, op := .store 52 x y, type := ty, pos := pos, after := af, guard := gd }).run Tryz.prog w = .ok .skip (Cf w b (.slice A1 n1 c1) (.bool m1) (.slice A2 n2 c2) (.bool m2)) := by
 obtain ⟨v0, k0⟩ := k0; obtain ⟨v1, k1⟩ := k1; obtain ⟨v2, k2⟩ := k2; obtain ⟨v3, k3⟩ := k3
 unfold Cf
 simp only [execOp, h, h']
 simp [go_sem, k0, k1, k2, k3, f0, f1, f2, f3]
theorem aa5 {P : Program} {o : Oper} {a : Act} {w w' : World} {K : Act → World → Prop} {Q : Exit → Act → World → Prop} (h : (execOp a.eval o).run P w = .ok .skip w') (hK : K (a.put o.dst undef) w') : o.wp P a w K Q := by
 unfold Oper.wp; rw [h]; exact hK
theorem aaj {W : World} {b : Nat} {q : Rat} (h : uj W b q) : (∃ v, W.cell? ⟨b, 0, none⟩ = some v) ∧ (∃ v, W.cell? ⟨b, 1, none⟩ = some v) ∧ (∃ v, W.cell? ⟨b, 2, none⟩ = some v) ∧ (∃ v, W.cell? ⟨b, 3, none⟩ = some v) ∧
  W.frozen? ⟨b, 0, none⟩ = false ∧ W.frozen? ⟨b, 1, none⟩ = false ∧ W.frozen? ⟨b, 2, none⟩ = false ∧ W.frozen? ⟨b, 3, none⟩ = false := by
 obtain ⟨_, _, _, _, _, _, _, _, h, _⟩ := h
 exact ⟨⟨_, ag h 0⟩, ⟨_, ag h 1⟩, ⟨_, ag h 2⟩, ⟨_, ag h 3⟩, ah h 0, ah h 1, ah h 2, ah h 3⟩
theorem Lm {Q : Exit → Act → World → Prop} {l : List Oper} {n : Nat} {T : Nat → World → Value → Prop} {w : World} {bs : List (Nat × Rat)} {r s : Nat} {p q : Rat} {a0 : Act} {k : Nat} {x y : Operand} {ty : TypeId} {pos : String} {af : Array Edge} {gd : Option (Nat × Bool)}
  (hx : Rg.u6 l n T a0 k x (Rg.ji (.pointer (some ⟨r, 0, none⟩)))) (hy : Rg.u6 l n T a0 k y (ek p)) (hT : T k = fun W _ => uj W r p) :
  Rg.Step Tryz.prog Q l n T (Fq w bs r s) (Qk r s p q) [] a0 k { dst := none, op := .store 52 x y, type := ty, pos := pos, after := af, guard := gd } := by
 intro a W hG hO hN
 obtain ⟨A1, c1, l1, m1, A2, c2, l2, m2, e1, hv⟩ := hy a W hO hN
 obtain ⟨p0, q0, h⟩ := hG
 have hb := (h.box r p0 List.mem_cons_self).2
 obtain ⟨k0, k1, k2, k3, f0, f1, f2, f3⟩ := aaj hb
 have h2 := Own.set (xs := []) (q := p) h hv
 refine aa5 (P := Tryz.prog) (Uz (hx a W hO hN) e1 k0 k1 k2 k3 f0 f1 f2 f3) ⟨undef, rfl, ⟨p, q0, h2⟩, ⟨fun z v hz => ?_, fun _ => (h2.box r p List.mem_cons_self).2, fun h3 => Sn hb h.ne2 h3⟩, by rw [hT]; exact (h2.box r p List.mem_cons_self).2, fun h => by simp at h⟩
 obtain ⟨B1, d1, r1, s1, B2, d2, r2, s2, rfl, hz⟩ := hz
 exact ⟨_, _, _, _, _, _, _, _, rfl, Qo hb hz⟩
theorem Ll {Q : Exit → Act → World → Prop} {l : List Oper} {n : Nat} {T : Nat → World → Value → Prop} {w : World} {bs : List (Nat × Rat)} {r s : Nat} {p q : Rat} {a0 : Act} {k : Nat} {x y : Operand} {ty : TypeId} {pos : String} {af : Array Edge} {gd : Option (Nat × Bool)}
  (hx : Rg.u6 l n T a0 k x (Rg.ji (.pointer (some ⟨s, 0, none⟩)))) (hy : Rg.u6 l n T a0 k y (ek q)) (hT : T k = fun W _ => uj W s q) :
  Rg.Step Tryz.prog Q l n T (Fq w bs r s) (Qk r s p q) [] a0 k { dst := none, op := .store 52 x y, type := ty, pos := pos, after := af, guard := gd } := by
 intro a W hG hO hN
 obtain ⟨A1, c1, l1, m1, A2, c2, l2, m2, e1, hv⟩ := hy a W hO hN
 obtain ⟨p0, q0, h⟩ := hG
 have hb := (h.box s q0 (List.mem_cons_of_mem _ List.mem_cons_self)).2
 obtain ⟨k0, k1, k2, k3, f0, f1, f2, f3⟩ := aaj hb
 have h2 := Own.set (xs := [(r, p0)]) (q := q) h hv
 have h3 := (h2.box s q (List.mem_cons_of_mem _ List.mem_cons_self)).2
 refine aa5 (P := Tryz.prog) (Uz (hx a W hO hN) e1 k0 k1 k2 k3 f0 f1 f2 f3) ⟨undef, rfl, ⟨p0, q, h2⟩, ⟨fun z v hz => ?_, fun h4 => Sn hb (Ne.symm h.ne2) h4, fun _ => h3⟩, by rw [hT]; exact h3, fun h => by simp at h⟩
 obtain ⟨B1, d1, r1, s1, B2, d2, r2, s2, rfl, hz⟩ := hz
 exact ⟨_, _, _, _, _, _, _, _, rfl, Qo hb hz⟩

end Go.Proofs.YtpjgoogeokbaaaaGreatDoor
namespace Go.Proofs.YtpjgoogeokbaaaaGreatDoor
open Go.RowKit

set_option maxHeartbeats 16000000 in
theorem ap4 (x q : Rat) (w : World) (u1 : Value) (h1 : ek x w u1) (ha : (x.den : Int) = q.num) (hb : (1 : Int) = (q.den : Int))
  (hden : ∀ (W : World) (v0 : Value), ek (x) W v0 → Calls Tryz.prog 95 #[v0] W (qh (Ar (x.den)) W))
  (hone : ∀ (W : World) , Calls Tryz.prog 107 #[] W (qh (Ar (1)) W)) :
  Calls Tryz.prog 65 #[u1] w (qh (ek q) w) := by
 obtain ⟨A1, c1, l1, m1, A2, c2, l2, m2, rfl, hq1⟩ := h1
 have ai1 := hide hden
 have Xm := hide hone
 have HHA := hide ha
 have HHB := hide hb
 clear hden hone ha hb
 go_enter Tryz.func65, Tryz.ntmps65
 go_upto_region 1 with fail
 have hO := (Own.Rn (Own.push (Own.nil w) (hq1.below (Below.refl _ _)) (w.heap.size) rfl) (w.heap.size + 1) (by simp only [World.size_alloc]))
 generalize (w.alloc (.cells #[.slice A1 l1.length c1, .bool m1, .slice A2 l2.length c2, .bool m2] 52)).alloc (.cells #[.slice none 0 0, .bool false, .slice none 0 0, .bool false] 52) = W0 at *
 have HO := hide hO
 clear hO
 go_upto_region 1 with fail
 refine Rg.tq 4 7 (Rg.pick [ek (x), Ar (x.den : Int), Ar 1, ek (q)]) (cz w [(w.heap.size + 1, 0), (w.heap.size, x)] W0) og [] kr rfl (Rg.oo.pick ⟨df _, Dz _, Dz _, df _, trivial⟩) (cz.begin (aa HO))
  (Rg.ax (Rg.plain rfl (gy rfl (Rg.ja kr rfl) (fun W h => cz.box (List.Mem.tail _ (List.Mem.head _)) h) rfl))
   (Rg.ax (Rg.plain rfl (kz Tryz.func95 kr rfl cz.step (Rg.dw 0 kr) (fun W v0 hG h0 => aa ai1 W v0 h0)))
   (Rg.ax (Rg.plain rfl (Yw Tryz.func107 kr rfl cz.step  (fun W  hG  => aa Xm W)))
   (Rg.ax (Rg.plain rfl (acu rfl (Rg.dw 1 kr) (Rg.dw 2 kr) (aa HHA) (aa HHB) rfl))
   Rg.jc)))) ?_
 intro v V1 hG1 hv hne
 clear hne
 simp only [Rg.puts, List.take_succ_cons, List.take_zero, List.drop_succ_cons, List.drop_zero, Act.put, List.setIfInBounds_toArray, List.set_cons_zero, List.set_cons_succ]
 obtain ⟨Xr, W9, Vq, Vj, Xq, Wz, Vp, Vi, e3, f3⟩ := (show ek (q) V1 (v 3) from hv 3 (by decide))
 simp only [e3]
 have hO := hG1.1
 obtain ⟨-, _, _, _, _, _, _, _, _, hz, -⟩ := hO.box (w.heap.size + 1) (0) (List.Mem.head _)
 have iw := ag hz 0
 have uh := ah hz 0
 have iq := ag hz 1
 have ug := ah hz 1
 have il := ag hz 2
 have uf := ah hz 2
 have ik := ag hz 3
 have tu := ah hz 3
 have iy := lt_of_block hz
 clear hz
 go_wp2_with fail
 replace hO := Own.set (xs := []) (ys := [(w.heap.size, x)]) hO f3
 unfold Cf at hO
 generalize (((V1.setCell ⟨w.heap.size + 1, 0, none⟩ (.slice Xr Vq.length W9)).setCell ⟨w.heap.size + 1, 1, none⟩ (.bool Vj)).setCell ⟨w.heap.size + 1, 2, none⟩ (.slice Xq Vp.length Wz)).setCell ⟨w.heap.size + 1, 3, none⟩ (.bool Vi) = U1 at *
 try clear iw uh iq ug il uf ik tu hG1
 try clear e3 f3 iy
 try clear hv
 replace HO := hide hO
 clear hO
 obtain ⟨ui, ni, mo, ma, mg, mq, mi, lv, mf, dh, mh⟩ := (aa HO).box _ _ (List.Mem.head _)
 have iw := ag dh 0
 have iq := ag dh 1
 have il := ag dh 2
 have ik := ag dh 3
 have iy := lt_of_block dh
 clear dh ui
 go_wp2_with fail
 exact bodyPost_ret (v := .agg #[.slice ni ma.length mo, .bool mg, .slice mq lv.length mi, .bool mf]) (by simp [results, Tryz.results65, go_sem, iw, iq, il, ik, iy]) rfl
  ⟨_, rfl, (aa HO).bel, ⟨_, _, _, _, _, _, _, _, rfl, mh⟩⟩
set_option maxHeartbeats 16000000 in
theorem aoj (x q : Rat) (w : World) (u1 : Value) (h1 : ek x w u1) (ha : x.num = q.num) (hb : (1 : Int) = (q.den : Int))
  (hone : ∀ (W : World) , Calls Tryz.prog 107 #[] W (qh (Ar (1)) W)) :
  Calls Tryz.prog 115 #[u1] w (qh (ek q) w) := by
 obtain ⟨A1, c1, l1, m1, A2, c2, l2, m2, rfl, hq1⟩ := h1
 have Xm := hide hone
 have HHA := hide ha
 have HHB := hide hb
 clear hone ha hb
 go_enter Tryz.func115, Tryz.ntmps115
 go_upto_region 1 with fail
 have hO := (Own.Rn (Own.push (Own.nil w) (hq1.below (Below.refl _ _)) (w.heap.size) rfl) (w.heap.size + 1) (by simp only [World.size_alloc]))
 generalize (w.alloc (.cells #[.slice A1 l1.length c1, .bool m1, .slice A2 l2.length c2, .bool m2] 52)).alloc (.cells #[.slice none 0 0, .bool false, .slice none 0 0, .bool false] 52) = W0 at *
 have HO := hide hO
 clear hO
 go_upto_region 1 with fail
 refine Rg.region 4 7 (Rg.pick [Rg.ji (.pointer (some ⟨w.heap.size, 0, none⟩)), Ar (x).num, Ar 1, ek (q)]) (cz w [(w.heap.size + 1, 0), (w.heap.size, x)] W0) og [] kr kr rfl (Rg.oo.pick ⟨Rg.fw _, Dz _, Dz _, df _, trivial⟩) (cz.start (aa HO))
  (Rg.ax (Rg.plain rfl (Yv rfl (Rg.ja kr rfl) rfl))
   (Rg.ax (Rg.plain rfl (Yu rfl (Rg.dw 0 kr) (fun W h => cz.box (List.Mem.tail _ (List.Mem.head _)) h) rfl))
   (Rg.ax (Rg.plain rfl (Yw Tryz.func107 kr rfl cz.step  (fun W  hG  => aa Xm W)))
   (Rg.ax (Rg.plain rfl (acu rfl (Rg.dw 1 kr) (Rg.dw 2 kr) (aa HHA) (aa HHB) rfl))
   Rg.jc)))) ?_
 intro v V1 hG1 hv hne
 clear hne
 simp only [Rg.puts, List.take_succ_cons, List.take_zero, List.drop_succ_cons, List.drop_zero, Act.put, List.setIfInBounds_toArray, List.set_cons_zero, List.set_cons_succ]
 obtain ⟨Xr, W9, Vq, Vj, Xq, Wz, Vp, Vi, e3, f3⟩ := (show ek (q) V1 (v 3) from hv 3 (by decide))
 simp only [e3]
 have hO := hG1.1
 obtain ⟨-, _, _, _, _, _, _, _, _, hz, -⟩ := hO.box (w.heap.size + 1) (0) (List.Mem.head _)
 have iw := ag hz 0
 have uh := ah hz 0
 have iq := ag hz 1
 have ug := ah hz 1
 have il := ag hz 2
 have uf := ah hz 2
 have ik := ag hz 3
 have tu := ah hz 3
 have iy := lt_of_block hz
 clear hz
 go_wp2_with fail
 replace hO := Own.set (xs := []) (ys := [(w.heap.size, x)]) hO f3
 unfold Cf at hO
 generalize (((V1.setCell ⟨w.heap.size + 1, 0, none⟩ (.slice Xr Vq.length W9)).setCell ⟨w.heap.size + 1, 1, none⟩ (.bool Vj)).setCell ⟨w.heap.size + 1, 2, none⟩ (.slice Xq Vp.length Wz)).setCell ⟨w.heap.size + 1, 3, none⟩ (.bool Vi) = U1 at *
 try clear iw uh iq ug il uf ik tu hG1
 try clear e3 f3 iy
 try clear hv
 replace HO := hide hO
 clear hO
 obtain ⟨ui, ni, mo, ma, mg, mq, mi, lv, mf, dh, mh⟩ := (aa HO).box _ _ (List.Mem.head _)
 have iw := ag dh 0
 have iq := ag dh 1
 have il := ag dh 2
 have ik := ag dh 3
 have iy := lt_of_block dh
 clear dh ui
 go_wp2_with fail
 exact bodyPost_ret (v := .agg #[.slice ni ma.length mo, .bool mg, .slice mq lv.length mi, .bool mf]) (by simp [results, Tryz.results115, go_sem, iw, iq, il, ik, iy]) rfl
  ⟨_, rfl, (aa HO).bel, ⟨_, _, _, _, _, _, _, _, rfl, mh⟩⟩
set_option maxHeartbeats 16000000 in
theorem ap6 (x y : Rat) (o : Int) (w : World) (u1 u2 : Value) (h1 : ek x w u1) (h2 : ek y w u2)
  (aq1 : ∀ (W : World) (v0 : Value), ek (y) W v0 → Calls Tryz.prog 95 #[v0] W (qh (Ar (y.den)) W))
  (hm1 : ∀ (W : World) (v0 v1 : Value), Ar (x.num) W v0 → Ar (y.den) W v1 → Calls Tryz.prog 98 #[v0, v1] W (qh (Ar (x.num * (y.den : Int))) W))
  (aq0 : ∀ (W : World) (v0 : Value), ek (x) W v0 → Calls Tryz.prog 95 #[v0] W (qh (Ar (x.den)) W))
  (hm2 : ∀ (W : World) (v0 v1 : Value), Ar (y.num) W v0 → Ar (x.den) W v1 → Calls Tryz.prog 98 #[v0, v1] W (qh (Ar (y.num * (x.den : Int))) W))
  (hc : ∀ (W : World) (v0 v1 : Value), Ar (x.num * (y.den : Int)) W v0 → Ar (y.num * (x.den : Int)) W v1 → Calls Tryz.prog 117 #[v0, v1] W (qh (Rg.ji (.int .i64 o)) W)) :
  Calls Tryz.prog 64 #[u1, u2] w (qh (Rg.ji (.int .i64 o)) w) := by
 obtain ⟨A1, c1, l1, m1, A2, c2, l2, m2, rfl, hq1⟩ := h1
 obtain ⟨A3, c3, l3, m3, A4, c4, l4, m4, rfl, hq3⟩ := h2
 have ayf := hide aq1
 have a5j := hide hm1
 have aye := hide aq0
 have a5i := hide hm2
 have HHC := hide hc
 clear aq1 hm1 aq0 hm2 hc
 go_enter Tryz.func64, Tryz.ntmps64
 go_upto_region 1 with fail
 have hO := (Own.push (Own.push (Own.nil w) (hq1.below (Below.refl _ _)) (w.heap.size) rfl) (hq3.below (by repeat (first | exact Below.refl _ _ | refine je ?_ _))) (w.heap.size + 1) (by simp only [World.size_alloc]))
 generalize (w.alloc (.cells #[.slice A1 l1.length c1, .bool m1, .slice A2 l2.length c2, .bool m2] 52)).alloc (.cells #[.slice A3 l3.length c3, .bool m3, .slice A4 l4.length c4, .bool m4] 52) = W0 at *
 have HO := hide hO
 clear hO
 go_upto_region 1 with fail
 refine Rg.region 12 16 (Rg.pick [Rg.ji (.pointer (some ⟨w.heap.size, 0, none⟩)), Ar (x).num, ek (y), Ar (y.den : Int), Ar (x.num * (y.den : Int)), Rg.ji (.pointer (some ⟨w.heap.size + 1, 0, none⟩)), Ar (y).num, ek (x), Ar (x.den : Int), Ar (y.num * (x.den : Int)), Rg.ji (.int .i64 o), Rg.ji (.int .i64 o)]) (cz w [(w.heap.size + 1, y), (w.heap.size, x)] W0) og [] kr kr rfl (Rg.oo.pick ⟨Rg.fw _, Dz _, df _, Dz _, Dz _, Rg.fw _, Dz _, df _, Dz _, Dz _, Rg.fw _, Rg.fw _, trivial⟩) (cz.start (aa HO))
  (Rg.ax (Rg.plain rfl (Yv rfl (Rg.ja kr rfl) rfl))
   (Rg.ax (Rg.plain rfl (Yu rfl (Rg.dw 0 kr) (fun W h => cz.box (List.Mem.tail _ (List.Mem.head _)) h) rfl))
   (Rg.ax (Rg.plain rfl (gy rfl (Rg.ja kr rfl) (fun W h => cz.box (List.Mem.head _) h) rfl))
   (Rg.ax (Rg.plain rfl (kz Tryz.func95 kr rfl cz.step (Rg.dw 2 kr) (fun W v0 hG h0 => aa ayf W v0 h0)))
   (Rg.ax (Rg.plain rfl (jh Tryz.func98 kr rfl cz.step (Rg.dw 1 kr) (Rg.dw 3 kr) (fun W v0 v1 hG h0 h1 => aa a5j W v0 v1 h0 h1)))
   (Rg.ax (Rg.plain rfl (Yv rfl (Rg.ja kr rfl) rfl))
   (Rg.ax (Rg.plain rfl (Yu rfl (Rg.dw 5 kr) (fun W h => cz.box (List.Mem.head _) h) rfl))
   (Rg.ax (Rg.plain rfl (gy rfl (Rg.ja kr rfl) (fun W h => cz.box (List.Mem.tail _ (List.Mem.head _)) h) rfl))
   (Rg.ax (Rg.plain rfl (kz Tryz.func95 kr rfl cz.step (Rg.dw 7 kr) (fun W v0 hG h0 => aa aye W v0 h0)))
   (Rg.ax (Rg.plain rfl (jh Tryz.func98 kr rfl cz.step (Rg.dw 6 kr) (Rg.dw 8 kr) (fun W v0 v1 hG h0 h1 => aa a5i W v0 v1 h0 h1)))
   (Rg.ax (Rg.plain rfl (jh Tryz.func117 kr rfl cz.step (Rg.dw 4 kr) (Rg.dw 9 kr) (fun W v0 v1 hG h0 h1 => aa HHC W v0 v1 h0 h1)))
   (Rg.ax (Rg.plain rfl (xc rfl (Rg.dw 10 kr)))
   Rg.jc)))))))))))) ?_
 intro v V1 hG1 hv hne
 clear hne
 simp only [Rg.puts, List.take_succ_cons, List.take_zero, List.drop_succ_cons, List.drop_zero, Act.put, List.setIfInBounds_toArray, List.set_cons_zero, List.set_cons_succ]
 have e11 : v 11 = .int .i64 o := hv 11 (by decide)
 simp only [e11]
 have hO := hG1.1
 clear hG1
 try clear e11
 try clear hv
 replace HO := hide hO
 clear hO
 have HB := hide (aa HO).bel
 clear HO
 go_wp2_with fail
 all_goals first | go_ret | skip
 exact ⟨_, rfl, aa HB, rfl⟩
theorem Ww (x : Rat) (W : World) (v : Value) (h : ek x W v) : Calls Tryz.prog 95 #[v] W (qh (Ar (x.den : Int)) W) := by
 obtain ⟨A1, c1, l1, m1, A2, c2, l2, m2, rfl, hq⟩ := h
 exact (Cs A1 c1 l1 m1 A2 c2 l2 m2 x W hq).mono (fun e w' => Ql)
theorem aim (W : World) : Calls Tryz.prog 107 #[] W (qh (Ar 1) W) := (Lh W).mono (fun e w' => Ql)
theorem ame {a b : Int} {K : Nat} (ha : Wd.Sz di K a) (hb : Wd.Sz di K b) (hK : 4 * K + 4 ≤ 35184372088832) (W : World) (v0 v1 : Value) (h0 : Ar a W v0) (h1 : Ar b W v1) : Calls Tryz.prog 98 #[v0, v1] W (qh (Ar (a * b)) W) := by
 obtain ⟨A1, c1, l1, m1, rfl, f1⟩ := h0
 obtain ⟨A2, c2, l2, m2, rfl, f2⟩ := h1
 exact (ace A1 c1 l1 m1 a A2 c2 l2 m2 b W f1 f2 (by have := f1.len ha; have := f2.len hb; omega)).mono (fun e w' => Ql)
theorem amf {a b : Int} (W : World) (v0 v1 : Value) (h0 : Ar a W v0) (h1 : Ar b W v1) : Calls Tryz.prog 117 #[v0, v1] W (qh (Rg.ji (.int .i64 (gm (a - b)))) W) := by
 obtain ⟨A1, c1, l1, m1, rfl, f1⟩ := h0
 obtain ⟨A2, c2, l2, m2, rfl, f2⟩ := h1
 exact (acg A1 c1 l1 m1 a A2 c2 l2 m2 b W f1 f2).mono (fun e w' h => ⟨_, h.1, h.2, rfl⟩)
theorem a0b (x : Rat) (W : World) (v : Value) (h : ek x W v) : Calls Tryz.prog 65 #[v] W (qh (ek (Rat.divInt (x.den : Int) 1)) W) :=
 ap4 x _ W v h (Wd.xh _).1.symm (Wd.xh _).2.symm (fun W v h => Ww x W v h) aim
theorem a0a (x : Rat) (W : World) (v : Value) (h : ek x W v) : Calls Tryz.prog 115 #[v] W (qh (ek (Rat.divInt x.num 1)) W) :=
 aoj x _ W v h (Wd.xh _).1.symm (Wd.xh _).2.symm aim
theorem ain {x y : Rat} {K : Nat} (sx : Wd.wz di K x) (sy : Wd.wz di K y) (hK : 4 * K + 4 ≤ 35184372088832) (W : World) (v0 v1 : Value) (h0 : ek x W v0) (h1 : ek y W v1) : Calls Tryz.prog 64 #[v0, v1] W (qh (Rg.ji (.int .i64 (gm (x.num * (y.den : Int) - y.num * (x.den : Int))))) W) :=
 ap6 x y _ W v0 v1 h0 h1 (fun W v h => Ww y W v h) (fun W v0 v1 h0 h1 => ame sx.1 sy.2 hK W v0 v1 h0 h1) (fun W v h => Ww x W v h) (fun W v0 v1 h0 h1 => ame sy.1 sx.2 hK W v0 v1 h0 h1) (fun W v0 v1 h0 h1 => amf W v0 v1 h0 h1)
theorem Gs (n : Int) (b1 : -9223372036854775808 ≤ n) (b2 : n ≤ 9223372036854775807) (W : World) : Calls Tryz.prog 72 #[.int .i64 n] W (qh (ek (Rat.divInt n 1)) W) :=
 (Tc n _ W b1 b2 (Wd.xh n).1.symm (Wd.xh n).2.symm).mono (fun e w' => J8)
theorem aef (n d : Int) (b1 : -9223372036854775808 ≤ n) (b2 : n ≤ 9223372036854775807) (b3 : -9223372036854775808 ≤ d) (b4 : d ≤ 9223372036854775807) (hd : d ≠ 0) (W : World) : Calls Tryz.prog 110 #[.int .i64 n, .int .i64 d] W (qh (ek (Rat.divInt n d)) W) :=
 (ajx n d W b1 b2 b3 b4 hd).mono (fun e w' => J8)
theorem a0c {x y : Rat} {K : Nat} (sx : Wd.wz di K x) (sy : Wd.wz di K y) (hK : 4 * K + 4 ≤ 35184372088832)  (W : World) (v0 v1 : Value) (h0 : ek x W v0) (h1 : ek y W v1) : Calls Tryz.prog 43 #[v0, v1] W (qh (ek (x + y)) W) := by
 obtain ⟨A1, c1, l1, m1, A2, c2, l2, m2, rfl, f1⟩ := h0
 obtain ⟨A3, c3, l3, m3, A4, c4, l4, m4, rfl, f2⟩ := h1
 exact (Zr K A1 c1 l1 m1 A2 c2 l2 m2 A3 c3 l3 m3 A4 c4 l4 m4 x y W f1 f2 sx sy hK).mono (fun e w' => J8)
theorem aa0 {x y : Rat} {K : Nat} (sx : Wd.wz di K x) (sy : Wd.wz di K y) (hK : 4 * K + 4 ≤ 35184372088832)  (W : World) (v0 v1 : Value) (h0 : ek x W v0) (h1 : ek y W v1) : Calls Tryz.prog 44 #[v0, v1] W (qh (ek (x - y)) W) := by
 obtain ⟨A1, c1, l1, m1, A2, c2, l2, m2, rfl, f1⟩ := h0
 obtain ⟨A3, c3, l3, m3, A4, c4, l4, m4, rfl, f2⟩ := h1
 exact (ajr K A1 c1 l1 m1 A2 c2 l2 m2 A3 c3 l3 m3 A4 c4 l4 m4 x y W f1 f2 sx sy hK).mono (fun e w' => J8)
theorem aa1 {x y : Rat} {K : Nat} (sx : Wd.wz di K x) (sy : Wd.wz di K y) (hK : 4 * K + 4 ≤ 35184372088832)  (W : World) (v0 v1 : Value) (h0 : ek x W v0) (h1 : ek y W v1) : Calls Tryz.prog 45 #[v0, v1] W (qh (ek (x * y)) W) := by
 obtain ⟨A1, c1, l1, m1, A2, c2, l2, m2, rfl, f1⟩ := h0
 obtain ⟨A3, c3, l3, m3, A4, c4, l4, m4, rfl, f2⟩ := h1
 exact (Zp K A1 c1 l1 m1 A2 c2 l2 m2 A3 c3 l3 m3 A4 c4 l4 m4 x y W f1 f2 sx sy hK).mono (fun e w' => J8)
theorem aq8 {x y : Rat} {K : Nat} (sx : Wd.wz di K x) (sy : Wd.wz di K y) (hK : 4 * K + 4 ≤ 35184372088832) (h0q : y.num ≠ 0) (W : World) (v0 v1 : Value) (h0 : ek x W v0) (h1 : ek y W v1) : Calls Tryz.prog 47 #[v0, v1] W (qh (ek (x / y)) W) := by
 obtain ⟨A1, c1, l1, m1, A2, c2, l2, m2, rfl, f1⟩ := h0
 obtain ⟨A3, c3, l3, m3, A4, c4, l4, m4, rfl, f2⟩ := h1
 exact (Zq K A1 c1 l1 m1 A2 c2 l2 m2 A3 c3 l3 m3 A4 c4 l4 m4 x y W f1 f2 sx sy hK h0q).mono (fun e w' => J8)
theorem auz {x : Rat} {K : Nat} (sx : Wd.wz di K x) (hK : 4 * K + 4 ≤ 35184372088832) (W : World) (v0 : Value) (h0 : ek x W v0) : Calls Tryz.prog 56 #[v0] W (qh (ek (Rat.divInt (x.num / (x.den : Int)) 1)) W) := by
 obtain ⟨A1, c1, l1, m1, A2, c2, l2, m2, rfl, f1⟩ := h0
 exact (R6 K A1 c1 l1 m1 A2 c2 l2 m2 x W f1 sx hK).mono (fun e w' => J8)
theorem axs {x : Rat} (W : World) (v0 : Value) (h0 : ek x W v0) : Calls Tryz.prog 116 #[v0] W (qh (Rg.ji (.int .i64 (gm x.num))) W) := by
 obtain ⟨A1, c1, l1, m1, A2, c2, l2, m2, rfl, f1⟩ := h0
 exact (ag1 A1 c1 l1 m1 A2 c2 l2 m2 x W f1).mono (fun e w' h => ⟨_, h.1, h.2, rfl⟩)
end Go.Proofs.YtpjgoogeokbaaaaGreatDoor
namespace Go.Proofs.YtpjgoogeokbaaaaGreatDoor
open Go.RowKit

set_option maxHeartbeats 16000000 in
theorem aij (l s d e M y1 y2 r y3 k res : Rat) (m o : Int) (hres : (o < 0 → res = r) ∧ (¬ o < 0 → res = k)) (w : World) (u1 u2 u3 u4 : Value) (h1 : ek l w u1) (h2 : ek s w u2) (h3 : ek d w u3) (h4 : ek e w u4)
  (hint : ∀ (W : World) , Calls Tryz.prog 72 #[.int .i64 m] W (qh (ek (M)) W))
  (hsub : ∀ (W : World) (v0 v1 : Value), ek (M) W v0 → ek (d) W v1 → Calls Tryz.prog 44 #[v0, v1] W (qh (ek (y1)) W))
  (hdv : ∀ (W : World) (v0 v1 : Value), ek (y1) W v0 → ek (e) W v1 → Calls Tryz.prog 47 #[v0, v1] W (qh (ek (y2)) W))
  (hfl : ∀ (W : World) (v0 : Value), ek (y2) W v0 → Calls Tryz.prog 56 #[v0] W (qh (ek (r)) W))
  (aw5 : ∀ (W : World) (v0 v1 : Value), ek (l) W v0 → ek (s) W v1 → Calls Tryz.prog 47 #[v0, v1] W (qh (ek (y3)) W))
  (aw0 : ∀ (W : World) (v0 : Value), ek (y3) W v0 → Calls Tryz.prog 56 #[v0] W (qh (ek (k)) W))
  (hcm : ∀ (W : World) (v0 v1 : Value), ek (r) W v0 → ek (k) W v1 → Calls Tryz.prog 64 #[v0, v1] W (qh (Rg.ji (.int .i64 o)) W)) :
  Calls Tryz.prog 114 #[u1, u2, u3, u4, .int .i64 m] w (qh (ek res) w) := by
 obtain ⟨A1, c1, l1, m1, A2, c2, l2, m2, rfl, hq1⟩ := h1
 obtain ⟨A3, c3, l3, m3, A4, c4, l4, m4, rfl, hq3⟩ := h2
 obtain ⟨A5, c5, l5, m5, A6, c6, l6, m6, rfl, hq5⟩ := h3
 obtain ⟨A7, c7, l7, m7, A8, c8, l8, m8, rfl, hq7⟩ := h4
 have Zj := hide hres
 clear hres
 have a0y := hide hint
 have a0x := hide hsub
 have a5l := hide hdv
 have a5k := hide hfl
 have a00 := hide aw5
 have a0z := hide aw0
 have ayg := hide hcm
 clear hint hsub hdv hfl aw5 aw0 hcm
 go_enter Tryz.func114, Tryz.ntmps114
 go_upto_region 1 with fail
 have hO := (Own.Rn (Own.push (Own.push (Own.push (Own.push (Own.nil w) (hq1.below (Below.refl _ _)) (w.heap.size) rfl) (hq3.below (by repeat (first | exact Below.refl _ _ | refine je ?_ _))) (w.heap.size + 1) (by simp only [World.size_alloc])) (hq5.below (by repeat (first | exact Below.refl _ _ | refine je ?_ _))) (w.heap.size + 2) (by simp only [World.size_alloc])) (hq7.below (by repeat (first | exact Below.refl _ _ | refine je ?_ _))) (w.heap.size + 3) (by simp only [World.size_alloc])) (w.heap.size + 4) (by simp only [World.size_alloc]))
 generalize ((((w.alloc (.cells #[.slice A1 l1.length c1, .bool m1, .slice A2 l2.length c2, .bool m2] 52)).alloc (.cells #[.slice A3 l3.length c3, .bool m3, .slice A4 l4.length c4, .bool m4] 52)).alloc (.cells #[.slice A5 l5.length c5, .bool m5, .slice A6 l6.length c6, .bool m6] 52)).alloc (.cells #[.slice A7 l7.length c7, .bool m7, .slice A8 l8.length c8, .bool m8] 52)).alloc (.cells #[.slice none 0 0, .bool false, .slice none 0 0, .bool false] 52) = W0 at *
 have HO := hide hO
 clear hO
 go_upto_region 1 with fail
 refine Rg.region 8 30 (Rg.pick [Rg.ji (.int .i64 m), ek (M), ek (d), ek (y1), ek (e), ek (y2), ek (r), Cv W0.heap.size]) (cz w [(w.heap.size + 4, 0), (w.heap.size + 3, e), (w.heap.size + 2, d), (w.heap.size + 1, s), (w.heap.size, l)] W0) og [7] kr kr rfl (Rg.oo.pick ⟨Rg.fw _, df _, df _, df _, df _, df _, df _, Ct _, trivial⟩) (cz.start (aa HO))
  (Rg.ax (Rg.plain rfl (u7 rfl (Rg.ja kr rfl)))
   (Rg.ax (Rg.plain rfl (kz Tryz.func72 kr rfl cz.step (Rg.dw 0 kr) (fun W v0 hG h0 => by cases h0; exact aa a0y W)))
   (Rg.ax (Rg.plain rfl (gy rfl (Rg.ja kr rfl) (fun W h => cz.box (List.Mem.tail _ (List.Mem.tail _ (List.Mem.head _))) h) rfl))
   (Rg.ax (Rg.plain rfl (jh Tryz.func44 kr rfl cz.step (Rg.dw 1 kr) (Rg.dw 2 kr) (fun W v0 v1 hG h0 h1 => aa a0x W v0 v1 h0 h1)))
   (Rg.ax (Rg.plain rfl (gy rfl (Rg.ja kr rfl) (fun W h => cz.box (List.Mem.tail _ (List.Mem.head _)) h) rfl))
   (Rg.ax (Rg.plain rfl (jh Tryz.func47 kr rfl cz.step (Rg.dw 3 kr) (Rg.dw 4 kr) (fun W v0 v1 hG h0 h1 => aa a5l W v0 v1 h0 h1)))
   (Rg.ax (Rg.plain rfl (kz Tryz.func56 kr rfl cz.step (Rg.dw 5 kr) (fun W v0 hG h0 => aa a5k W v0 h0)))
   (Rg.ax (Rg.plain rfl (F7 cz.step cz.size rfl (En (by intro j hj; simp at hj; (repeat' (first | (rcases hj with rfl | hj))) <;> first | (subst hj; rfl) | rfl))))
   Rg.jc)))))))) ?_
 intro v V1 hG1 hv hne
 clear hne
 simp only [Rg.puts, List.take_succ_cons, List.take_zero, List.drop_succ_cons, List.drop_zero, Act.put, List.setIfInBounds_toArray, List.set_cons_zero, List.set_cons_succ]
 obtain ⟨a1g, a0s, azz, azh, a1f, a0r, azy, azg, e6, f6⟩ := (show ek (r) V1 (v 6) from hv 6 (by decide))
 obtain ⟨pg, e7, P8, Z9⟩ := (show Cv W0.heap.size V1 (v 7) from hv 7 (by decide))
 simp only [e6, e7]
 have hO := hG1.1
 replace hO := Own.add (aa HO) hG1.2 P8 Z9
 obtain ⟨-, _, _, _, _, _, _, _, _, hz, -⟩ := hO.box (pg) (0) (List.Mem.head _)
 have Ns := ag hz 0
 have N9 := ah hz 0
 have Nq := ag hz 1
 have N7 := ah hz 1
 have Nn := ag hz 2
 have Ny := ah hz 2
 have Nk := ag hz 3
 have Nv := ah hz 3
 have Oj := lt_of_block hz
 clear hz
 go_upto_region 2 with fail
 replace hO := Own.set (xs := []) (ys := [(w.heap.size + 4, 0), (w.heap.size + 3, e), (w.heap.size + 2, d), (w.heap.size + 1, s), (w.heap.size, l)]) hO f6
 unfold Cf at hO
 generalize (((V1.setCell ⟨pg, 0, none⟩ (.slice a1g azz.length a0s)).setCell ⟨pg, 1, none⟩ (.bool azh)).setCell ⟨pg, 2, none⟩ (.slice a1f azy.length a0r)).setCell ⟨pg, 3, none⟩ (.bool azg) = U1 at *
 try clear Ns N9 Nq N7 Nn Ny Nk Nv hG1
 try clear e6 e7 f6 P8 Z9 Oj
 try clear hv
 replace HO := hide hO
 clear hO
 go_upto_region 2 with fail
 refine Rg.tq 5 30 (Rg.pick [ek (l), ek (s), ek (y3), ek (k), Cv U1.heap.size]) (cz w [(pg, r), (w.heap.size + 4, 0), (w.heap.size + 3, e), (w.heap.size + 2, d), (w.heap.size + 1, s), (w.heap.size, l)] U1) og [4] kr rfl (Rg.oo.pick ⟨df _, df _, df _, df _, Ct _, trivial⟩) (cz.begin (aa HO))
  (Rg.ax (Rg.plain rfl (gy rfl (Rg.ja kr rfl) (fun W h => cz.box (List.Mem.tail _ (List.Mem.tail _ (List.Mem.tail _ (List.Mem.tail _ (List.Mem.tail _ (List.Mem.head _)))))) h) rfl))
   (Rg.ax (Rg.plain rfl (gy rfl (Rg.ja kr rfl) (fun W h => cz.box (List.Mem.tail _ (List.Mem.tail _ (List.Mem.tail _ (List.Mem.tail _ (List.Mem.head _))))) h) rfl))
   (Rg.ax (Rg.plain rfl (jh Tryz.func47 kr rfl cz.step (Rg.dw 0 kr) (Rg.dw 1 kr) (fun W v0 v1 hG h0 h1 => aa a00 W v0 v1 h0 h1)))
   (Rg.ax (Rg.plain rfl (kz Tryz.func56 kr rfl cz.step (Rg.dw 2 kr) (fun W v0 hG h0 => aa a0z W v0 h0)))
   (Rg.ax (Rg.plain rfl (F7 cz.step cz.size rfl (En (by intro j hj; simp at hj; (repeat' (first | (rcases hj with rfl | hj))) <;> first | (subst hj; rfl) | rfl))))
   Rg.jc))))) ?_
 intro v V2 hG2 hv hne
 clear hne
 simp only [Rg.puts, List.take_succ_cons, List.take_zero, List.drop_succ_cons, List.drop_zero, Act.put, List.setIfInBounds_toArray, List.set_cons_zero, List.set_cons_succ]
 obtain ⟨a1c, a0o, azv, azd, a1b, a0n, azu, azc, e3, f3⟩ := (show ek (k) V2 (v 3) from hv 3 (by decide))
 obtain ⟨Mj, e4, hge4, hz4⟩ := (show Cv U1.heap.size V2 (v 4) from hv 4 (by decide))
 simp only [e3, e4]
 have hO := hG2.1
 replace hO := Own.add (aa HO) hG2.2 hge4 hz4
 obtain ⟨-, _, _, _, _, _, _, _, _, hz, -⟩ := hO.box (Mj) (0) (List.Mem.head _)
 have asn := ag hz 0
 have as9 := ah hz 0
 have asg := ag hz 1
 have as4 := ah hz 1
 have asa := ag hz 2
 have asz := ah hz 2
 have ar5 := ag hz 3
 have asu := ah hz 3
 have auo := lt_of_block hz
 clear hz
 go_upto_region 3 with fail
 replace hO := Own.set (xs := []) (ys := [(pg, r), (w.heap.size + 4, 0), (w.heap.size + 3, e), (w.heap.size + 2, d), (w.heap.size + 1, s), (w.heap.size, l)]) hO f3
 unfold Cf at hO
 generalize (((V2.setCell ⟨Mj, 0, none⟩ (.slice a1c azv.length a0o)).setCell ⟨Mj, 1, none⟩ (.bool azd)).setCell ⟨Mj, 2, none⟩ (.slice a1b azu.length a0n)).setCell ⟨Mj, 3, none⟩ (.bool azc) = U2 at *
 try clear asn as9 asg as4 asa asz ar5 asu hG2
 try clear e3 e4 f3 hge4 hz4 auo
 try clear hv
 replace HO := hide hO
 clear hO
 by_cases hlt : o < 0
 ·
  obtain rfl : r = res := ((aa Zj).1 hlt).symm
  clear Zj
  have d1 : decide (o < 0) = true := decide_eq_true hlt
  clear hlt
  go_upto_region 3 with fail
  refine Rg.tq 4 30 (Rg.pick [ek (r), ek (k), Rg.ji (.int .i64 o), Rg.ji (.bool (true))]) (cz w [(Mj, k), (pg, r), (w.heap.size + 4, 0), (w.heap.size + 3, e), (w.heap.size + 2, d), (w.heap.size + 1, s), (w.heap.size, l)] U2) og [] kr rfl (Rg.oo.pick ⟨df _, df _, Rg.fw _, Rg.fw _, trivial⟩) (cz.begin (aa HO))
   (Rg.ax (Rg.plain rfl (gy rfl (Rg.ja kr rfl) (fun W h => cz.box (List.Mem.tail _ (List.Mem.head _)) h) rfl))
    (Rg.ax (Rg.plain rfl (gy rfl (Rg.ja kr rfl) (fun W h => cz.box (List.Mem.head _) h) rfl))
    (Rg.ax (Rg.plain rfl (jh Tryz.func64 kr rfl cz.step (Rg.dw 0 kr) (Rg.dw 1 kr) (fun W v0 v1 hG h0 h1 => aa ayg W v0 v1 h0 h1)))
    (Rg.ax (Rg.plain rfl (Pg rfl (Rg.dw 2 kr) (Rg.yf _) rfl d1))
    Rg.jc)))) ?_
  intro v V3 hG3 hv hne
  clear hne
  simp only [Rg.puts, List.take_succ_cons, List.take_zero, List.drop_succ_cons, List.drop_zero, Act.put, List.setIfInBounds_toArray, List.set_cons_zero, List.set_cons_succ]
  have e3 : v 3 = .bool (true) := hv 3 (by decide)
  simp only [e3]
  have hO := hG3.1
  clear hG3
  try clear e3
  try clear hv
  replace HO := hide hO
  clear hO
  clear d1
  go_upto_region 4 with fail
  refine Rg.tq 1 30 (Rg.pick [ek (r)]) (cz w [(Mj, k), (pg, r), (w.heap.size + 4, 0), (w.heap.size + 3, e), (w.heap.size + 2, d), (w.heap.size + 1, s), (w.heap.size, l)] V3) og [] kr rfl (Rg.oo.pick ⟨df _, trivial⟩) (cz.begin (aa HO))
   (Rg.ax (Rg.plain rfl (gy rfl (Rg.ja kr rfl) (fun W h => cz.box (List.Mem.tail _ (List.Mem.head _)) h) rfl))
    Rg.jc) ?_
  intro v V4 hG4 hv hne
  clear hne
  simp only [Rg.puts, List.take_succ_cons, List.take_zero, List.drop_succ_cons, List.drop_zero, Act.put, List.setIfInBounds_toArray, List.set_cons_zero, List.set_cons_succ]
  obtain ⟨ai6, aip, ahr, ahm, ai5, aio, ahq, ahl, e0, f0⟩ := (show ek (r) V4 (v 0) from hv 0 (by decide))
  simp only [e0]
  have hO := hG4.1
  obtain ⟨-, _, _, _, _, _, _, _, _, hz, -⟩ := hO.box (w.heap.size + 4) (0) (List.Mem.tail _ (List.Mem.tail _ (List.Mem.head _)))
  have zo := ag hz 0
  have F6 := ah hz 0
  have zn := ag hz 1
  have Fz := ah hz 1
  have zm := ag hz 2
  have Fy := ah hz 2
  have zh := ag hz 3
  have Fx := ah hz 3
  have zu := lt_of_block hz
  clear hz
  go_wp2_with fail
  replace hO := Own.set (xs := [(Mj, k), (pg, r)]) (ys := [(w.heap.size + 3, e), (w.heap.size + 2, d), (w.heap.size + 1, s), (w.heap.size, l)]) hO f0
  unfold Cf at hO
  generalize (((V4.setCell ⟨w.heap.size + 4, 0, none⟩ (.slice ai6 ahr.length aip)).setCell ⟨w.heap.size + 4, 1, none⟩ (.bool ahm)).setCell ⟨w.heap.size + 4, 2, none⟩ (.slice ai5 ahq.length aio)).setCell ⟨w.heap.size + 4, 3, none⟩ (.bool ahl) = U4 at *
  try clear zo F6 zn Fz zm Fy zh Fx hG4
  try clear e0 f0 zu
  try clear hv
  replace HO := hide hO
  clear hO
  obtain ⟨Gc, Hl, Hf, Gz, G9, Hg, He, Gy, G6, qm, Hd⟩ := (aa HO).box _ _ (List.Mem.tail _ (List.Mem.tail _ (List.Mem.head _)))
  have zo := ag qm 0
  have zn := ag qm 1
  have zm := ag qm 2
  have zh := ag qm 3
  have zu := lt_of_block qm
  clear qm Gc
  go_wp2_with fail
  exact bodyPost_ret (v := .agg #[.slice Hl Gz.length Hf, .bool G9, .slice Hg Gy.length He, .bool G6]) (by simp [results, Tryz.results114, go_sem, zo, zn, zm, zh, zu]) rfl
   ⟨_, rfl, (aa HO).bel, ⟨_, _, _, _, _, _, _, _, rfl, Hd⟩⟩
 ·
  obtain rfl : k = res := ((aa Zj).2 hlt).symm
  clear Zj
  have d1 : decide (o < 0) = false := decide_eq_false hlt
  clear hlt
  go_upto_region 3 with fail
  refine Rg.tq 4 30 (Rg.pick [ek (r), ek (k), Rg.ji (.int .i64 o), Rg.ji (.bool (false))]) (cz w [(Mj, k), (pg, r), (w.heap.size + 4, 0), (w.heap.size + 3, e), (w.heap.size + 2, d), (w.heap.size + 1, s), (w.heap.size, l)] U2) og [] kr rfl (Rg.oo.pick ⟨df _, df _, Rg.fw _, Rg.fw _, trivial⟩) (cz.begin (aa HO))
   (Rg.ax (Rg.plain rfl (gy rfl (Rg.ja kr rfl) (fun W h => cz.box (List.Mem.tail _ (List.Mem.head _)) h) rfl))
    (Rg.ax (Rg.plain rfl (gy rfl (Rg.ja kr rfl) (fun W h => cz.box (List.Mem.head _) h) rfl))
    (Rg.ax (Rg.plain rfl (jh Tryz.func64 kr rfl cz.step (Rg.dw 0 kr) (Rg.dw 1 kr) (fun W v0 v1 hG h0 h1 => aa ayg W v0 v1 h0 h1)))
    (Rg.ax (Rg.plain rfl (Pg rfl (Rg.dw 2 kr) (Rg.yf _) rfl d1))
    Rg.jc)))) ?_
  intro v V3 hG3 hv hne
  clear hne
  simp only [Rg.puts, List.take_succ_cons, List.take_zero, List.drop_succ_cons, List.drop_zero, Act.put, List.setIfInBounds_toArray, List.set_cons_zero, List.set_cons_succ]
  have e3 : v 3 = .bool (false) := hv 3 (by decide)
  simp only [e3]
  have hO := hG3.1
  clear hG3
  try clear e3
  try clear hv
  replace HO := hide hO
  clear hO
  clear d1
  go_upto_region 5 with fail
  refine Rg.tq 1 30 (Rg.pick [ek (k)]) (cz w [(Mj, k), (pg, r), (w.heap.size + 4, 0), (w.heap.size + 3, e), (w.heap.size + 2, d), (w.heap.size + 1, s), (w.heap.size, l)] V3) og [] kr rfl (Rg.oo.pick ⟨df _, trivial⟩) (cz.begin (aa HO))
   (Rg.ax (Rg.plain rfl (gy rfl (Rg.ja kr rfl) (fun W h => cz.box (List.Mem.head _) h) rfl))
    Rg.jc) ?_
  intro v V4 hG4 hv hne
  clear hne
  simp only [Rg.puts, List.take_succ_cons, List.take_zero, List.drop_succ_cons, List.drop_zero, Act.put, List.setIfInBounds_toArray, List.set_cons_zero, List.set_cons_succ]
  obtain ⟨ai6, aip, ahr, ahm, ai5, aio, ahq, ahl, e0, f0⟩ := (show ek (k) V4 (v 0) from hv 0 (by decide))
  simp only [e0]
  have hO := hG4.1
  obtain ⟨-, _, _, _, _, _, _, _, _, hz, -⟩ := hO.box (w.heap.size + 4) (0) (List.Mem.tail _ (List.Mem.tail _ (List.Mem.head _)))
  have zo := ag hz 0
  have F6 := ah hz 0
  have zn := ag hz 1
  have Fz := ah hz 1
  have zm := ag hz 2
  have Fy := ah hz 2
  have zh := ag hz 3
  have Fx := ah hz 3
  have zu := lt_of_block hz
  clear hz
  go_wp2_with fail
  replace hO := Own.set (xs := [(Mj, k), (pg, r)]) (ys := [(w.heap.size + 3, e), (w.heap.size + 2, d), (w.heap.size + 1, s), (w.heap.size, l)]) hO f0
  unfold Cf at hO
  generalize (((V4.setCell ⟨w.heap.size + 4, 0, none⟩ (.slice ai6 ahr.length aip)).setCell ⟨w.heap.size + 4, 1, none⟩ (.bool ahm)).setCell ⟨w.heap.size + 4, 2, none⟩ (.slice ai5 ahq.length aio)).setCell ⟨w.heap.size + 4, 3, none⟩ (.bool ahl) = U4 at *
  try clear zo F6 zn Fz zm Fy zh Fx hG4
  try clear e0 f0 zu
  try clear hv
  replace HO := hide hO
  clear hO
  obtain ⟨Gc, Hl, Hf, Gz, G9, Hg, He, Gy, G6, qm, Hd⟩ := (aa HO).box _ _ (List.Mem.tail _ (List.Mem.tail _ (List.Mem.head _)))
  have zo := ag qm 0
  have zn := ag qm 1
  have zm := ag qm 2
  have zh := ag qm 3
  have zu := lt_of_block qm
  clear qm Gc
  go_wp2_with fail
  exact bodyPost_ret (v := .agg #[.slice Hl Gz.length Hf, .bool G9, .slice Hg Gy.length He, .bool G6]) (by simp [results, Tryz.results114, go_sem, zo, zn, zm, zh, zu]) rfl
   ⟨_, rfl, (aa HO).bel, ⟨_, _, _, _, _, _, _, _, rfl, Hd⟩⟩

end Go.Proofs.YtpjgoogeokbaaaaGreatDoor
namespace Go.Proofs.YtpjgoogeokbaaaaGreatDoor
open Go.RowKit

def Bd (z : Int) : Prop := -10000000000000000000000000000000000000 ≤ z ∧ z ≤ 10000000000000000000000000000000000000
theorem Bd.sz {z : Int} (h : Bd z) : Wd.Sz di 4 z := by
 have e : (10000000000000000000000000000000000000 : Nat) < di ^ 4 := by decide
 unfold Bd at h
 unfold Wd.Sz; omega
theorem Bd.Li {p q : Int} (hp : Bd p) (hq : Bd q) (h0 : q ≠ 0) : Wd.wz di 4 (Rat.divInt p q) := by
 obtain ⟨h1, h2⟩ := Wd.Gd p q h0
 exact ⟨by rw [h1]; exact hp.sz.tdiv _, by rw [h2]; exact hq.sz.tdiv _⟩
theorem Xc : Bd 1 := by unfold Bd; omega
theorem Bd.Lj {p : Int} (hp : Bd p) : Wd.wz di 4 (Rat.divInt p 1) := hp.Li Xc om
theorem Aw {a b : Int} (hb : 0 < b) (hg : a.natAbs.gcd b.natAbs = 1) (W : World) (v : Value) (h : ek (Rat.divInt a b) W v) : Calls Tryz.prog 65 #[v] W (qh (ek (Rat.divInt (b) 1)) W) := by
 have h := a0b _ W v h
 rwa [(Wd.Gr hb hg).2] at h
theorem Mx {a b : Int} (hb : 0 < b) (hg : a.natAbs.gcd b.natAbs = 1) (W : World) (v : Value) (h : ek (Rat.divInt a b) W v) : Calls Tryz.prog 115 #[v] W (qh (ek (Rat.divInt (a) 1)) W) := by
 have h := a0a _ W v h
 rwa [(Wd.Gr hb hg).1] at h
theorem Oo {p q : Int} (hp : Bd p) (hq : Bd q) (h0 : 0 < q) (W : World) (v : Value) (h : ek (Rat.divInt p q) W v) : Calls Tryz.prog 56 #[v] W (qh (ek (Rat.divInt (p / q) 1)) W) := by
 have h := auz (K := 4) (hp.Li hq om) om W v h
 rwa [Wd.aea h0] at h
theorem alj {p : Int} (W : World) (v : Value) (h : ek (Rat.divInt (p) 1) W v) : Calls Tryz.prog 116 #[v] W (qh (Rg.ji (.int .i64 (gm p))) W) := by
 have h := axs W v h
 rwa [(Wd.xh p).1] at h
theorem Lv {p q : Int} (hp : Bd p) (hq : Bd q) (W : World) (v0 v1 : Value) (h0 : ek (Rat.divInt (p) 1) W v0) (h1 : ek (Rat.divInt (q) 1) W v1) : Calls Tryz.prog 64 #[v0, v1] W (qh (Rg.ji (.int .i64 (gm (p - q)))) W) := by
 have h := ain (K := 4) hp.Lj hq.Lj om W v0 v1 h0 h1
 rwa [(Wd.xh p).1, (Wd.xh p).2, (Wd.xh q).1, (Wd.xh q).2, Int.mul_one, Int.mul_one] at h
theorem Oq {a b n d : Int} (ha : Bd a) (hb : Bd b) (hn : Bd n) (hd : Bd d) (hb0 : 0 < b) (hd0 : 0 < d) (g1 : a.natAbs.gcd b.natAbs = 1) (g2 : n.natAbs.gcd d.natAbs = 1) (W : World) (v0 v1 : Value) (h0 : ek (Rat.divInt a b) W v0) (h1 : ek (Rat.divInt n d) W v1) : Calls Tryz.prog 64 #[v0, v1] W (qh (Rg.ji (.int .i64 (gm (a * d - n * b)))) W) := by
 have h := ain (K := 4) (ha.Li hb om) (hn.Li hd om) om W v0 v1 h0 h1
 rwa [(Wd.Gr hb0 g1).1, (Wd.Gr hb0 g1).2, (Wd.Gr hd0 g2).1, (Wd.Gr hd0 g2).2] at h
theorem F8 {p q : Int} (hp : Bd p) (hq : Bd q) (W : World) (v0 v1 : Value) (h0 : ek ((Rat.divInt (p) 1)) W v0) (h1 : ek ((Rat.divInt (q) 1)) W v1) : Calls Tryz.prog 43 #[v0, v1] W (qh (ek ((Rat.divInt (p + q) 1))) W) := by
 have h := a0c (K := 4) hp.Lj hq.Lj om  W v0 v1 h0 h1
 rwa [Wd.aut] at h
theorem av6 {p q : Int} (hp : Bd p) (hq : Bd q) (W : World) (v0 v1 : Value) (h0 : ek ((Rat.divInt (p) 1)) W v0) (h1 : ek ((Rat.divInt (q) 1)) W v1) : Calls Tryz.prog 44 #[v0, v1] W (qh (ek ((Rat.divInt (p - q) 1))) W) := by
 have h := aa0 (K := 4) hp.Lj hq.Lj om  W v0 v1 h0 h1
 rwa [Wd.aur] at h
theorem Vu {p q : Int} (hp : Bd p) (hq : Bd q) (W : World) (v0 v1 : Value) (h0 : ek ((Rat.divInt (p) 1)) W v0) (h1 : ek ((Rat.divInt (q) 1)) W v1) : Calls Tryz.prog 45 #[v0, v1] W (qh (ek ((Rat.divInt (p * q) 1))) W) := by
 have h := aa1 (K := 4) hp.Lj hq.Lj om  W v0 v1 h0 h1
 rwa [Wd.aus] at h
theorem Lu {p q : Int} (hp : Bd p) (hq : Bd q) (h0q : q ≠ 0) (W : World) (v0 v1 : Value) (h0 : ek ((Rat.divInt (p) 1)) W v0) (h1 : ek ((Rat.divInt (q) 1)) W v1) : Calls Tryz.prog 47 #[v0, v1] W (qh (ek (Rat.divInt p q)) W) := by
 have h := aq8 (K := 4) hp.Lj hq.Lj om (by rw [(Wd.xh q).1]; exact h0q) W v0 v1 h0 h1
 rwa [Wd.alk] at h
theorem Qt {p d q : Int} (hp : Bd p) (hd : Bd d) (hd0 : d ≠ 0) (hq : Bd q) (W : World) (v0 v1 : Value) (h0 : ek (Rat.divInt p d) W v0) (h1 : ek ((Rat.divInt (q) 1)) W v1) : Calls Tryz.prog 45 #[v0, v1] W (qh (ek (Rat.divInt (p * q) d)) W) := by
 have h := aa1 (K := 4) (hp.Li hd hd0) hq.Lj om  W v0 v1 h0 h1
 rwa [Wd.aul] at h
theorem adk {p d q : Int} (hp : Bd p) (hd : Bd d) (hd0 : d ≠ 0) (hq : Bd q) (W : World) (v0 v1 : Value) (h0 : ek (Rat.divInt p d) W v0) (h1 : ek ((Rat.divInt (q) 1)) W v1) : Calls Tryz.prog 44 #[v0, v1] W (qh (ek (Rat.divInt (p - q * d) d)) W) := by
 have h := aa0 (K := 4) (hp.Li hd hd0) hq.Lj om  W v0 v1 h0 h1
 rwa [Wd.anz hd0] at h
theorem af2 {p d q : Int} (hp : Bd p) (hd : Bd d) (hd0 : d ≠ 0) (hq : Bd q) (W : World) (v0 v1 : Value) (h0 : ek ((Rat.divInt (q) 1)) W v0) (h1 : ek (Rat.divInt p d) W v1) : Calls Tryz.prog 44 #[v0, v1] W (qh (ek (Rat.divInt (q * d - p) d)) W) := by
 have h := aa0 (K := 4) hq.Lj (hp.Li hd hd0) om  W v0 v1 h0 h1
 rwa [Wd.ao3 hd0] at h
theorem av7 {l h d : Int} (hl : Bd l) (hh : Bd h) (hd : Bd d) (hd0 : d ≠ 0) (hh0 : h ≠ 0) (W : World) (v0 v1 : Value) (h0 : ek (Rat.divInt l d) W v0) (h1 : ek (Rat.divInt h d) W v1) : Calls Tryz.prog 47 #[v0, v1] W (qh (ek (Rat.divInt l h)) W) := by
 have h := aq8 (K := 4) (hl.Li hd hd0) (hh.Li hd hd0) om (Wd.avr hd0 hh0) W v0 v1 h0 h1
 rwa [Wd.ap2 hd0] at h
theorem aah {L H D m b e : Int} (hL : 0 < L) (hH : 0 < H) (hD : 0 < D) (bL : Bd L) (bH : Bd H) (bD : Bd D) (hb : b ≤ m) (hb1 : 1 ≤ b) (he : 1 ≤ e) (hem : e ≤ m) (hm : m ≤ 1000000000000) (W : World) (v1 v2 v3 v4 : Value) (h1 : ek (Rat.divInt L D) W v1) (h2 : ek (Rat.divInt H D) W v2) (h3 : ek (Rat.divInt (b) 1) W v3) (h4 : ek (Rat.divInt (e) 1) W v4) :
  Calls Tryz.prog 114 #[v1, v2, v3, v4, .int .i64 m] W (qh (ek (Rat.divInt (Wd.Gf L H m b e) 1)) W) := by
 have B : ∀ z : Int, -1000000000000 ≤ z → z ≤ 1000000000000 → Bd z := fun z g1 g2 => by unfold Bd; omega
 have d1 : 0 ≤ (m - b) / e := Int.ediv_nonneg om om
 have d2 : 0 ≤ L / H := Int.ediv_nonneg om om
 have f1 : (m - b) / e ≤ m - b := Int.ediv_le_self _ om
 have f2 : L / H ≤ L := Int.ediv_le_self _ om
 have bq : Bd (L / H) := by unfold Bd at bL ⊢; omega
 refine aij (Rat.divInt L D) (Rat.divInt H D) (Rat.divInt (b) 1) (Rat.divInt (e) 1) (Rat.divInt (m) 1) (Rat.divInt (m - b) 1) (Rat.divInt (m - b) e) (Rat.divInt ((m - b) / e) 1) (Rat.divInt L H) (Rat.divInt (L / H) 1) (Rat.divInt (Wd.Gf L H m b e) 1) m (gm ((m - b) / e - L / H)) ⟨fun h => ?_, fun h => ?_⟩ W v1 v2 v3 v4 h1 h2 h3 h4
  (fun W => Gs m om om W) (fun W v0 v1 h0 h1 => av6 (B m om om) (B b om om) W v0 v1 h0 h1)
  (fun W v0 v1 h0 h1 => Lu (B (m - b) om om) (B e om om) om W v0 v1 h0 h1) (fun W v0 h0 => Oo (B (m - b) om om) (B e om om) om W v0 h0)
  (fun W v0 v1 h0 h1 => av7 bL bH bD om om W v0 v1 h0 h1) (fun W v0 h0 => Oo bL bH hH W v0 h0)
  (fun W v0 v1 h0 h1 => Lv (B ((m - b) / e) om om) bq W v0 v1 h0 h1)
 ·
  unfold Wd.Gf
  rw [if_pos (by unfold gm at h; (repeat' split at h) <;> omega)]
 ·
  unfold Wd.Gf
  rw [if_neg (by unfold gm at h; (repeat' split at h) <;> omega)]

end Go.Proofs.YtpjgoogeokbaaaaGreatDoor
namespace Go.Proofs.YtpjgoogeokbaaaaGreatDoor
open Go.RowKit

theorem Ob {z : Int} (h : z = 0) : (gm z == 0) = true := by rw [h]; rfl
theorem Oa {z : Int} (h : z ≠ 0) : (gm z == 0) = false := by
 unfold gm; (repeat' split) <;> first | rfl | omega
theorem Uw {z : Int} (h : 0 < z) : decide (0 < gm z) = true := decide_eq_true (by unfold gm; (repeat' split) <;> omega)
theorem Ld {z : Int} (h : ¬ 0 < z) : decide (0 < gm z) = false := decide_eq_false (by unfold gm; (repeat' split) <;> omega)
theorem atn {z : Int} (h : z ≤ 0) : decide (gm z ≤ 0) = true := decide_eq_true (by unfold gm; (repeat' split) <;> omega)
theorem atm {z : Int} (h : 0 < z) : decide (gm z ≤ 0) = false := decide_eq_false (by unfold gm; (repeat' split) <;> omega)
theorem Own.empty {w W : World} (h : Below w.heap.size w W) : Own w [] W := ⟨h, List.nodup_nil, fun b q h => by cases h⟩
theorem Uh {V W : World} {b : Nat} {v0 v1 v2 v3 : Value} (h : og V W) (hb : V.heap.size ≤ b) : og V (Cf W b v0 v1 v2 v3) :=
 h.grown (ig W b v0 v1 v2 v3) h.size (fun k hk => by injection hk with hk; omega)
theorem akg {ρ : Operand → Value} {w : World} {d : Option Tmp} {x : Operand} {b : Nat} {u0 u1 : Value} {ty : TypeId} {pos : String} {af : Array Edge} {gd : Option (Nat × Bool)} (h : ρ x = .pointer (some ⟨b, 0, none⟩)) (k0 : w.cell? ⟨b, 0, none⟩ = some u0) (k1 : w.cell? ⟨b, 1, none⟩ = some u1) :
  (execOp ρ { dst := d, op := .load 23 x, type := ty, pos := pos, after := af, guard := gd }).run Tryz.prog w = .ok (.value (.agg #[u0, u1])) w := by
 simp only [execOp, h]
 simp [go_sem, k0, k1]
theorem atr {Q : Exit → Act → World → Prop} {l : List Oper} {n : Nat} {T : Nat → World → Value → Prop} {G : World → Prop} {al : List Nat} {a0 : Act} {k d b : Nat} {x : Operand} {u0 u1 : Value} {ty : TypeId} {pos : String} {af : Array Edge} {gd : Option (Nat × Bool)}
  (hal : al.contains k = false) (hx : Rg.u6 l n T a0 k x (Rg.ji (.pointer (some ⟨b, 0, none⟩)))) (hb : ∀ W, G W → W.cell? ⟨b, 0, none⟩ = some u0 ∧ W.cell? ⟨b, 1, none⟩ = some u1) (hT : T k = Rg.ji (.agg #[u0, u1])) :
  Rg.Step Tryz.prog Q l n T G og al a0 k { dst := some d, op := .load 23 x, type := ty, pos := pos, after := af, guard := gd } := by
 intro a w hG hO hN
 obtain ⟨k0, k1⟩ := hb w hG
 exact zq (P := Tryz.prog) (akg (hx a w hO hN) k0 k1) ⟨_, rfl, hG, Below.refl _ _, by rw [hT]; rfl, fun h => by rw [hal] at h; cases h⟩

end Go.Proofs.YtpjgoogeokbaaaaGreatDoor
