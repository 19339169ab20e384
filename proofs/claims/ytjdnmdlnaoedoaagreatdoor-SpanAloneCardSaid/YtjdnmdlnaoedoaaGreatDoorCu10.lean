/- Texts beneath a law of layer 1. -/
import Derived.Test.YtjdnmdlnaoedoaaGreatDoorCu9
set_option maxRecDepth 100000
set_option maxHeartbeats 16000000
namespace Go.Proofs.YtjdnmdlnaoedoaaGreatDoor
open Go.RowKit

namespace Sb
theorem lh {w : World} {b o : Nat} {cs : List Value} {T : TypeId} (h : w.heap[b]? = some (.cells cs.toArray T (0, 0))) (ho : o < cs.length) : ∃ c, w.cell? ⟨b, o, none⟩ = some c := by
 rw [ah h]
 exact ⟨cs[o], by simp [ho]⟩
def Kg (P : Program) (T : TypeId) (cs : List Value) : Prop := ∀ (ρ : Operand → Value) (w : World) (d : Option Tmp) (ty : TypeId) (pos : String) (af : Array Edge) (gd : Option (Nat × Bool)),
 (execOp ρ { dst := d, op := .alloc T, type := ty, pos := pos, after := af, guard := gd }).run P w = .ok (.value (.pointer (some ⟨w.heap.size, 0, none⟩))) (w.alloc (.cells cs.toArray T))
def qf (T : TypeId) (ls : List Leaf) (B : Nat) : World → Value → Prop := fun W v => ∃ b, v = .pointer (some ⟨b, 0, none⟩) ∧ B ≤ b ∧ Ce W b T ls
theorem qh (T : TypeId) (ls : List Leaf) (B : Nat) : Rg.Em gm (qf T ls B) := by
 rintro w w' v hb ⟨b, rfl, h1, h2⟩
 exact ⟨b, rfl, h1, h2.below hb⟩
def okV : Value → Bool
 | .int .i64 _ => true
 | .bool _ => true
 | .slice _ _ _ => true
 | .pointer _ => true
 | _ => false
theorem atq {u : Value} (h : okV u = true) : Pb u := by
 unfold okV at h
 split at h
 ·
  exact jm _
 ·
  exact Ve _
 ·
  exact Vd _ _ _
 ·
  exact bbo _
 ·
  cases h
theorem gu.vs (W : World) : ∀ (us : List Value), us.all okV = true → gu W (us.map .v) us
 | [], _ => rfl
 | u :: us, h => by
  rw [List.all_cons, Bool.and_eq_true] at h
  exact gu.v (atq h.1) (gu.vs W us h.2)
theorem si {P : Program} {Q : Exit → Act → World → Prop} {l : List Oper} {n : Nat} {T : Nat → World → Value → Prop} {G : World → Prop} {al : List Nat} {a0 : Act} {k d : Nat} {ty : TypeId} {pos : String} {af : Array Edge} {gd : Option (Nat × Bool)} {B : Nat} {TL : TypeId} {cs : List Value} (hN : Kg P TL cs) (hw : cs.all okV = true)
  (Ik : ∀ W W', G W → gm W W' → G W') (hB : ∀ W, G W → B ≤ W.heap.size) (hT : T k = qf TL (cs.map .v) B) (hlt : ∀ j W u, al.contains j = true → T j W u → ∃ b, u = .pointer (some ⟨b, 0, none⟩) ∧ b < W.heap.size) :
  Rg.Step P Q l n T G gm al a0 k { dst := some d, op := .alloc TL, type := ty, pos := pos, after := af, guard := gd } := by
 refine awn (N := qf TL (cs.map .v)) (B := B) ?_ Ik hB hT hlt
 intro a w
 exact ⟨_, (Below.refl _ _).alloc (Nat.le_refl _) _, fun hB => ⟨w.heap.size, rfl, hB, cs, heap_alloc_new w _, gu.vs _ cs hw⟩, hN a.eval w (some d) ty pos af gd⟩
def bgu (t : World → Value → Prop) : Prop := ∃ TL ls B, t = qf TL ls B
theorem uw {T : Nat → World → Value → Prop} {js : List Nat} (h : ∀ j, js.contains j = true → bgu (T j)) : ∀ j W u, js.contains j = true → T j W u → ∃ b, u = .pointer (some ⟨b, 0, none⟩) ∧ b < W.heap.size := fun j W u hj ht => by
 obtain ⟨TL, ls, B, e⟩ := h j hj
 rw [e] at ht
 obtain ⟨b, h1, _, h2⟩ := ht
 exact ⟨b, h1, h2.lt⟩
theorem Own.Wn {w W V : World} {bs : List za} {b b' : Nat} {T T' : TypeId} {ls ls' : List Leaf} (h : Own w bs V) (Vw : gm V W) (hb : V.heap.size ≤ b) (hq : Ce W b T ls) (hb' : V.heap.size ≤ b') (hq' : Ce W b' T' ls') (hne : b' ≠ b) : Own w ((b', T', ls') :: (b, T, ls) :: bs) W := by
 have h1 := Own.add h Vw hb hq
 have h2 := Own.add h Vw hb' hq'
 refine ⟨h1.bel, List.nodup_cons.2 ⟨fun hm => ?_, h1.nd⟩, fun c p q hm => ?_⟩
 ·
  rw [List.map_cons] at hm
  rcases List.mem_cons.1 hm with e | hm
  ·
   exact hne e
  ·
   exact (List.nodup_cons.1 h2.nd).1 hm
 ·
  rcases List.mem_cons.1 hm with e | hm
  ·
   cases e; exact h2.box _ _ _ List.mem_cons_self
  ·
   exact h1.box _ _ _ hm
def Iq (P : Program) (o : Operand → Op) (amb : Nat) : Prop := ∀ (a : Act) (w : World) (d : Option Tmp) (x : Operand) (b off : Nat) (ty : TypeId) (pos : String) (af : Array Edge) (gd : Option (Nat × Bool)), a.eval x = .pointer (some ⟨b, off, none⟩) →
 (execOp a.eval { dst := d, op := o x, type := ty, pos := pos, after := af, guard := gd }).run P w = .ok (.value (.pointer (some ⟨b, off + amb, none⟩))) w
theorem Jv {P : Program} {Q : Exit → Act → World → Prop} {l : List Oper} {n : Nat} {T : Nat → World → Value → Prop} {G : World → Prop} {al : List Nat} {a0 : Act} {k d : Nat} {ty : TypeId} {pos : String} {af : Array Edge} {gd : Option (Nat × Bool)} {b off off' amb : Nat} {x : Operand} {o : Operand → Op} (hA : Iq P o amb) (hal : al.contains k = false) (hx : Rg.ji l n T a0 k x (Rg.ax (.pointer (some ⟨b, off, none⟩)))) (ho : off + amb = off') (hT : T k = Rg.ax (.pointer (some ⟨b, off', none⟩))) :
  Rg.Step P Q l n T G gm al a0 k { dst := some d, op := o x, type := ty, pos := pos, after := af, guard := gd } := by
 intro a w hG hO hN
 exact pz (hA a w (some d) x b off ty pos af gd (hx a w hO hN)) ⟨_, rfl, hG, Below.refl _ _, by rw [hT, ho]; rfl, fun h => by rw [hal] at h; cases h⟩
def Si (P : Program) (T : TypeId) (m1 m2 : Nat) : Prop := ∀ (ρ : Operand → Value) (w : World) (d : Option Tmp) (x y : Operand) (us vs : List Value) (ty : TypeId) (pos : String) (af : Array Edge) (gd : Option (Nat × Bool)), us.length = m1 → vs.length = m2 → ρ x = .agg us.toArray → ρ y = .agg vs.toArray →
 (execOp ρ { dst := d, op := .build T #[(0, x), (1, y)], type := ty, pos := pos, after := af, guard := gd }).run P w = .ok (.value (.agg (us ++ vs).toArray)) w
theorem xx {P : Program} {Q : Exit → Act → World → Prop} {l : List Oper} {n : Nat} {T : Nat → World → Value → Prop} {G : World → Prop} {al : List Nat} {a0 : Act} {k d : Nat} {ty : TypeId} {pos : String} {af : Array Edge} {gd : Option (Nat × Bool)} {m1 m2 : Nat} {x y : Operand} {TL : TypeId} {ls ks : List Leaf} (hB : Si P TL m1 m2) (hal : al.contains k = false) (hx : Rg.ji l n T a0 k x (ai ls)) (hy : Rg.ji l n T a0 k y (ai ks)) (h1 : lsize ls = m1) (h2 : lsize ks = m2) (hT : T k = ai (ls ++ ks)) :
  Rg.Step P Q l n T G gm al a0 k { dst := some d, op := .build TL #[(0, x), (1, y)], type := ty, pos := pos, after := af, guard := gd } := by
 intro a w hG hO hN
 obtain ⟨us, e1, g1⟩ := hx a w hO hN
 obtain ⟨vs, e2, g2⟩ := hy a w hO hN
 exact pz (hB a.eval w (some d) x y us vs ty pos af gd (by rw [g1.len, h1]) (by rw [g2.len, h2]) e1 e2) ⟨_, rfl, hG, Below.refl _ _, by rw [hT]; exact ⟨_, rfl, g2.app g1⟩, fun h => by rw [hal] at h; cases h⟩
def air (P : Program) (T : TypeId) (cs : List Value) : Prop := ∀ (ρ : Operand → Value) (w : World) (d : Option Tmp) (ty : TypeId) (pos : String) (af : Array Edge) (gd : Option (Nat × Bool)),
 (execOp ρ { dst := d, op := .build T #[], type := ty, pos := pos, after := af, guard := gd }).run P w = .ok (.value (.agg cs.toArray)) w
theorem ui {P : Program} {Q : Exit → Act → World → Prop} {l : List Oper} {n : Nat} {T : Nat → World → Value → Prop} {G : World → Prop} {al : List Nat} {a0 : Act} {k d : Nat} {ty : TypeId} {pos : String} {af : Array Edge} {gd : Option (Nat × Bool)} {TL : TypeId} {cs : List Value} (hB : air P TL cs) (hal : al.contains k = false) (hw : cs.all okV = true) (hT : T k = ai (cs.map .v)) :
  Rg.Step P Q l n T G gm al a0 k { dst := some d, op := .build TL #[], type := ty, pos := pos, after := af, guard := gd } := by
 intro a w hG hO hN
 exact pz (hB a.eval w (some d) ty pos af gd) ⟨_, rfl, hG, Below.refl _ _, by rw [hT]; exact ⟨_, rfl, gu.vs _ cs hw⟩, fun h => by rw [hal] at h; cases h⟩
def Qw (T : TypeId) (m : Nat) (ls : List Leaf) : World → Value → Prop := fun W v => ∃ b, v = .slice (some ⟨b, 0, none⟩) m m ∧ Ce W b T ls
theorem Jj (T : TypeId) (m : Nat) (ls : List Leaf) : Rg.Em gm (Qw T m ls) := by
 rintro w w' v hb ⟨b, rfl, h2⟩
 exact ⟨b, rfl, h2.below hb⟩
def acn (ρ : Operand → Value) (ms : Nat) : Nat → List (Nat × Operand) → List Value → Prop
 | _, [], cs => cs = []
 | i, p :: ps, cs => ∃ us r, cs = us ++ r ∧ us.length = ms ∧ p.1 = i ∧ ρ p.2 = .agg us.toArray ∧ acn ρ ms (i + 1) ps r
def Lg (P : Program) (TS TE : TypeId) (m ms : Nat) : Prop := ∀ (ρ : Operand → Value) (w : World) (d : Option Tmp) (ps : List (Nat × Operand)) (cs : List Value) (ty : TypeId) (pos : String) (af : Array Edge) (gd : Option (Nat × Bool)), ps.length = m → acn ρ ms 0 ps cs →
 (execOp ρ { dst := d, op := .buildSlice TS m ps.toArray, type := ty, pos := pos, after := af, guard := gd }).run P w = .ok (.value (.slice (some ⟨w.heap.size, 0, none⟩) m m)) (w.alloc (.cells cs.toArray TE))
def uq (l : List Oper) (n : Nat) (T : Nat → World → Value → Prop) (a0 : Act) (k ms : Nat) : Nat → List (Nat × Operand) → List (List Leaf) → Prop
 | _, [], gs => gs = []
 | i, p :: ps, gs => ∃ g r, gs = g :: r ∧ lsize g = ms ∧ p.1 = i ∧ Rg.ji l n T a0 k p.2 (ai g) ∧ uq l n T a0 k ms (i + 1) ps r
theorem uq.nil {l : List Oper} {n : Nat} {T : Nat → World → Value → Prop} {a0 : Act} {k ms i : Nat} : uq l n T a0 k ms i [] [] := rfl
theorem uq.cons {l : List Oper} {n : Nat} {T : Nat → World → Value → Prop} {a0 : Act} {k ms i : Nat} {x : Operand} {ps : List (Nat × Operand)} {g : List Leaf} {r : List (List Leaf)} (h : Rg.ji l n T a0 k x (ai g)) (hm : lsize g = ms) (hr : uq l n T a0 k ms (i + 1) ps r) : uq l n T a0 k ms i ((i, x) :: ps) (g :: r) := ⟨g, r, rfl, hm, rfl, h, hr⟩
theorem afn {l : List Oper} {n : Nat} {T : Nat → World → Value → Prop} {a0 a : Act} {k ms : Nat} {w : World} (hO : ∀ t, Rg.Gi l n t = true → a.tmps.getD t undef = a0.tmps.getD t undef) (hN : ∀ j d, Rg.waits l k j d = true → T j w (a.tmps.getD d undef)) :
  ∀ {ps : List (Nat × Operand)} {gs : List (List Leaf)} {i : Nat}, uq l n T a0 k ms i ps gs → ∃ cs, acn a.eval ms i ps cs ∧ gu w gs.flatten cs
 | [], _, _, h => by cases h; exact ⟨[], rfl, rfl⟩
 | p :: ps, _, i, ⟨g, r, e, h1, h2, h3, h4⟩ => by
  subst e
  obtain ⟨cs, k1, k2⟩ := afn hO hN (ps := ps) h4
  obtain ⟨us, e1, g1⟩ := h3 a w hO hN
  exact ⟨us ++ cs, ⟨us, cs, rfl, by rw [g1.len, h1], h2, e1, k1⟩, k2.app g1⟩
theorem Ey {P : Program} {Q : Exit → Act → World → Prop} {l : List Oper} {n : Nat} {T : Nat → World → Value → Prop} {G : World → Prop} {al : List Nat} {a0 : Act} {k d : Nat} {ty : TypeId} {pos : String} {af : Array Edge} {gd : Option (Nat × Bool)} {TS TE : TypeId} {m ms : Nat} {ps : List (Nat × Operand)} {gs : List (List Leaf)} (hB : Lg P TS TE m ms) (hal : al.contains k = false) (Ik : ∀ W W', G W → gm W W' → G W') (hm : ps.length = m) (ha : uq l n T a0 k ms 0 ps gs) (hT : T k = Qw TE m gs.flatten) :
  Rg.Step P Q l n T G gm al a0 k { dst := some d, op := .buildSlice TS m ps.toArray, type := ty, pos := pos, after := af, guard := gd } := by
 intro a w hG hO hN
 obtain ⟨cs, h1, h2⟩ := afn hO hN ha
 have hb : gm w (w.alloc (.cells cs.toArray TE)) := (Below.refl _ _).alloc (Nat.le_refl _) _
 exact pz (hB a.eval w (some d) ps cs ty pos af gd hm h1) ⟨_, rfl, Ik _ _ hG hb, hb, by rw [hT]; exact ⟨w.heap.size, rfl, cs, heap_alloc_new w _, h2.below hb⟩, fun h => by rw [hal] at h; cases h⟩
theorem ma {P : Program} {Q : Exit → Act → World → Prop} {l : List Oper} {n : Nat} {T : Nat → World → Value → Prop} {G : World → Prop} {al : List Nat} {a0 : Act} {k d : Nat} {ty : TypeId} {pos : String} {af : Array Edge} {gd : Option (Nat × Bool)} {x : Operand} {ts : List (World → Value → Prop)} {i : Nat} (hal : al.contains k = false) (hx : Rg.ji l n T a0 k x (qa ts)) (hi : i < ts.length) (hT : T k = Rg.pick ts i) :
  Rg.Step P Q l n T G gm al a0 k { dst := some d, op := .extract x i, type := ty, pos := pos, after := af, guard := gd } :=
 bfy hal hx (fun W v ⟨vs, h1, h2⟩ => by
  obtain ⟨u, h3, h4⟩ := h2.get i hi
  exact ⟨vs.toArray, h1, u, by simpa using h3, by rw [hT]; exact h4⟩)
theorem aso {P : Program} {ops : Array Oper} {Q : Exit → Act → World → Prop} {rest : List Oper} {a : Act} {w0 w : World} {TL TB : TypeId} {p x : Operand} {m b off : Nat} {xs ys : List za} {pre old new post : List Leaf} {ty : TypeId} {pos : String} {af : Array Edge}
  (hS : Cv P TL m) (hp : a.eval p = .pointer (some ⟨b, off, none⟩)) (hv : ai new w (a.eval x)) (hO : Own w0 (xs ++ (b, TB, pre ++ (old ++ post)) :: ys) w) (hm : lsize new = m) (hl : lsize new = lsize old) (ho : off = lsize pre)
  (hk : ∀ w', Own w0 (xs ++ (b, TB, pre ++ (new ++ post)) :: ys) w' → (∀ ks u, ai ks w u → ai ks w' u) → wpList P ops Q rest a w') :
  wpList P ops Q ({ dst := none, op := .store TL p x, type := ty, pos := pos, after := af, guard := none } :: rest) a w := by
 obtain ⟨us, e, hu⟩ := hv
 have hbx := hO.box b TB _ (List.mem_append_right _ List.mem_cons_self)
 obtain ⟨hge, cs, hb, hls⟩ := hbx
 have hr := hS a.eval w none p x b off cs TB us ty pos af none (by rw [hu.len, hm]) (fun u h => (hu.noW u h).2.1) hb (by
  have h1 := hls.len
  obtain ⟨c, cd, rfl, k1, k2⟩ := hls.cut
  obtain ⟨o, d, rfl, k3, k4⟩ := k2.cut
  have e1 := k1.len
  have e3 := k3.len
  simp only [List.length_append]
  omega) hp e
 unfold wpList
 rw [if_pos (by simp [Region.wanted])]
 refine .inl ?_
 unfold Oper.wp
 rw [hr]
 exact hk _ (hO.set hu hl ho) (fun ks u h => azw ⟨cs, hb, hls⟩ h)
theorem ny : Io Tryz.prog 72 3 := by
 intro ρ w d x b off us ty pos af gd hl hc hx
 match us, hl with
 | [u0, u1, u2], _ =>
 have k0 : w.cell? ⟨b, off, none⟩ = some u0 := hc 0 om
 have k1 : w.cell? ⟨b, off + 1, none⟩ = some u1 := hc 1 om
 have k2 : w.cell? ⟨b, off + 2, none⟩ = some u2 := hc 2 om
 clear hc
 simp only [execOp, hx]
 simp [go_sem, k0, k1, k2]
theorem lu : Io Tryz.prog 74 6 := by
 intro ρ w d x b off us ty pos af gd hl hc hx
 match us, hl with
 | [u0, u1, u2, u3, u4, u5], _ =>
 have k0 : w.cell? ⟨b, off, none⟩ = some u0 := hc 0 om
 have k1 : w.cell? ⟨b, off + 1, none⟩ = some u1 := hc 1 om
 have k2 : w.cell? ⟨b, off + 2, none⟩ = some u2 := hc 2 om
 have k3 : w.cell? ⟨b, off + 3, none⟩ = some u3 := hc 3 om
 have k4 : w.cell? ⟨b, off + 4, none⟩ = some u4 := hc 4 om
 have k5 : w.cell? ⟨b, off + 5, none⟩ = some u5 := hc 5 om
 clear hc
 simp only [execOp, hx]
 simp [go_sem, k0, k1, k2, k3, k4, k5]
theorem afz : Io Tryz.prog 108 12 := by
 intro ρ w d x b off us ty pos af gd hl hc hx
 match us, hl with
 | [u0, u1, u2, u3, u4, u5, u6, u7, u8, u9, u10, u11], _ =>
 have k0 : w.cell? ⟨b, off, none⟩ = some u0 := hc 0 om
 have k1 : w.cell? ⟨b, off + 1, none⟩ = some u1 := hc 1 om
 have k2 : w.cell? ⟨b, off + 2, none⟩ = some u2 := hc 2 om
 have k3 : w.cell? ⟨b, off + 3, none⟩ = some u3 := hc 3 om
 have k4 : w.cell? ⟨b, off + 4, none⟩ = some u4 := hc 4 om
 have k5 : w.cell? ⟨b, off + 5, none⟩ = some u5 := hc 5 om
 have k6 : w.cell? ⟨b, off + 6, none⟩ = some u6 := hc 6 om
 have k7 : w.cell? ⟨b, off + 7, none⟩ = some u7 := hc 7 om
 have k8 : w.cell? ⟨b, off + 8, none⟩ = some u8 := hc 8 om
 have k9 : w.cell? ⟨b, off + 9, none⟩ = some u9 := hc 9 om
 have k10 : w.cell? ⟨b, off + 10, none⟩ = some u10 := hc 10 om
 have k11 : w.cell? ⟨b, off + 11, none⟩ = some u11 := hc 11 om
 clear hc
 simp only [execOp, hx]
 simp [go_sem, k0, k1, k2, k3, k4, k5, k6, k7, k8, k9, k10, k11]
theorem xc : Io Tryz.prog 23 2 := by
 intro ρ w d x b off us ty pos af gd hl hc hx
 match us, hl with
 | [u0, u1], _ =>
 have k0 : w.cell? ⟨b, off, none⟩ = some u0 := hc 0 om
 have k1 : w.cell? ⟨b, off + 1, none⟩ = some u1 := hc 1 om
 clear hc
 simp only [execOp, hx]
 simp [go_sem, k0, k1]
theorem oh : Io Tryz.prog 41 4 := by
 intro ρ w d x b off us ty pos af gd hl hc hx
 match us, hl with
 | [u0, u1, u2, u3], _ =>
 have k0 : w.cell? ⟨b, off, none⟩ = some u0 := hc 0 om
 have k1 : w.cell? ⟨b, off + 1, none⟩ = some u1 := hc 1 om
 have k2 : w.cell? ⟨b, off + 2, none⟩ = some u2 := hc 2 om
 have k3 : w.cell? ⟨b, off + 3, none⟩ = some u3 := hc 3 om
 clear hc
 simp only [execOp, hx]
 simp [go_sem, k0, k1, k2, k3]
theorem Bo : Cv Tryz.prog 72 3 := by
 intro ρ w d p x b off cs TB us ty pos af gd hl hu hb ho hp hx
 match us, hl with
 | [u0, u1, u2], _ =>
 have o0 := hu u0 (by simp)
 have o1 := hu u1 (by simp)
 have o2 := hu u2 (by simp)
 have f0 : w.frozen? ⟨b, off, none⟩ = false := bf hb _
 have f1 : w.frozen? ⟨b, off + 1, none⟩ = false := bf hb _
 have f2 : w.frozen? ⟨b, off + 2, none⟩ = false := bf hb _
 obtain ⟨c0, k0⟩ : ∃ c, w.cell? ⟨b, off, none⟩ = some c := lh hb om
 obtain ⟨c1, k1⟩ : ∃ c, w.cell? ⟨b, off + 1, none⟩ = some c := lh hb om
 obtain ⟨c2, k2⟩ : ∃ c, w.cell? ⟨b, off + 2, none⟩ = some c := lh hb om
 have hlt := lt_of_block hb
 clear hb ho hu
 simp only [execOp, hp, hx, setM]
 simp [go_sem, hlt, run_store _ _ _ _ _ o0, o0, run_store _ _ _ _ _ o1, o1, run_store _ _ _ _ _ o2, o2, k0, k1, k2, f0, f1, f2]
theorem zb : Cv Tryz.prog 74 6 := by
 intro ρ w d p x b off cs TB us ty pos af gd hl hu hb ho hp hx
 match us, hl with
 | [u0, u1, u2, u3, u4, u5], _ =>
 have o0 := hu u0 (by simp)
 have o1 := hu u1 (by simp)
 have o2 := hu u2 (by simp)
 have o3 := hu u3 (by simp)
 have o4 := hu u4 (by simp)
 have o5 := hu u5 (by simp)
 have f0 : w.frozen? ⟨b, off, none⟩ = false := bf hb _
 have f1 : w.frozen? ⟨b, off + 1, none⟩ = false := bf hb _
 have f2 : w.frozen? ⟨b, off + 2, none⟩ = false := bf hb _
 have f3 : w.frozen? ⟨b, off + 3, none⟩ = false := bf hb _
 have f4 : w.frozen? ⟨b, off + 4, none⟩ = false := bf hb _
 have f5 : w.frozen? ⟨b, off + 5, none⟩ = false := bf hb _
 obtain ⟨c0, k0⟩ : ∃ c, w.cell? ⟨b, off, none⟩ = some c := lh hb om
 obtain ⟨c1, k1⟩ : ∃ c, w.cell? ⟨b, off + 1, none⟩ = some c := lh hb om
 obtain ⟨c2, k2⟩ : ∃ c, w.cell? ⟨b, off + 2, none⟩ = some c := lh hb om
 obtain ⟨c3, k3⟩ : ∃ c, w.cell? ⟨b, off + 3, none⟩ = some c := lh hb om
 obtain ⟨c4, k4⟩ : ∃ c, w.cell? ⟨b, off + 4, none⟩ = some c := lh hb om
 obtain ⟨c5, k5⟩ : ∃ c, w.cell? ⟨b, off + 5, none⟩ = some c := lh hb om
 have hlt := lt_of_block hb
 clear hb ho hu
 simp only [execOp, hp, hx, setM]
 simp [go_sem, hlt, run_store _ _ _ _ _ o0, o0, run_store _ _ _ _ _ o1, o1, run_store _ _ _ _ _ o2, o2, run_store _ _ _ _ _ o3, o3, run_store _ _ _ _ _ o4, o4, run_store _ _ _ _ _ o5, o5, k0, k1, k2, k3, k4, k5, f0, f1, f2, f3, f4, f5]
theorem Oe : Cv Tryz.prog 108 12 := by
 intro ρ w d p x b off cs TB us ty pos af gd hl hu hb ho hp hx
 match us, hl with
 | [u0, u1, u2, u3, u4, u5, u6, u7, u8, u9, u10, u11], _ =>
 have o0 := hu u0 (by simp)
 have o1 := hu u1 (by simp)
 have o2 := hu u2 (by simp)
 have o3 := hu u3 (by simp)
 have o4 := hu u4 (by simp)
 have o5 := hu u5 (by simp)
 have o6 := hu u6 (by simp)
 have o7 := hu u7 (by simp)
 have o8 := hu u8 (by simp)
 have o9 := hu u9 (by simp)
 have o10 := hu u10 (by simp)
 have o11 := hu u11 (by simp)
 have f0 : w.frozen? ⟨b, off, none⟩ = false := bf hb _
 have f1 : w.frozen? ⟨b, off + 1, none⟩ = false := bf hb _
 have f2 : w.frozen? ⟨b, off + 2, none⟩ = false := bf hb _
 have f3 : w.frozen? ⟨b, off + 3, none⟩ = false := bf hb _
 have f4 : w.frozen? ⟨b, off + 4, none⟩ = false := bf hb _
 have f5 : w.frozen? ⟨b, off + 5, none⟩ = false := bf hb _
 have f6 : w.frozen? ⟨b, off + 6, none⟩ = false := bf hb _
 have f7 : w.frozen? ⟨b, off + 7, none⟩ = false := bf hb _
 have f8 : w.frozen? ⟨b, off + 8, none⟩ = false := bf hb _
 have f9 : w.frozen? ⟨b, off + 9, none⟩ = false := bf hb _
 have f10 : w.frozen? ⟨b, off + 10, none⟩ = false := bf hb _
 have f11 : w.frozen? ⟨b, off + 11, none⟩ = false := bf hb _
 obtain ⟨c0, k0⟩ : ∃ c, w.cell? ⟨b, off, none⟩ = some c := lh hb om
 obtain ⟨c1, k1⟩ : ∃ c, w.cell? ⟨b, off + 1, none⟩ = some c := lh hb om
 obtain ⟨c2, k2⟩ : ∃ c, w.cell? ⟨b, off + 2, none⟩ = some c := lh hb om
 obtain ⟨c3, k3⟩ : ∃ c, w.cell? ⟨b, off + 3, none⟩ = some c := lh hb om
 obtain ⟨c4, k4⟩ : ∃ c, w.cell? ⟨b, off + 4, none⟩ = some c := lh hb om
 obtain ⟨c5, k5⟩ : ∃ c, w.cell? ⟨b, off + 5, none⟩ = some c := lh hb om
 obtain ⟨c6, k6⟩ : ∃ c, w.cell? ⟨b, off + 6, none⟩ = some c := lh hb om
 obtain ⟨c7, k7⟩ : ∃ c, w.cell? ⟨b, off + 7, none⟩ = some c := lh hb om
 obtain ⟨c8, k8⟩ : ∃ c, w.cell? ⟨b, off + 8, none⟩ = some c := lh hb om
 obtain ⟨c9, k9⟩ : ∃ c, w.cell? ⟨b, off + 9, none⟩ = some c := lh hb om
 obtain ⟨c10, k10⟩ : ∃ c, w.cell? ⟨b, off + 10, none⟩ = some c := lh hb om
 obtain ⟨c11, k11⟩ : ∃ c, w.cell? ⟨b, off + 11, none⟩ = some c := lh hb om
 have hlt := lt_of_block hb
 clear hb ho hu
 simp only [execOp, hp, hx, setM]
 simp [go_sem, hlt, run_store _ _ _ _ _ o0, o0, run_store _ _ _ _ _ o1, o1, run_store _ _ _ _ _ o2, o2, run_store _ _ _ _ _ o3, o3, run_store _ _ _ _ _ o4, o4, run_store _ _ _ _ _ o5, o5, run_store _ _ _ _ _ o6, o6, run_store _ _ _ _ _ o7, o7, run_store _ _ _ _ _ o8, o8, run_store _ _ _ _ _ o9, o9, run_store _ _ _ _ _ o10, o10, run_store _ _ _ _ _ o11, o11, k0, k1, k2, k3, k4, k5, k6, k7, k8, k9, k10, k11, f0, f1, f2, f3, f4, f5, f6, f7, f8, f9, f10, f11]
theorem Di : Cv Tryz.prog 23 2 := by
 intro ρ w d p x b off cs TB us ty pos af gd hl hu hb ho hp hx
 match us, hl with
 | [u0, u1], _ =>
 have o0 := hu u0 (by simp)
 have o1 := hu u1 (by simp)
 have f0 : w.frozen? ⟨b, off, none⟩ = false := bf hb _
 have f1 : w.frozen? ⟨b, off + 1, none⟩ = false := bf hb _
 obtain ⟨c0, k0⟩ : ∃ c, w.cell? ⟨b, off, none⟩ = some c := lh hb om
 obtain ⟨c1, k1⟩ : ∃ c, w.cell? ⟨b, off + 1, none⟩ = some c := lh hb om
 have hlt := lt_of_block hb
 clear hb ho hu
 simp only [execOp, hp, hx, setM]
 simp [go_sem, hlt, run_store _ _ _ _ _ o0, o0, run_store _ _ _ _ _ o1, o1, k0, k1, f0, f1]
theorem mg : Cv Tryz.prog 41 4 := by
 intro ρ w d p x b off cs TB us ty pos af gd hl hu hb ho hp hx
 match us, hl with
 | [u0, u1, u2, u3], _ =>
 have o0 := hu u0 (by simp)
 have o1 := hu u1 (by simp)
 have o2 := hu u2 (by simp)
 have o3 := hu u3 (by simp)
 have f0 : w.frozen? ⟨b, off, none⟩ = false := bf hb _
 have f1 : w.frozen? ⟨b, off + 1, none⟩ = false := bf hb _
 have f2 : w.frozen? ⟨b, off + 2, none⟩ = false := bf hb _
 have f3 : w.frozen? ⟨b, off + 3, none⟩ = false := bf hb _
 obtain ⟨c0, k0⟩ : ∃ c, w.cell? ⟨b, off, none⟩ = some c := lh hb om
 obtain ⟨c1, k1⟩ : ∃ c, w.cell? ⟨b, off + 1, none⟩ = some c := lh hb om
 obtain ⟨c2, k2⟩ : ∃ c, w.cell? ⟨b, off + 2, none⟩ = some c := lh hb om
 obtain ⟨c3, k3⟩ : ∃ c, w.cell? ⟨b, off + 3, none⟩ = some c := lh hb om
 have hlt := lt_of_block hb
 clear hb ho hu
 simp only [execOp, hp, hx, setM]
 simp [go_sem, hlt, run_store _ _ _ _ _ o0, o0, run_store _ _ _ _ _ o1, o1, run_store _ _ _ _ _ o2, o2, run_store _ _ _ _ _ o3, o3, k0, k1, k2, k3, f0, f1, f2, f3]
theorem Ll : Kg Tryz.prog 72 [.int .i64 0, .bool false, .slice none 0 0] := by
 intro ρ w d ty pos af gd
 simp only [execOp]
 simp [go_sem]
theorem Tg : Kg Tryz.prog 74 [.int .i64 0, .bool false, .slice none 0 0, .int .i64 0, .bool false, .slice none 0 0] := by
 intro ρ w d ty pos af gd
 simp only [execOp]
 simp [go_sem]
theorem Hq : Kg Tryz.prog 23 [.int .i64 0, .int .i64 0] := by
 intro ρ w d ty pos af gd
 simp only [execOp]
 simp [go_sem]
theorem Tf : Kg Tryz.prog 41 [.int .i64 0, .int .i64 0, .int .i64 0, .int .i64 0] := by
 intro ρ w d ty pos af gd
 simp only [execOp]
 simp [go_sem]
theorem akf : Si Tryz.prog 108 6 6 := by
 intro ρ w d x y us vs ty pos af gd h1 h2 e1 e2
 match us, h1, vs, h2 with
 | [u0, u1, u2, u3, u4, u5], _, [v0, v1, v2, v3, v4, v5], _ =>
 simp only [execOp]
 simp [go_sem, e1, e2]
 try rfl
theorem Ht : Si Tryz.prog 41 2 2 := by
 intro ρ w d x y us vs ty pos af gd h1 h2 e1 e2
 match us, h1, vs, h2 with
 | [u0, u1], _, [v0, v1], _ =>
 simp only [execOp]
 simp [go_sem, e1, e2]
 try rfl
theorem uj : air Tryz.prog 41 [.int .i64 0, .int .i64 0, .int .i64 0, .int .i64 0] := by
 intro ρ w d ty pos af gd
 simp only [execOp]
 simp [go_sem]
 try rfl
theorem ana : Lg Tryz.prog 153 74 1 6 := by
 intro ρ w d ps cs ty pos af gd hm h
 match ps, hm with
 | [(i0, x0)], _ =>
 obtain ⟨Uu, r0, rfl, l0, e0, g0, h⟩ := h
 cases h
 match Uu, l0 with
 | [aib, aia, ahz, ahy, bet, bes], _ =>
 dsimp only at e0 g0
 subst e0
 simp only [execOp]
 simp [go_sem, g0]
 try rfl
theorem amz : Lg Tryz.prog 153 74 2 6 := by
 intro ρ w d ps cs ty pos af gd hm h
 match ps, hm with
 | [(i0, x0), (i1, x1)], _ =>
 obtain ⟨Uu, r0, rfl, l0, e0, g0, h⟩ := h
 obtain ⟨Zx, r1, rfl, l1, e1, g1, h⟩ := h
 cases h
 match Uu, l0 with
 | [aib, aia, ahz, ahy, bet, bes], _ =>
 match Zx, l1 with
 | [anj, ani, anh, ang, bln, blm], _ =>
 dsimp only at e0 e1 g0 g1
 subst e0 e1
 simp only [execOp]
 simp [go_sem, g0, g1]
 try rfl
theorem amy : Lg Tryz.prog 153 74 3 6 := by
 intro ρ w d ps cs ty pos af gd hm h
 match ps, hm with
 | [(i0, x0), (i1, x1), (i2, x2)], _ =>
 obtain ⟨Uu, r0, rfl, l0, e0, g0, h⟩ := h
 obtain ⟨Zx, r1, rfl, l1, e1, g1, h⟩ := h
 obtain ⟨us2, r2, rfl, l2, e2, g2, h⟩ := h
 cases h
 match Uu, l0 with
 | [aib, aia, ahz, ahy, bet, bes], _ =>
 match Zx, l1 with
 | [anj, ani, anh, ang, bln, blm], _ =>
 match us2, l2 with
 | [bll, blj, bli, blh, bqz, bqy], _ =>
 dsimp only at e0 e1 e2 g0 g1 g2
 subst e0 e1 e2
 simp only [execOp]
 simp [go_sem, g0, g1, g2]
 try rfl
theorem amx : Lg Tryz.prog 150 41 2 4 := by
 intro ρ w d ps cs ty pos af gd hm h
 match ps, hm with
 | [(i0, x0), (i1, x1)], _ =>
 obtain ⟨Uu, r0, rfl, l0, e0, g0, h⟩ := h
 obtain ⟨Zx, r1, rfl, l1, e1, g1, h⟩ := h
 cases h
 match Uu, l0 with
 | [aib, aia, ahz, ahy], _ =>
 match Zx, l1 with
 | [anj, ani, anh, ang], _ =>
 dsimp only at e0 e1 g0 g1
 subst e0 e1
 simp only [execOp]
 simp [go_sem, g0, g1]
 try rfl
theorem bah : Iq Tryz.prog (fun x => .indexAddr 108 x (.const (.int .i64 0))) 0 := by
 intro a w d x b off ty pos af gd hx
 have hc : ∀ v, a.eval (.const v) = v := fun _ => rfl
 simp only [execOp, hx, hc]
 simp [go_sem]
theorem Bu {Q : Exit → Act → World → Prop} {l : List Oper} {n : Nat} {T : Nat → World → Value → Prop} {G : World → Prop} {al : List Nat} {a0 : Act} {k d : Nat} {ty : TypeId} {pos : String} {af : Array Edge} {gd : Option (Nat × Bool)} {b off off' : Nat} {x : Operand} (hal : al.contains k = false) (hx : Rg.ji l n T a0 k x (Rg.ax (.pointer (some ⟨b, off, none⟩)))) (ho : off + 0 = off') (hT : T k = Rg.ax (.pointer (some ⟨b, off', none⟩))) :
  Rg.Step Tryz.prog Q l n T G gm al a0 k { dst := some d, op := .indexAddr 108 x (.const (.int .i64 0)), type := ty, pos := pos, after := af, guard := gd } := by
 exact Jv (P := Tryz.prog) (o := fun x => .indexAddr 108 x (.const (.int .i64 0))) bah hal hx ho hT
theorem bag : Iq Tryz.prog (fun x => .indexAddr 108 x (.const (.int .i64 1))) 6 := by
 intro a w d x b off ty pos af gd hx
 have hc : ∀ v, a.eval (.const v) = v := fun _ => rfl
 simp only [execOp, hx, hc]
 simp [go_sem]
theorem Co {Q : Exit → Act → World → Prop} {l : List Oper} {n : Nat} {T : Nat → World → Value → Prop} {G : World → Prop} {al : List Nat} {a0 : Act} {k d : Nat} {ty : TypeId} {pos : String} {af : Array Edge} {gd : Option (Nat × Bool)} {b off off' : Nat} {x : Operand} (hal : al.contains k = false) (hx : Rg.ji l n T a0 k x (Rg.ax (.pointer (some ⟨b, off, none⟩)))) (ho : off + 6 = off') (hT : T k = Rg.ax (.pointer (some ⟨b, off', none⟩))) :
  Rg.Step Tryz.prog Q l n T G gm al a0 k { dst := some d, op := .indexAddr 108 x (.const (.int .i64 1)), type := ty, pos := pos, after := af, guard := gd } := by
 exact Jv (P := Tryz.prog) (o := fun x => .indexAddr 108 x (.const (.int .i64 1))) bag hal hx ho hT
theorem bac : Iq Tryz.prog (fun x => .fieldAddr 41 x 0) 0 := by
 intro a w d x b off ty pos af gd hx
 have hc : ∀ v, a.eval (.const v) = v := fun _ => rfl
 simp only [execOp, hx, hc]
 simp [go_sem]
theorem Cm {Q : Exit → Act → World → Prop} {l : List Oper} {n : Nat} {T : Nat → World → Value → Prop} {G : World → Prop} {al : List Nat} {a0 : Act} {k d : Nat} {ty : TypeId} {pos : String} {af : Array Edge} {gd : Option (Nat × Bool)} {b off off' : Nat} {x : Operand} (hal : al.contains k = false) (hx : Rg.ji l n T a0 k x (Rg.ax (.pointer (some ⟨b, off, none⟩)))) (ho : off + 0 = off') (hT : T k = Rg.ax (.pointer (some ⟨b, off', none⟩))) :
  Rg.Step Tryz.prog Q l n T G gm al a0 k { dst := some d, op := .fieldAddr 41 x 0, type := ty, pos := pos, after := af, guard := gd } := by
 exact Jv (P := Tryz.prog) (o := fun x => .fieldAddr 41 x 0) bac hal hx ho hT
theorem bab : Iq Tryz.prog (fun x => .fieldAddr 41 x 1) 2 := by
 intro a w d x b off ty pos af gd hx
 have hc : ∀ v, a.eval (.const v) = v := fun _ => rfl
 simp only [execOp, hx, hc]
 simp [go_sem]
theorem Dc {Q : Exit → Act → World → Prop} {l : List Oper} {n : Nat} {T : Nat → World → Value → Prop} {G : World → Prop} {al : List Nat} {a0 : Act} {k d : Nat} {ty : TypeId} {pos : String} {af : Array Edge} {gd : Option (Nat × Bool)} {b off off' : Nat} {x : Operand} (hal : al.contains k = false) (hx : Rg.ji l n T a0 k x (Rg.ax (.pointer (some ⟨b, off, none⟩)))) (ho : off + 2 = off') (hT : T k = Rg.ax (.pointer (some ⟨b, off', none⟩))) :
  Rg.Step Tryz.prog Q l n T G gm al a0 k { dst := some d, op := .fieldAddr 41 x 1, type := ty, pos := pos, after := af, guard := gd } := by
 exact Jv (P := Tryz.prog) (o := fun x => .fieldAddr 41 x 1) bab hal hx ho hT
theorem baf : Iq Tryz.prog (fun x => .fieldAddr 74 x 0) 0 := by
 intro a w d x b off ty pos af gd hx
 have hc : ∀ v, a.eval (.const v) = v := fun _ => rfl
 simp only [execOp, hx, hc]
 simp [go_sem]
theorem Ez {Q : Exit → Act → World → Prop} {l : List Oper} {n : Nat} {T : Nat → World → Value → Prop} {G : World → Prop} {al : List Nat} {a0 : Act} {k d : Nat} {ty : TypeId} {pos : String} {af : Array Edge} {gd : Option (Nat × Bool)} {b off off' : Nat} {x : Operand} (hal : al.contains k = false) (hx : Rg.ji l n T a0 k x (Rg.ax (.pointer (some ⟨b, off, none⟩)))) (ho : off + 0 = off') (hT : T k = Rg.ax (.pointer (some ⟨b, off', none⟩))) :
  Rg.Step Tryz.prog Q l n T G gm al a0 k { dst := some d, op := .fieldAddr 74 x 0, type := ty, pos := pos, after := af, guard := gd } := by
 exact Jv (P := Tryz.prog) (o := fun x => .fieldAddr 74 x 0) baf hal hx ho hT
theorem bae : Iq Tryz.prog (fun x => .fieldAddr 74 x 1) 3 := by
 intro a w d x b off ty pos af gd hx
 have hc : ∀ v, a.eval (.const v) = v := fun _ => rfl
 simp only [execOp, hx, hc]
 simp [go_sem]
theorem Cn {Q : Exit → Act → World → Prop} {l : List Oper} {n : Nat} {T : Nat → World → Value → Prop} {G : World → Prop} {al : List Nat} {a0 : Act} {k d : Nat} {ty : TypeId} {pos : String} {af : Array Edge} {gd : Option (Nat × Bool)} {b off off' : Nat} {x : Operand} (hal : al.contains k = false) (hx : Rg.ji l n T a0 k x (Rg.ax (.pointer (some ⟨b, off, none⟩)))) (ho : off + 3 = off') (hT : T k = Rg.ax (.pointer (some ⟨b, off', none⟩))) :
  Rg.Step Tryz.prog Q l n T G gm al a0 k { dst := some d, op := .fieldAddr 74 x 1, type := ty, pos := pos, after := af, guard := gd } := by
 exact Jv (P := Tryz.prog) (o := fun x => .fieldAddr 74 x 1) bae hal hx ho hT
end Sb

end Go.Proofs.YtjdnmdlnaoedoaaGreatDoor
namespace Go.Proofs.YtjdnmdlnaoedoaaGreatDoor
open Go.RowKit

namespace Sb
def Hz (P : Program) (T : TypeId) (n : Nat) : Prop := ∀ (w : World) (b off : Nat) (us : List Value), us.length = n → (∀ i, i < n → w.cell? ⟨b, off + i, none⟩ = us[i]?) → (loadVar T ⟨b, off, none⟩).run P w = .ok (.agg us.toArray) w
theorem Ce.Xg {P : Program} {w : World} {b : Nat} {TB T : TypeId} {ls : List Leaf} {n : Nat} (h : Ce w b TB ls) (hL : Hz P T n) (hn : lsize ls = n) : ∃ cs : List Value, (loadVar T ⟨b, 0, none⟩).run P w = .ok (.agg cs.toArray) w ∧ gu w ls cs := by
 obtain ⟨cs, h1, h2⟩ := h
 have h3 := hL w b 0 cs (by rw [h2.len, hn]) (fun i hi => by
  have e : cs.length = n := by rw [h2.len, hn]
  have := adt (c := []) (m := cs) (d := []) (by simpa using h1) i om
  simpa using this)
 exact ⟨cs, h3, h2⟩
section
variable {P : Program} {fn : Func} {a : Act} {w w0 : World} {bs : List za} {s s2 t t2 b b2 : Nat} {TB T TB2 T2 : TypeId} {ls ls2 : List Leaf} {n n2 : Nat} {u u2 : Value}
theorem Bn (hr : fn.results = #[.tmp t]) (ht : a.tmps.getD t undef = u) (hB : Below w0.heap.size w0 w) (hd : a.defers = []) : bodyPost P fn (il (Rg.ax u) w0) .ret a w :=
 bodyPost_ret (v := u) (by simp only [results, hr]; simp [go_sem]; simpa using ht) hd ⟨u, rfl, hB, rfl⟩
theorem xu (hr : fn.results = #[.cell s T]) (hL : Hz P T n) (ht : a.tmps.getD s undef = .pointer (some ⟨b, 0, none⟩)) (hO : Own w0 bs w) (hm : (b, TB, ls) ∈ bs) (hn : lsize ls = n) (hd : a.defers = []) : bodyPost P fn (il (ai ls) w0) .ret a w := by
 obtain ⟨cs, h1, h2⟩ := (hO.box b TB ls hm).2.Xg hL hn
 refine bodyPost_ret (v := .agg cs.toArray) ?_ hd ⟨_, rfl, hO.bel, cs, rfl, h2⟩
 rw [Array.getD_eq_getD_getElem?] at ht
 simp only [results, hr]
 clear hO hL
 generalize loadVar = ldv at *
 simp [ht, go_sem, h1]
theorem yz (hr : fn.results = #[.cell s T, .tmp t]) (hL : Hz P T n) (ht : a.tmps.getD s undef = .pointer (some ⟨b, 0, none⟩)) (hu : a.tmps.getD t undef = u) (hO : Own w0 bs w) (hm : (b, TB, ls) ∈ bs) (hn : lsize ls = n) (hd : a.defers = []) : bodyPost P fn (il (qa [ai ls, Rg.ax u]) w0) .ret a w := by
 obtain ⟨cs, h1, h2⟩ := (hO.box b TB ls hm).2.Xg hL hn
 refine bodyPost_ret (v := .tuple [.agg cs.toArray, u].toArray) ?_ hd ⟨_, rfl, hO.bel, _, rfl, ⟨_, _, rfl, ⟨cs, rfl, h2⟩, _, _, rfl, rfl, rfl⟩⟩
 rw [Array.getD_eq_getD_getElem?] at ht hu
 simp only [results, hr]
 clear hO hL
 generalize loadVar = ldv at *
 simp [ht, hu, go_sem, h1]
theorem bdt (hr : fn.results = #[.cell s T, .cell s2 T2]) (hL : Hz P T n) (hL2 : Hz P T2 n2) (ht : a.tmps.getD s undef = .pointer (some ⟨b, 0, none⟩)) (ht2 : a.tmps.getD s2 undef = .pointer (some ⟨b2, 0, none⟩)) (hO : Own w0 bs w) (hm : (b, TB, ls) ∈ bs) (hm2 : (b2, TB2, ls2) ∈ bs) (hn : lsize ls = n) (hn2 : lsize ls2 = n2) (hd : a.defers = []) : bodyPost P fn (il (qa [ai ls, ai ls2]) w0) .ret a w := by
 obtain ⟨cs, h1, h2⟩ := (hO.box b TB ls hm).2.Xg hL hn
 obtain ⟨cs2, h3, h4⟩ := (hO.box b2 TB2 ls2 hm2).2.Xg hL2 hn2
 refine bodyPost_ret (v := .tuple [.agg cs.toArray, .agg cs2.toArray].toArray) ?_ hd ⟨_, rfl, hO.bel, _, rfl, ⟨_, _, rfl, ⟨cs, rfl, h2⟩, _, _, rfl, ⟨cs2, rfl, h4⟩, rfl⟩⟩
 rw [Array.getD_eq_getD_getElem?] at ht ht2
 simp only [results, hr]
 clear hO hL
 generalize loadVar = ldv at *
 simp [ht, ht2, go_sem, h1, h3]
theorem Oo (hr : fn.results = #[.cell s T, .cell s2 T2, .tmp t]) (hL : Hz P T n) (hL2 : Hz P T2 n2) (ht : a.tmps.getD s undef = .pointer (some ⟨b, 0, none⟩)) (ht2 : a.tmps.getD s2 undef = .pointer (some ⟨b2, 0, none⟩)) (hu : a.tmps.getD t undef = u) (hO : Own w0 bs w) (hm : (b, TB, ls) ∈ bs) (hm2 : (b2, TB2, ls2) ∈ bs) (hn : lsize ls = n) (hn2 : lsize ls2 = n2) (hd : a.defers = []) : bodyPost P fn (il (qa [ai ls, ai ls2, Rg.ax u]) w0) .ret a w := by
 obtain ⟨cs, h1, h2⟩ := (hO.box b TB ls hm).2.Xg hL hn
 obtain ⟨cs2, h3, h4⟩ := (hO.box b2 TB2 ls2 hm2).2.Xg hL2 hn2
 refine bodyPost_ret (v := .tuple [.agg cs.toArray, .agg cs2.toArray, u].toArray) ?_ hd ⟨_, rfl, hO.bel, _, rfl, ⟨_, _, rfl, ⟨cs, rfl, h2⟩, _, _, rfl, ⟨cs2, rfl, h4⟩, _, _, rfl, rfl, rfl⟩⟩
 rw [Array.getD_eq_getD_getElem?] at ht ht2 hu
 simp only [results, hr]
 clear hO hL
 generalize loadVar = ldv at *
 simp [ht, ht2, hu, go_sem, h1, h3]
end
theorem aov {P : Program} {F : Nat} (hF : ∀ (vs : Array Value) (w : World), (callFunc F vs).run P w = .ok (.enter F vs) w) {a : Act} {w : World} {d : Option Tmp} {x : Operand} {xs : Array Operand} {ats : Array TypeId} {ty : TypeId} {pos : String} {af : Array Edge} {gd : Option (Nat × Bool)} (hx : a.eval x = .func (.func F) #[] #[]) :
  (execOp a.eval { dst := d, op := .call { callee := .value x, args := xs, argTypes := ats }, type := ty, pos := pos, after := af, guard := gd }).run P w = .ok (.enter F (xs.map a.eval)) w := by
 have h := hF (#[] ++ xs.map a.eval ++ #[]) w
 rw [Array.empty_append, Array.append_empty] at h
 rw [← h]
 simp only [execOp, resolve, hx, Deferred.ofValue, invoke]
 simp only [pure_bind, Array.empty_append, Array.append_empty]
theorem asy {P : Program} {Q : Exit → Act → World → Prop} {l : List Oper} {n : Nat} {T : Nat → World → Value → Prop} {G : World → Prop} {al : List Nat} {a0 : Act} {k d : Nat} {ty : TypeId} {pos : String} {af : Array Edge} {gd : Option (Nat × Bool)} {F : Nat} {fn : Func} {f x1 x2 : Operand} {A1 A2 : World → Value → Prop} {ats : Array TypeId}
  (hF : P.funcs[F]? = some fn) (hn : (!(fn.name == "runtime.NumGoroutine") && fn.body.isSome) = true) (hal : al.contains k = false) (Ik : ∀ W W', G W → gm W W' → G W') (hf : Rg.ji l n T a0 k f (Rg.ax (.func (.func F) #[] #[]))) (h1 : Rg.ji l n T a0 k x1 A1) (h2 : Rg.ji l n T a0 k x2 A2)
  (hc : ∀ (W : World) (v1 v2 : Value), G W → A1 W v1 → A2 W v2 → Calls P F #[v1, v2] W fun e w' => ∃ u, e = .returned u ∧ gm W w' ∧ T k w' u) :
  Rg.Step P Q l n T G gm al a0 k { dst := some d, op := .call { callee := .value f, args := #[x1, x2], argTypes := ats }, type := ty, pos := pos, after := af, guard := gd } := by
 intro a w hG hO hN
 refine Iz (aov (Gf hF hn) (hf a w hO hN)) ?_
 simp only [List.map_toArray, List.map_cons, List.map_nil]
 refine (hc w (a.eval x1) (a.eval x2) hG (h1 a w hO hN) (h2 a w hO hN)).mono ?_
 rintro e w' ⟨u, rfl, hb, ht⟩
 exact ⟨u, rfl, u, rfl, Ik _ _ hG hb, hb, ht, fun h => by rw [hal] at h; cases h⟩
def IfT (TI : TypeId) (ls : List Leaf) : World → Value → Prop := fun W v => ∃ u, v = .iface TI u ∧ ai ls W u
theorem Og (TI : TypeId) (ls : List Leaf) : Rg.Em gm (IfT TI ls) := by
 rintro w w' v hb ⟨u, rfl, h2⟩
 exact ⟨u, rfl, au ls _ _ _ hb h2⟩
theorem Oh {Q : Exit → Act → World → Prop} {l : List Oper} {n : Nat} {T : Nat → World → Value → Prop} {G : World → Prop} {al : List Nat} {a0 : Act} {k d : Nat} {ty : TypeId} {pos : String} {af : Array Edge} {gd : Option (Nat × Bool)} {x : Operand} {ls : List Leaf} (hal : al.contains k = false) (hx : Rg.ji l n T a0 k x (ai ls)) (hT : T k = IfT 74 ls) :
  Rg.Step Tryz.prog Q l n T G gm al a0 k { dst := some d, op := .makeInterface 74 x, type := ty, pos := pos, after := af, guard := gd } := by
 intro a w hG hO hN
 have h := hx a w hO hN
 have hr : (execOp a.eval { dst := some d, op := .makeInterface 74 x, type := ty, pos := pos, after := af, guard := gd }).run Tryz.prog w = .ok (.value (.iface 74 (a.eval x))) w := by
  simp only [execOp]
  simp [go_sem]
 exact pz hr ⟨_, rfl, hG, Below.refl _ _, by rw [hT]; exact ⟨_, rfl, h⟩, fun h => by rw [hal] at h; cases h⟩
theorem atx (u v : Value) (w : World) : (callMethod (.iface 74 u) "Cmp" #[v]).run Tryz.prog w = .ok (.enter 69 #[u, v]) w := by kernel_rfl
theorem Kq {Q : Exit → Act → World → Prop} {l : List Oper} {n : Nat} {T : Nat → World → Value → Prop} {G : World → Prop} {al : List Nat} {a0 : Act} {k d : Nat} {ty : TypeId} {pos : String} {af : Array Edge} {gd : Option (Nat × Bool)} {x y : Operand} {ls : List Leaf} {A : World → Value → Prop} {ats : Array TypeId}
  (hal : al.contains k = false) (Ik : ∀ W W', G W → gm W W' → G W') (hx : Rg.ji l n T a0 k x (IfT 74 ls)) (hy : Rg.ji l n T a0 k y A)
  (hc : ∀ (W : World) (v1 v2 : Value), G W → ai ls W v1 → A W v2 → Calls Tryz.prog 69 #[v1, v2] W fun e w' => ∃ u, e = .returned u ∧ gm W w' ∧ T k w' u) :
  Rg.Step Tryz.prog Q l n T G gm al a0 k { dst := some d, op := .call { callee := .invoke x "Cmp", args := #[y], argTypes := ats }, type := ty, pos := pos, after := af, guard := gd } := by
 intro a w hG hO hN
 obtain ⟨u, e, h⟩ := hx a w hO hN
 have hr : (execOp a.eval { dst := some d, op := .call { callee := .invoke x "Cmp", args := #[y], argTypes := ats }, type := ty, pos := pos, after := af, guard := gd }).run Tryz.prog w = .ok (.enter 69 #[u, a.eval y]) w := by
  have hm := atx u (a.eval y) w
  have he : (#[Value.iface 74 u] ++ #[a.eval y]).extract 1 (#[Value.iface 74 u] ++ #[a.eval y]).size = #[a.eval y] := by simp
  simp only [execOp, resolve, e, invoke, pure_bind, List.map_toArray, List.map_cons, List.map_nil]
  have h0 : (#[Value.iface 74 u] ++ #[a.eval y])[0]? = some (Value.iface 74 u) := by simp
  simp only [h0, he]
  exact hm
 refine Iz hr ?_
 refine (hc w u (a.eval y) hG h (hy a w hO hN)).mono ?_
 rintro e w' ⟨u, rfl, hb, ht⟩
 exact ⟨u, rfl, u, rfl, Ik _ _ hG hb, hb, ht, fun h => by rw [hal] at h; cases h⟩
theorem bgs {l : List Oper} {n : Nat} {T : Nat → World → Value → Prop} {a0 : Act} {k : Nat} (f : Nat) : Rg.ji l n T a0 k (.func f) (Rg.ax (.func (.func f) #[] #[])) := fun _ _ _ _ => rfl
theorem iy (w : World) : gm w w := Below.refl _ _
theorem ahc {P : Program} {Q : Exit → Act → World → Prop} {l : List Oper} {n : Nat} {T : Nat → World → Value → Prop} {G : World → Prop} {E : World → World → Prop} {al : List Nat} {a0 : Act} {k : Nat} {o : Oper} {g : Nat} {d : Tmp} {c : Bool} (hg : o.guard = some (g, c)) (hw : Rg.waits l k g d = true) (hT : T g = Rg.ax undef) (hE : ∀ w, E w w) (hk : al.contains k = false) (hu : T k = Rg.ax undef) : Rg.Ug P Q l n T G E al a0 k o := fun a w hG hO hN => by
 have hv := hN g d hw
 rw [hT] at hv
 have hv' : a.tmps.getD d undef = undef := hv
 have hy : yielded l.toArray a.tmps g = none := by
  have h1 : (l.toArray[g]?).bind (·.dst) = some d := by simpa [Rg.jo] using Rg.Dz hw
  unfold yielded
  rw [h1]
  cases h : a.tmps[d]? with
  | none => simp [h]
  | some v => simp [h] at hv'; simp [h, hv', undef]
 rw [if_neg (by simp [Region.wanted, hg, hy])]
 exact ⟨hE w, by rw [hu]; rfl, fun h => by rw [hk] at h; cases h⟩
abbrev iv (n : Int) : Leaf := .v (.int .i64 n)
abbrev zR : List Leaf := [iv 0, iv 0]
abbrev zS : List Leaf := [iv 0, iv 0, iv 0, iv 0]
abbrev zZ : List Leaf := [iv 0, .v (.bool false), .v (.slice none 0 0)]
abbrev zQ : List Leaf := [iv 0, .v (.bool false), .v (.slice none 0 0), iv 0, .v (.bool false), .v (.slice none 0 0)]
abbrev zE : List Leaf := [iv 0, .v (.bool false), .v (.slice none 0 0), iv 0, .v (.bool false), .v (.slice none 0 0), iv 0, .v (.bool false), .v (.slice none 0 0), iv 0, .v (.bool false), .v (.slice none 0 0)]
abbrev zX : List Leaf := [.v (.slice none 0 0), .v (.bool false), .v (.slice none 0 0), .v (.bool false)]
abbrev zY : List Leaf := [.v (.slice none 0 0), .v (.bool false), .v (.slice none 0 0), .v (.bool false), .v (.slice none 0 0), .v (.bool false), .v (.slice none 0 0), .v (.bool false)]
section
variable {α : Type} {a b c d e f g h : α} {l : List α}
theorem me0 : a ∈ a :: l := List.Mem.head _
theorem ky : b ∈ a :: b :: l := List.Mem.tail _ me0
theorem rf : c ∈ a :: b :: c :: l := List.Mem.tail _ ky
theorem Ed : d ∈ a :: b :: c :: d :: l := List.Mem.tail _ rf
theorem Uk : e ∈ a :: b :: c :: d :: e :: l := List.Mem.tail _ Ed
theorem me5 : f ∈ a :: b :: c :: d :: e :: f :: l := List.Mem.tail _ Uk
theorem me6 : g ∈ a :: b :: c :: d :: e :: f :: g :: l := List.Mem.tail _ me5
end
theorem ag {P : Program} {Q : Exit → Act → World → Prop} {l : List Oper} {n : Nat} {T : Nat → World → Value → Prop} {G : World → Prop} {E : World → World → Prop} {al : List Nat} {a0 : Act} {k : Nat} {o : Oper} {r : List Oper} (h : Rg.Step P Q l n T G E al a0 k o) (hr : Rg.Steps P Q l n T G E al a0 (k + 1) r) (hg : o.guard = none := by rfl) : Rg.Steps P Q l n T G E al a0 k (o :: r) := Rg.ay (Rg.plain hg h) hr
theorem fw {P : Program} {Q : Exit → Act → World → Prop} {l : List Oper} {n : Nat} {T : Nat → World → Value → Prop} {w V : World} {bs : List za} {al : List Nat} {a0 : Act} {k d b off m : Nat} {x : Operand} {TB TL : TypeId} {ls : List Leaf} {ty : TypeId} {pos : String} {af : Array Edge} {gd : Option (Nat × Bool)}
  (hL : Io P TL m) (hm : (b, TB, ls) ∈ bs) (hx : Rg.ji l n T a0 k x (Rg.ax (.pointer (some ⟨b, off, none⟩)))) (pre mid post : List Leaf) (he : ls = pre ++ (mid ++ post) := by rfl) (ho : lsize pre = off := by rfl) (hz : lsize mid = m := by rfl) (hal : al.contains k = false := by rfl) (hT : T k = ai mid := by rfl) :
  Rg.Step P Q l n T (az w bs V) gm al a0 k { dst := some d, op := .load TL x, type := ty, pos := pos, after := af, guard := gd } := xk hL hal hx (fun W h => he ▸ az.box hm h) ho hz hT
theorem jd {P : Program} {ops : Array Oper} {Q : Exit → Act → World → Prop} {rest : List Oper} {a : Act} {w0 w : World} {TL TB : TypeId} {p x : Operand} {m b off : Nat} {bs : List za} {ty : TypeId} {pos : String} {af : Array Edge} (hO : Own w0 bs w) (i : Nat) (pre old new post : List Leaf)
  (hi : bs[i]? = some (b, TB, pre ++ (old ++ post))) (hS : Cv P TL m) (hp : a.eval p = .pointer (some ⟨b, off, none⟩)) (hv : ai new w (a.eval x)) (hm : lsize new = m) (hl : lsize new = lsize old) (ho : off = lsize pre)
  (hk : ∀ w', Own w0 (bs.set i (b, TB, pre ++ (new ++ post))) w' → (∀ ks u, ai ks w u → ai ks w' u) → wpList P ops Q rest a w') :
  wpList P ops Q ({ dst := none, op := .store TL p x, type := ty, pos := pos, after := af, guard := none } :: rest) a w := by
 obtain ⟨hlt, he⟩ := List.getElem?_eq_some_iff.1 hi
 have hbs : bs = bs.take i ++ (b, TB, pre ++ (old ++ post)) :: bs.drop (i + 1) := by
  rw [← he, ← List.drop_eq_getElem_cons hlt, List.take_append_drop]
 have hset : bs.set i (b, TB, pre ++ (new ++ post)) = bs.take i ++ (b, TB, pre ++ (new ++ post)) :: bs.drop (i + 1) := List.set_eq_take_append_cons_drop .. |>.trans (if_pos hlt)
 rw [hset] at hk
 rw [hbs] at hO
 exact aso hS hp hv hO hm hl ho hk
theorem ta0 {α : Type} {n : Nat} {a : α} {l : List α} : (a :: l).take (n + 1) = a :: l.take n := List.take_succ_cons
theorem ta1 {α : Type} {l : List α} : l.take 0 = [] := List.take_zero
theorem ta2 {α : Type} {n : Nat} {a : α} {l : List α} : (a :: l).drop (n + 1) = l.drop n := List.drop_succ_cons
theorem ta3 {α : Type} {l : List α} : l.drop 0 = l := List.drop_zero
theorem ta4 {α : Type} {l : List α} {n : Nat} {a : α} : l.toArray.setIfInBounds n a = (l.set n a).toArray := List.setIfInBounds_toArray ..
theorem ta5 {α : Type} {x a : α} {l : List α} : (x :: l).set 0 a = a :: l := List.set_cons_zero ..
theorem ta6 {α : Type} {x a : α} {l : List α} {n : Nat} : (x :: l).set (n + 1) a = x :: l.set n a := List.set_cons_succ ..
theorem Rp : Hz Tryz.prog 72 3 := by
 intro w b off us hl hc
 match us, hl with
 | [u0, u1, u2], _ =>
 have k0 : w.cell? ⟨b, off, none⟩ = some u0 := hc 0 om
 have k1 : w.cell? ⟨b, off + 1, none⟩ = some u1 := hc 1 om
 have k2 : w.cell? ⟨b, off + 2, none⟩ = some u2 := hc 2 om
 clear hc
 simp [go_sem, k0, k1, k2]
theorem Kw : Hz Tryz.prog 74 6 := by
 intro w b off us hl hc
 match us, hl with
 | [u0, u1, u2, u3, u4, u5], _ =>
 have k0 : w.cell? ⟨b, off, none⟩ = some u0 := hc 0 om
 have k1 : w.cell? ⟨b, off + 1, none⟩ = some u1 := hc 1 om
 have k2 : w.cell? ⟨b, off + 2, none⟩ = some u2 := hc 2 om
 have k3 : w.cell? ⟨b, off + 3, none⟩ = some u3 := hc 3 om
 have k4 : w.cell? ⟨b, off + 4, none⟩ = some u4 := hc 4 om
 have k5 : w.cell? ⟨b, off + 5, none⟩ = some u5 := hc 5 om
 clear hc
 simp [go_sem, k0, k1, k2, k3, k4, k5]
theorem Om : Hz Tryz.prog 108 12 := by
 intro w b off us hl hc
 match us, hl with
 | [u0, u1, u2, u3, u4, u5, u6, u7, u8, u9, u10, u11], _ =>
 have k0 : w.cell? ⟨b, off, none⟩ = some u0 := hc 0 om
 have k1 : w.cell? ⟨b, off + 1, none⟩ = some u1 := hc 1 om
 have k2 : w.cell? ⟨b, off + 2, none⟩ = some u2 := hc 2 om
 have k3 : w.cell? ⟨b, off + 3, none⟩ = some u3 := hc 3 om
 have k4 : w.cell? ⟨b, off + 4, none⟩ = some u4 := hc 4 om
 have k5 : w.cell? ⟨b, off + 5, none⟩ = some u5 := hc 5 om
 have k6 : w.cell? ⟨b, off + 6, none⟩ = some u6 := hc 6 om
 have k7 : w.cell? ⟨b, off + 7, none⟩ = some u7 := hc 7 om
 have k8 : w.cell? ⟨b, off + 8, none⟩ = some u8 := hc 8 om
 have k9 : w.cell? ⟨b, off + 9, none⟩ = some u9 := hc 9 om
 have k10 : w.cell? ⟨b, off + 10, none⟩ = some u10 := hc 10 om
 have k11 : w.cell? ⟨b, off + 11, none⟩ = some u11 := hc 11 om
 clear hc
 simp [go_sem, k0, k1, k2, k3, k4, k5, k6, k7, k8, k9, k10, k11]
theorem qg : Hz Tryz.prog 41 4 := by
 intro w b off us hl hc
 match us, hl with
 | [u0, u1, u2, u3], _ =>
 have k0 : w.cell? ⟨b, off, none⟩ = some u0 := hc 0 om
 have k1 : w.cell? ⟨b, off + 1, none⟩ = some u1 := hc 1 om
 have k2 : w.cell? ⟨b, off + 2, none⟩ = some u2 := hc 2 om
 have k3 : w.cell? ⟨b, off + 3, none⟩ = some u3 := hc 3 om
 clear hc
 simp [go_sem, k0, k1, k2, k3]
theorem ate {ρ : Operand → Value} {w : World} {d : Option Tmp} {x y : Operand} {o z : Int} {ty : TypeId} {pos : String} {af : Array Edge} {gd : Option (Nat × Bool)} (h : ρ x = .int .i64 o) (h' : ρ y = .int .i64 z) :
  (execOp ρ { dst := d, op := .binOp .eql 24 x y 24, type := ty, pos := pos, after := af, guard := gd }).run Tryz.prog w = .ok (.value (.bool (o == z))) w := by
 simp only [execOp, h, h']
 simp [go_sem, Tryz.underlying24]
theorem Ju {Q : Exit → Act → World → Prop} {l : List Oper} {n : Nat} {T : Nat → World → Value → Prop} {G : World → Prop} {al : List Nat} {a0 : Act} {k d : Nat} {ty : TypeId} {pos : String} {af : Array Edge} {gd : Option (Nat × Bool)} {x y : Operand} {o z : Int} {b : Bool}
  (hal : al.contains k = false) (hx : Rg.ji l n T a0 k x (Rg.ax (.int .i64 o))) (hy : Rg.ji l n T a0 k y (Rg.ax (.int .i64 z))) (hT : T k = Rg.ax (.bool b)) (hb : (o == z) = b) : Rg.Step Tryz.prog Q l n T G gm al a0 k { dst := some d, op := .binOp .eql 24 x y 24, type := ty, pos := pos, after := af, guard := gd } := by
 intro a w hG hO hN
 exact pz (P := Tryz.prog) (ate (hx a w hO hN) (hy a w hO hN)) ⟨_, rfl, hG, Below.refl _ _, by rw [hT, hb]; rfl, fun h => by rw [hal] at h; cases h⟩
theorem atc {ρ : Operand → Value} {w : World} {d : Option Tmp} {x y : Operand} {o z : Int} {ty : TypeId} {pos : String} {af : Array Edge} {gd : Option (Nat × Bool)} (h : ρ x = .int .i64 o) (h' : ρ y = .int .i64 z) :
  (execOp ρ { dst := d, op := .binOp .neq 24 x y 24, type := ty, pos := pos, after := af, guard := gd }).run Tryz.prog w = .ok (.value (.bool (o != z))) w := by
 simp only [execOp, h, h']
 simp [go_sem, Tryz.underlying24]
theorem Au {Q : Exit → Act → World → Prop} {l : List Oper} {n : Nat} {T : Nat → World → Value → Prop} {G : World → Prop} {al : List Nat} {a0 : Act} {k d : Nat} {ty : TypeId} {pos : String} {af : Array Edge} {gd : Option (Nat × Bool)} {x y : Operand} {o z : Int} {b : Bool}
  (hal : al.contains k = false) (hx : Rg.ji l n T a0 k x (Rg.ax (.int .i64 o))) (hy : Rg.ji l n T a0 k y (Rg.ax (.int .i64 z))) (hT : T k = Rg.ax (.bool b)) (hb : (o != z) = b) : Rg.Step Tryz.prog Q l n T G gm al a0 k { dst := some d, op := .binOp .neq 24 x y 24, type := ty, pos := pos, after := af, guard := gd } := by
 intro a w hG hO hN
 exact pz (P := Tryz.prog) (atc (hx a w hO hN) (hy a w hO hN)) ⟨_, rfl, hG, Below.refl _ _, by rw [hT, hb]; rfl, fun h => by rw [hal] at h; cases h⟩
end Sb

end Go.Proofs.YtjdnmdlnaoedoaaGreatDoor
namespace Go.Proofs.YtjdnmdlnaoedoaaGreatDoor
open Go.RowKit

namespace Sb
theorem ahn : ∀ {bs : List za} {b : Nat} {x y : TypeId × List Leaf}, (bs.map Prod.fst).Nodup → (b, x) ∈ bs → (b, y) ∈ bs → x = y
 | [], _, _, _, _, h, _ => by cases h
 | e :: bs, b, x, y, hn, hx, hy => by
  rw [List.map_cons, List.nodup_cons] at hn
  rcases List.mem_cons.1 hx with h1 | h1 <;> rcases List.mem_cons.1 hy with h2 | h2
  ·
   rw [← h1] at h2; cases h2; rfl
  ·
   rw [← h1] at hn; exact absurd (List.mem_map.2 ⟨_, h2, rfl⟩) hn.1
  ·
   rw [← h2] at hn; exact absurd (List.mem_map.2 ⟨_, h1, rfl⟩) hn.1
  ·
   exact ahn hn.2 h1 h2
end Sb
namespace Sb
def ES (e1 e2 : za) (w w' : World) : Prop := gm w w' ∨ ∃ (e : za) (us cs : List Value), (e = e1 ∨ e = e2) ∧ gu w e.2.2 us ∧ w.heap[e.1]? = some (.cells cs.toArray e.2.1 (0, 0)) ∧ Fv cs ∧ us.length = cs.length ∧ w' = setM w e.1 0 us
theorem ES.refl (e1 e2 : za) (w : World) : ES e1 e2 w w := .inl (Below.refl _ _)
theorem Dk {e1 e2 : za} (c : Value) : Rg.Em (ES e1 e2) (Rg.ax c) := fun _ _ _ _ h => h
theorem tq {e1 e2 : za} (ls : List Leaf) : Rg.Em (ES e1 e2) (ai ls) := by
 rintro w w' v (hb | ⟨e, us, cs, _, h1, h2, h3, h4, rfl⟩) h
 ·
  exact au ls _ _ _ hb h
 ·
  obtain ⟨ds, rfl, h⟩ := h
  exact ⟨ds, rfl, h.upto h2 h3 (zm e.1 us 0 w w (ug _ _))⟩
theorem Gl.baz {E : World → World → Prop} {W W' : World} (hb : E W W') : ∀ {ts : List (World → Value → Prop)} {vs : List Value}, Rg.fq E ts → Gl W ts vs → Gl W' ts vs
 | [], _, _, h => h
 | _ :: ts, _, hs, ⟨u, r, e, h1, h2⟩ => ⟨u, r, e, hs.1 _ _ _ hb h1, Gl.baz hb (ts := ts) hs.2 h2⟩
theorem aoh {e1 e2 : za} {ts : List (World → Value → Prop)} (hs : Rg.fq (ES e1 e2) ts) : Rg.Em (ES e1 e2) (qa ts) := by
 rintro w w' v hb ⟨vs, rfl, h⟩
 exact ⟨vs, rfl, h.baz hb hs⟩
def Wo (e : za) : World → Value → Prop := fun W _ => Ce W e.1 e.2.1 e.2.2
theorem Eb {W : World} {b : Nat} {T : TypeId} {us cs : List Value} (h : W.heap[b]? = some (.cells cs.toArray T (0, 0))) (hl : us.length = cs.length) : (setM W b 0 us).heap[b]? = some (.cells us.toArray T (0, 0)) := by
 have := Su (T := T) us cs [] [] W hl (by simpa using h)
 simpa using this
theorem Fq {e1 e2 e : za} (h12 : e1.1 ≠ e2.1 ∨ e1 = e2) (he : e = e1 ∨ e = e2) : Rg.Em (ES e1 e2) (Wo e) := by
 rintro w w' v (hb | ⟨e', us, cs, h0, h1, h2, h3, h4, rfl⟩) h
 ·
  exact Ce.below h hb
 ·
  have hg := zm e'.1 us 0 w w (ug _ _)
  by_cases hbb : e.1 = e'.1
  ·
   have hee : e = e' := by
    rcases he with rfl | rfl <;> rcases h0 with rfl | rfl
    ·
     rfl
    ·
     rcases h12 with h12 | h12
     ·
      exact absurd hbb h12
     ·
      exact h12
    ·
     rcases h12 with h12 | h12
     ·
      exact absurd hbb.symm h12
     ·
      exact h12.symm
    ·
     rfl
   subst hee
   exact ⟨us, Eb h2 h4, h1.upto h2 h3 hg⟩
  ·
   obtain ⟨ds, g1, g2⟩ := h
   exact ⟨ds, (hg.block e.1 (lt_of_block g1) (fun x => hbb (by injection x))).trans g1, g2.upto h2 h3 hg⟩
structure GS (w : World) (bs : List za) (e1 e2 : za) (W : World) : Prop where
 bel : Below w.heap.size w W
 box : ∀ b T ls, (b, T, ls) ∈ bs → w.heap.size ≤ b ∧ (Ce W b T ls ∨ ∃ e : za, (e = e1 ∨ e = e2) ∧ e.1 = b ∧ Ce W b T e.2.2)
theorem GS.step {w : World} {bs : List za} {e1 e2 : za} : ∀ W W', GS w bs e1 e2 W → gm W W' → GS w bs e1 e2 W' := fun W W' h hb => ⟨bz h.bel hb, fun b T ls hm => by
 obtain ⟨h1, h2⟩ := h.box b T ls hm
 refine ⟨h1, ?_⟩
 rcases h2 with h2 | ⟨e, h3, h4, h5⟩
 ·
  exact .inl (h2.below hb)
 ·
  exact .inr ⟨e, h3, h4, h5.below hb⟩⟩
theorem GS.start {w V : World} {bs : List za} {e1 e2 : za} (h : Own w bs V) : GS w bs e1 e2 V.drew := ⟨(Own.step _ _ h (gm.drew V)).bel, fun b T ls hm => ⟨(h.box b T ls hm).1, .inl ((h.box b T ls hm).2.below (gm.drew V))⟩⟩
theorem GS.get {w W : World} {bs : List za} {e1 e2 : za} {b : Nat} {T : TypeId} {ls : List Leaf} (hm : (b, T, ls) ∈ bs) (h1 : e1.1 = b → e1.2.2 = ls) (h2 : e2.1 = b → e2.2.2 = ls) (h : GS w bs e1 e2 W) : Ce W b T ls := by
 rcases (h.box b T ls hm).2 with g | ⟨e, rfl | rfl, g1, g2⟩
 ·
  exact g
 ·
  rwa [h1 g1] at g2
 ·
  rwa [h2 g1] at g2
theorem mq {P : Program} {Q : Exit → Act → World → Prop} {l : List Oper} {n : Nat} {T : Nat → World → Value → Prop} {G : World → Prop} {e1 e2 : za} {al : List Nat} {a0 : Act} {k : Nat} {o : Oper} (h : Rg.Step P Q l n T G gm al a0 k o) : Rg.Step P Q l n T G (ES e1 e2) al a0 k o := by
 intro a w hG hO hN
 refine Oper.wp_mono (fun a' w' hK => ?_) (h a w hG hO hN)
 obtain ⟨v, h1, h2, h3, h4, h5⟩ := hK
 exact ⟨v, h1, h2, .inl h3, h4, h5⟩
theorem Fs {P : Program} {Q : Exit → Act → World → Prop} {l : List Oper} {n : Nat} {T : Nat → World → Value → Prop} {w0 : World} {bs : List za} {e1 e2 : za} {al : List Nat} {a0 : Act} {k m : Nat} {TL TB : TypeId} {p x : Operand} {b : Nat} {old new : List Leaf} {ty : TypeId} {pos : String} {af : Array Edge} {gd : Option (Nat × Bool)}
  (hS : Cv P TL m) (hal : al.contains k = false) (hp : Rg.ji l n T a0 k p (Rg.ax (.pointer (some ⟨b, 0, none⟩)))) (hx : Rg.ji l n T a0 k x (ai new))
  (hm : (b, TB, old) ∈ bs) (hnd : (bs.map Prod.fst).Nodup) (he : ((b, TB, new) : za) = e1 ∨ ((b, TB, new) : za) = e2) (h12 : e1.1 ≠ e2.1 ∨ e1 = e2) (hn : lsize new = m) (ho : lsize old = m) (hT : T k = Wo (b, TB, new)) :
  Rg.Step P Q l n T (GS w0 bs e1 e2) (ES e1 e2) al a0 k { dst := none, op := .store TL p x, type := ty, pos := pos, after := af, guard := gd } := by
 intro a w hG hO hN
 obtain ⟨us, ex, hu⟩ := hx a w hO hN
 obtain ⟨hge, bkq⟩ := hG.box b TB old hm
 have hB : ∃ ls, lsize ls = m ∧ Ce w b TB ls := by
  rcases bkq with g | ⟨e, ge, gb, g⟩
  ·
   exact ⟨old, ho, g⟩
  ·
   refine ⟨e.2.2, ?_, g⟩
   have : e = ((b, TB, new) : za) := by
    rcases ge with rfl | rfl <;> rcases he with rfl | rfl
    ·
     rfl
    ·
     rcases h12 with h12 | h12
     ·
      exact absurd gb h12
     ·
      exact h12
    ·
     rcases h12 with h12 | h12
     ·
      exact absurd gb.symm h12
     ·
      exact h12.symm
    ·
     rfl
   rw [this]; exact hn
 obtain ⟨ls, hls, cs, hb, hcs⟩ := hB
 have hlen : us.length = cs.length := by rw [hu.len, hcs.len, hn, hls]
 have hr := hS a.eval w none p x b 0 cs TB us ty pos af gd (by rw [hu.len, hn]) (fun u h => (hu.noW u h).2.1) hb (by rw [hcs.len, hls]; omega) (hp a w hO hN) ex
 unfold Oper.wp
 rw [hr]
 have hg := zm b us 0 w w (ug _ _)
 have hnw := hcs.noW
 refine ⟨undef, rfl, ⟨hG.bel.grown hg hG.bel.size (fun k hk => by injection hk with hk; omega), fun b' T' ls' hm' => ?_⟩, .inr ⟨(b, TB, new), us, cs, by rcases he with h | h; exact .inl h; exact .inr h, hu, hb, hnw, hlen, rfl⟩, ?_, fun h => by rw [hal] at h; cases h⟩
 ·
  obtain ⟨k1, k2⟩ := hG.box b' T' ls' hm'
  refine ⟨k1, ?_⟩
  by_cases hbb : b' = b
  ·
   subst hbb
   have : (T', ls') = (TB, old) := by
    exact ahn hnd hm' hm
   obtain ⟨rfl, rfl⟩ := Prod.mk.inj this
   exact .inr ⟨(b', T', new), by rcases he with h | h; exact .inl h; exact .inr h, rfl, us, Eb hb hlen, hu.upto hb hnw hg⟩
  ·
   have keep : ∀ ls, Ce w b' T' ls → Ce (setM w b 0 us) b' T' ls := fun ls ⟨ds, g1, g2⟩ => ⟨ds, (hg.block b' (lt_of_block g1) (fun x => hbb (by injection x))).trans g1, g2.upto hb hnw hg⟩
   rcases k2 with k2 | ⟨e, k3, k4, k5⟩
   ·
    exact .inl (keep _ k2)
   ·
    exact .inr ⟨e, k3, k4, keep _ k5⟩
 ·
  rw [hT]
  exact ⟨us, Eb hb hlen, hu.upto hb hnw hg⟩
end Sb

end Go.Proofs.YtjdnmdlnaoedoaaGreatDoor
namespace Go.Proofs.YtjdnmdlnaoedoaaGreatDoor
namespace Rg

def slB (l : List Oper) (n : Nat) (sl : Nat → Tmp) : Bool := (List.range n).all fun k => (jo l k).isSome || (List.range n).any fun j => waits l k j (sl k)
def abf (P : Program) (Q : Exit → Act → World → Prop) (l : List Oper) (n : Nat) (sl : Nat → Tmp) (T : Nat → World → Value → Prop) (G : World → Prop) (E : World → World → Prop) (a0 : Act) (k : Nat) (o : Oper) : Prop :=
 o.guard = none ∧ ∀ (a : Act) (w : World), G w → (∀ t, Gi l n t = true → a.tmps.getD t undef = a0.tmps.getD t undef) → (∀ j d, waits l k j d = true → T j w (a.tmps.getD d undef)) →
  o.wp P a w (fun a' w' => ∃ v, a' = a.put o.dst v ∧ G w' ∧ E w w' ∧ T k w' v ∧ (o.dst = none → v = a.tmps.getD (sl k) undef)) Q
def Mt (P : Program) (Q : Exit → Act → World → Prop) (l : List Oper) (n : Nat) (sl : Nat → Tmp) (T : Nat → World → Value → Prop) (G : World → Prop) (E : World → World → Prop) (a0 : Act) : Nat → List Oper → Prop
 | _, [] => True
 | k, o :: r => abf P Q l n sl T G E a0 k o ∧ Mt P Q l n sl T G E a0 (k + 1) r
section
variable {P : Program} {Q : Exit → Act → World → Prop} {l : List Oper} {n sz : Nat} {sl : Nat → Tmp} {T : Nat → World → Value → Prop} {G : World → Prop} {E : World → World → Prop} {a0 : Act}
theorem rz {k : Nat} {o : Oper} {r : List Oper} (h : abf P Q l n sl T G E a0 k o) (hr : Mt P Q l n sl T G E a0 (k + 1) r) : Mt P Q l n sl T G E a0 k (o :: r) := ⟨h, hr⟩
theorem aaa {k : Nat} : Mt P Q l n sl T G E a0 k [] := trivial
theorem zk {k : Nat} {o : Oper} (hg : o.guard = none) (hd : o.dst.isSome = true) (h : Step P Q l n T G E [] a0 k o) : abf P Q l n sl T G E a0 k o :=
 ⟨hg, fun a w hG hO hN => Oper.wp_mono (fun a' w' hK => by
  obtain ⟨v, h1, h2, h3, h4, _⟩ := hK
  exact ⟨v, h1, h2, h3, h4, fun e => by rw [e] at hd; cases hd⟩) (h a w hG hO hN)⟩
theorem Mt.get : ∀ {r : List Oper} {k : Nat}, Mt P Q l n sl T G E a0 k r → ∀ {i : Nat} {o : Oper}, r[i]? = some o → abf P Q l n sl T G E a0 (k + i) o
 | [], _, _, i, o, h => by simp at h
 | o' :: r, k, hs, 0, o, h => by
  have : o' = o := by simpa using h
  subst this; exact hs.1
 | o' :: r, k, hs, i + 1, o, h => by
  have := Mt.get hs.2 (i := i) (o := o) (by simpa using h)
  rwa [show k + 1 + i = k + (i + 1) by omega] at this
structure TG (l : List Oper) (n : Nat) (sl : Nat → Tmp) (T : Nat → World → Value → Prop) (G : World → Prop) (a0 : Act) (S : Nat → Prop) (a : Act) (w : World) : Prop where
 defers : a.defers = a0.defers
 size : a.tmps.size = a0.tmps.size
 old : ∀ t, Gi l n t = true → a.tmps.getD t undef = a0.tmps.getD t undef
 new : ∀ k d, k < n → S k → jo l k = some d → T k w (a.tmps.getD d undef)
 nod : ∀ k, k < n → S k → jo l k = none → T k w (a.tmps.getD (sl k) undef)
 cl : ∀ k j d, k < n → S k → waits l k j d = true → S j
 good : G w
theorem TG.finish {a : Act} {w : World} (hsz : a0.tmps.size = sz) (hds : ∀ i j d, i < n → j < n → jo l i = some d → jo l j = some d → d < sz ∧ j = i)
  {S : Nat → Prop} (hall : ∀ k, k < n → S k) (inv : TG l n sl T G a0 S a w) : ∃ v : Nat → Value, a = puts v 0 (l.take n) a0 ∧ (∀ k, k < n → T k w (v k)) ∧ ∀ k j, k < n → j < n → jo l k = none → jo l j = some (sl k) → v k = v j := by
 have hv : ∃ v : Nat → Value, (∀ k d, jo l k = some d → v k = a.tmps.getD d undef) ∧ ∀ k, jo l k = none → v k = a.tmps.getD (sl k) undef :=
  ⟨fun k => match jo l k with | some d => a.tmps.getD d undef | none => a.tmps.getD (sl k) undef, fun k d h => by simp only [h], fun k h => by simp only [h]⟩
 obtain ⟨v, hv1, hv2⟩ := hv
 refine ⟨v, ?_, fun k hk => ?_, fun k j hk hj h1 h2 => by rw [hv2 k h1, hv1 j _ h2]⟩
 rotate_left
 ·
  cases hd : jo l k with
  | none => rw [hv2 k hd]; exact inv.nod k hk (hall k hk) hd
  | some d => rw [hv1 k d hd]; exact inv.new k d hk (hall k hk) hd
 refine acm (by rw [inv.defers, Lj]) (by rw [inv.size, Qk]) (fun t => ?_)
 by_cases ht : ∃ k, k < n ∧ jo l k = some t
 ·
  obtain ⟨k, hk, hkt⟩ := ht
  have hdt : ∀ j, jo (l.take n) j = some t → j = k := fun j hj => (hds k j t hk (Fu hj).1 hkt (Fu hj).2).2
  rw [Tc v t (l.take n) 0 k a0 (by unfold jo at hkt ⊢; rwa [List.getElem?_take_of_lt hk]) hdt (by rw [hsz]; exact (hds k k t hk hk hkt hkt).1), Nat.zero_add]
  exact (hv1 k t hkt).symm
 ·
  have hf : Gi l n t = true := List.all_eq_true.2 (fun o ho => by
   obtain ⟨k, hk⟩ := List.getElem?_of_mem ho
   have hkn : k < n := by
    rcases Nat.lt_or_ge k n with h | h
    ·
     exact h
    ·
     rw [List.getElem?_eq_none (by simp; omega)] at hk; cases hk
   rw [List.getElem?_take_of_lt hkn] at hk
   simp only [bne_iff_ne]
   intro h
   exact ht ⟨k, hkn, by unfold jo; rw [hk]; exact h⟩)
  rw [inv.old t hf, Oy v t (l.take n) 0 a0 (fun j hj => ht ⟨j, Fu hj⟩)]
theorem TG.step {a : Act} {w w2 : World} {S : Nat → Prop} {i : Nat} {o : Oper} {v : Value} (hsz : a0.tmps.size = sz) (hds : ∀ i j d, i < n → j < n → jo l i = some d → jo l j = some d → d < sz ∧ j = i)
  (hsl : ∀ k, k < n → jo l k = none → ∃ j, j < n ∧ waits l k j (sl k) = true) (hT : ∀ k w w' v, E w w' → T k w v → T k w' v) (inv : TG l n sl T G a0 S a w) (hin : i < n) (ho : l[i]? = some o) (Mj : ¬ S i) (hwt : ∀ j d, waits l i j d = true → S j) (hG : G w2) (hE : E w w2) (Ij : T i w2 v) (hno : o.dst = none → v = a.tmps.getD (sl i) undef) :
  TG l n sl T G a0 (fun k => k = i ∨ S k) (a.put o.dst v) w2 := by
 have hdi : jo l i = o.dst := by unfold jo; rw [ho]; rfl
 refine ⟨by rw [put_defers]; exact inv.defers, by rw [Td]; exact inv.size, fun t ht => ?_, fun k d hk hl hd => ?_, fun k hk hl hd => ?_, fun k j d hk hl hw => ?_, hG⟩
 ·
  rw [Hl _ _ _ _ (ahe ht hin ho)]; exact inv.old t ht
 ·
  by_cases hki : k = i
  ·
   subst hki
   rw [hdi] at hd
   rw [hd, Rl _ _ _ (by rw [inv.size, hsz]; exact (hds k k d hk hk (by rw [hdi]; exact hd) (by rw [hdi]; exact hd)).1)]
   exact Ij
  ·
   rw [Hl _ _ _ _ (fun h => hki ((hds i k d hin hk (by rw [hdi]; exact h) hd).2))]
   exact hT k w w2 _ hE (inv.new k d hk (hl.resolve_left hki) hd)
 ·
  by_cases hki : k = i
  ·
   subst hki
   have hon : o.dst = none := by rw [← hdi]; exact hd
   rw [hon, show (a.put none v) = a from rfl, ← hno hon]
   exact Ij
  ·
   have hSk := hl.resolve_left hki
   obtain ⟨j, hj, hw⟩ := hsl k hk hd
   have hSj := inv.cl k j _ hk hSk hw
   have hji : j ≠ i := fun e => Mj (e ▸ hSj)
   rw [Hl _ _ _ _ (fun h => hji ((hds i j _ hin hj (by rw [hdi]; exact h) (Dz hw)).2))]
   exact hT k w w2 _ hE (inv.nod k hk hSk hd)
 ·
  by_cases hki : k = i
  ·
   subst hki; exact .inr (hwt j d hw)
  ·
   exact .inr (inv.cl k j d hk (hl.resolve_left hki) hw)
theorem TG.mono {a : Act} {w : World} {S S' : Nat → Prop} (inv : TG l n sl T G a0 S a w) (h : ∀ k, k < n → (S' k ↔ S k)) (hb : ∀ k j d, k < n → waits l k j d = true → j < n) : TG l n sl T G a0 S' a w :=
 ⟨inv.defers, inv.size, inv.old, fun k d hk hs hd => inv.new k d hk ((h k hk).1 hs) hd, fun k hk hs hd => inv.nod k hk ((h k hk).1 hs) hd, fun k j d hk hs hw => (h j (hb k j d hk hw)).2 (inv.cl k j d hk ((h k hk).1 hs) hw), inv.good⟩
end
theorem ajo {P : Program} {id : Nat} {Q : Exit → Act → World → Prop} {a : Act} {w : World} {l : List Oper} (n sz : Nat) (sl : Nat → Tmp) (T : Nat → World → Value → Prop) (G : World → Prop) (E : World → World → Prop)
  (hm : P.follows .mixedOrders = true) (hB : okB l n sz = true) (hS1 : slB l n sl = true) (hsz : a.tmps.size = sz)
  (hT : ∀ k w w' v, E w w' → T k w v → T k w' v) (hG : G w.drew)
  (hS : Mt P Q l n sl T G E a 0 (l.take n))
  (hend : ∀ (v : Nat → Value) (w' : World), G w' → (∀ k, k < n → T k w' (v k)) → (∀ k j, k < n → j < n → jo l k = none → jo l j = some (sl k) → v k = v j) → wpList P l.toArray Q (l.drop n) (puts v 0 (l.take n) a) w') :
  (Code.region id l.toArray true).wp P Q a w := by
 simp only [okB, Bool.and_eq_true, Bool.or_eq_true, decide_eq_true_eq] at hB
 obtain ⟨⟨⟨⟨hn, aaw⟩, hback⟩, Nu⟩, hseq⟩ := hB
 have hget : ∀ k, k < n → ∃ o, l[k]? = some o := fun k hk => ⟨l[k]'(by omega), List.getElem?_eq_getElem om⟩
 have hbk := Nz hback
 have hds := Ny Nu
 have hsl : ∀ k, k < n → jo l k = none → ∃ j, j < n ∧ waits l k j (sl k) = true := fun k hk hd => by
  have h1 := List.all_eq_true.1 hS1 k (List.mem_range.2 hk)
  simp only [hd, Option.isSome_none, Bool.false_or, List.any_eq_true, List.mem_range] at h1
  exact h1
 have hwb : ∀ k j d, k < n → waits l k j d = true → j < n := fun k j d hk hw => by
  simp only [waits, Bool.and_eq_true, beq_iff_eq] at hw
  obtain ⟨oj, hoj, e, he, hb, hon⟩ := Region.waitsFor_spec hw.1
  have := hbk k oj hk (by simpa using hoj) e he hb
  omega
 refine wp_region_any hm ?_
 have key : ∀ (f : Nat) (L : Array Bool) (a' : Act) (w' : World), HeadInv .any l.toArray n L → TG l n sl T G a (fun k => L.getD k false = true) a' w' → cnt L n = f → wpAny P .any l.toArray Q (f + (l.length - n)) L a' w' := by
  intro f
  induction f with
  | zero =>
   intro L a' w' head inv hc
   have hall := Pv hc
   have hL : L = full n (l.length - n) := by
    have hs := head.size
    refine Array.ext (by simp [full, hs]; omega) (fun i h1 h2 => ?_)
    by_cases hi : i < n
    ·
     have g := hall i hi
     simp [h1] at g
     simp [full, hi, g]
    ·
     have g := head.tail i om (by rw [← hs]; exact h1)
     simp [h1] at g
     simp [full, Array.getElem_append, hi, g]
   obtain ⟨v, he, hv, Gu⟩ := inv.finish hsz hds (fun k hk => by rw [hL]; simp [full, Array.getElem?_append, hk])
   rw [he, Nat.zero_add]
   have hlen : (l.drop n).length = l.length - n := by simp
   rw [← hlen]
   exact wpAny_of_seq (md := .any) (ops := l.toArray) (Q' := Q) (l.drop n) n L _ w' (fun j => by simp [List.getElem?_drop]) (by rw [hlen, hL]; exact hseq)
    (hend v w' inv.good hv Gu)
  | succ f ih =>
   intro L a' w' head inv hc
   obtain ⟨i0, hi0, Vo, hle0⟩ := Xm (L := L) (m := n) om
   have Yi : L.size = l.length := by rw [head.size]; simp
   rw [show f + 1 + (l.length - n) = (f + (l.length - n)) + 1 by omega]
   refine ⟨fun hr => ?_, fun i hi => ?_⟩
   ·
    exfalso
    obtain ⟨o, ho⟩ := hget i0 hi0
    have : i0 ∈ Region.ready .any l.toArray L := mem_ready.2 ⟨Vo, o, by simpa using ho, fun e he hb => by
     have hlt := hbk i0 o hi0 ho e he hb
     have h1 := hle0 e.on hlt
     simp [show e.on < L.size by rw [Yi]; omega] at h1
     simp [show e.on < L.size by rw [Yi]; omega, h1]⟩
    rw [hr] at this; cases this
   ·
    obtain ⟨hun, o, ho, aau⟩ := mem_ready.1 hi
    have ho' : l[i]? = some o := by simpa using ho
    have hil : i < l.length := by
     have := (Array.getElem?_eq_some_iff.1 ho).1
     simpa using this
    have hin : i < n := by
     rcases Nat.lt_or_ge i n with h | h
     ·
      exact h
     ·
      exfalso
      rcases aaw with he | ⟨hs, hch⟩
      ·
       omega
      ·
       exact tail_waits hs hch (by simp only [List.size_toArray]; omega) head _ i0 rfl hi0 Vo i h hi
    have hst := hS.get (i := i) (o := o) (by rw [List.getElem?_take_of_lt hin]; exact ho')
    rw [Nat.zero_add] at hst
    have hdone : ∀ j d, waits l i j d = true → L.getD j false = true := fun j d hjd => by
     simp only [waits, Bool.and_eq_true, beq_iff_eq] at hjd
     obtain ⟨oj, hoj, e, he, hb, hon⟩ := Region.waitsFor_spec hjd.1
     have : oj = o := Option.some.inj (hoj.symm.trans ho)
     subst this
     have hlj := aau e he hb
     rwa [hon] at hlj
    have hw := hst.2 a' w' inv.good inv.old (fun j d hjd => inv.new j d (hwb i j d hin hjd) (hdone j d hjd) (Dz hjd))
    have Mj : ¬ L.getD i false = true := fun h => by rw [getD_both hun] at h; cases h
    have go : ∀ v w2, G w2 → E w' w2 → T i w2 v → (o.dst = none → v = a'.tmps.getD (sl i) undef) → wpAny P .any l.toArray Q (f + (l.length - n)) (L.setIfInBounds i true) (a'.put o.dst v) w2 := by
     intro v w2 hg2 hE Ij hno
     refine ih (L.setIfInBounds i true) _ w2 (head.set hi hin) ((inv.step hsz hds hsl hT hin ho' Mj hdone hg2 hE Ij hno).mono (fun k hk => ?_) hwb) (by have := Xk hun (m := n) hin; omega)
     by_cases hki : k = i
     ·
      subst hki
      exact ⟨fun _ => .inl rfl, fun _ => by simp [show k < L.size by rw [Yi]; omega]⟩
     ·
      rw [getD_set_ne false (Ne.symm hki)]
      exact ⟨fun h => .inr h, fun h => h.resolve_left hki⟩
    unfold wpOp
    simp only [ho]
    split
    ·
     refine .inl (Oper.wp_mono (fun a2 w2 hK => ?_) hw)
     obtain ⟨v, rfl, hg2, hE, Ij, hno⟩ := hK
     exact go v w2 hg2 hE Ij hno
    ·
     rename_i hwd
     exact absurd (by simp [Region.wanted, hst.1]) hwd
 have h0 := key n (Array.replicate l.length false) a w.drew
  ⟨by simp, fun j oj _ hl => (by rw [getD_replicate_false] at hl; cases hl), fun t _ ht => getD_in (by simpa using ht) (getD_replicate_false _ _)⟩
  ⟨rfl, rfl, fun _ _ => rfl, fun k d _ hs _ => (by rw [getD_replicate_false] at hs; cases hs), fun k _ hs _ => (by rw [getD_replicate_false] at hs; cases hs), fun k j d _ hs _ => (by rw [getD_replicate_false] at hs; cases hs), hG⟩ (Xl _ hn)
 rw [show n + (l.length - n) = l.length by omega] at h0
 have hsz2 : l.toArray.size = l.length := by simp
 rw [hsz2]
 exact h0
end Rg
end Go.Proofs.YtjdnmdlnaoedoaaGreatDoor
namespace Go.Proofs.YtjdnmdlnaoedoaaGreatDoor
namespace Rg

def uv (l : List Oper) (sl : Nat → Tmp) (a : Act) (k : Nat) : Value := match jo l k with | some d => a.tmps.getD d undef | none => a.tmps.getD (sl k) undef
theorem Wz {l : List Oper} {sl : Nat → Tmp} {a : Act} {k : Nat} {d : Tmp} (h : jo l k = some d) : uv l sl a k = a.tmps.getD d undef := by unfold uv; rw [h]
def Qv (P : Program) (Q : Exit → Act → World → Prop) (l : List Oper) (n : Nat) (sl : Nat → Tmp) (T : Nat → World → Value → Prop) (G : World → Prop) (E : World → World → Prop) (J : (Nat → Prop) → (Nat → Value) → World → Prop) (a0 : Act) (k : Nat) (o : Oper) : Prop :=
 o.guard = none ∧ ∀ (a : Act) (w : World), G w → (∀ t, Gi l n t = true → a.tmps.getD t undef = a0.tmps.getD t undef) → (∀ j d, waits l k j d = true → T j w (a.tmps.getD d undef)) → (∃ S u, J S u w ∧ ¬ S k ∧ ∀ j d, waits l k j d = true → S j ∧ u j = a.tmps.getD d undef) →
  o.wp P a w (fun a' w' => ∃ v, a' = a.put o.dst v ∧ G w' ∧ E w w' ∧ T k w' v ∧ (o.dst = none → v = a.tmps.getD (sl k) undef) ∧
   (∀ S u u', J S u w → (∀ j, j < n → S j → u' j = u j) → (o.dst ≠ none → u' k = v) → ¬ S k → (∀ j d, waits l k j d = true → S j ∧ u j = a.tmps.getD d undef) → J (fun j => j = k ∨ S j) u' w')) Q
def Ms (P : Program) (Q : Exit → Act → World → Prop) (l : List Oper) (n : Nat) (sl : Nat → Tmp) (T : Nat → World → Value → Prop) (G : World → Prop) (E : World → World → Prop) (J : (Nat → Prop) → (Nat → Value) → World → Prop) (a0 : Act) : Nat → List Oper → Prop
 | _, [] => True
 | k, o :: r => Qv P Q l n sl T G E J a0 k o ∧ Ms P Q l n sl T G E J a0 (k + 1) r
section
variable {P : Program} {Q : Exit → Act → World → Prop} {l : List Oper} {n sz : Nat} {sl : Nat → Tmp} {T : Nat → World → Value → Prop} {G : World → Prop} {E : World → World → Prop} {J : (Nat → Prop) → (Nat → Value) → World → Prop} {a0 : Act}
theorem ja {k : Nat} {o : Oper} {r : List Oper} (h : Qv P Q l n sl T G E J a0 k o) (hr : Ms P Q l n sl T G E J a0 (k + 1) r) : Ms P Q l n sl T G E J a0 k (o :: r) := ⟨h, hr⟩
theorem Jt {k : Nat} : Ms P Q l n sl T G E J a0 k [] := trivial
theorem Ms.get : ∀ {r : List Oper} {k : Nat}, Ms P Q l n sl T G E J a0 k r → ∀ {i : Nat} {o : Oper}, r[i]? = some o → Qv P Q l n sl T G E J a0 (k + i) o
 | [], _, _, i, o, h => by simp at h
 | o' :: r, k, hs, 0, o, h => by
  have : o' = o := by simpa using h
  subst this; exact hs.1
 | o' :: r, k, hs, i + 1, o, h => by
  have := Ms.get hs.2 (i := i) (o := o) (by simpa using h)
  rwa [show k + 1 + i = k + (i + 1) by omega] at this
theorem bam {a : Act} {i : Nat} {o : Oper} {v : Value} (hsz : a0.tmps.size = sz) (has : a.tmps.size = a0.tmps.size) (hds : ∀ i j d, i < n → j < n → jo l i = some d → jo l j = some d → d < sz ∧ j = i) (hin : i < n) (ho : l[i]? = some o) (hd : o.dst ≠ none) : uv l sl (a.put o.dst v) i = v := by
 have hdi : jo l i = o.dst := by unfold jo; rw [ho]; rfl
 obtain ⟨d, hd'⟩ := Option.ne_none_iff_exists'.1 hd
 rw [Wz (hdi.trans hd'), hd', Rl _ _ _ (by rw [has, hsz]; exact (hds i i d hin hin (hdi.trans hd') (hdi.trans hd')).1)]
theorem TG.bal {a : Act} {w : World} {S : Nat → Prop} {i j : Nat} {o : Oper} {v : Value} (hds : ∀ i j d, i < n → j < n → jo l i = some d → jo l j = some d → d < sz ∧ j = i)
  (hsl : ∀ k, k < n → jo l k = none → ∃ j, j < n ∧ waits l k j (sl k) = true) (inv : TG l n sl T G a0 S a w) (hin : i < n) (ho : l[i]? = some o) (Mj : ¬ S i) (hj : j < n) (hSj : S j) : uv l sl (a.put o.dst v) j = uv l sl a j := by
 have hdi : jo l i = o.dst := by unfold jo; rw [ho]; rfl
 have hji : j ≠ i := fun e => Mj (e ▸ hSj)
 unfold uv
 cases hd : jo l j with
 | some d => exact Hl _ _ _ _ (fun h => hji ((hds i j d hin hj (by rw [hdi]; exact h) hd).2))
 | none =>
  obtain ⟨m, hm, hw⟩ := hsl j hj hd
  have hSm := inv.cl j m _ hj hSj hw
  have hmi : m ≠ i := fun e => Mj (e ▸ hSm)
  exact Hl _ _ _ _ (fun h => hmi ((hds i m _ hin hm (by rw [hdi]; exact h) (Dz hw)).2))
theorem TG.azq {a : Act} {w : World} (hsz : a0.tmps.size = sz) (hds : ∀ i j d, i < n → j < n → jo l i = some d → jo l j = some d → d < sz ∧ j = i)
  {S : Nat → Prop} (hall : ∀ k, k < n → S k) (inv : TG l n sl T G a0 S a w) : ∃ v : Nat → Value, a = puts v 0 (l.take n) a0 ∧ (∀ k, k < n → T k w (v k)) ∧ (∀ k j, k < n → j < n → jo l k = none → jo l j = some (sl k) → v k = v j) ∧ v = uv l sl a := by
 have hv1 : ∀ k d, jo l k = some d → uv l sl a k = a.tmps.getD d undef := fun k d h => Wz h
 have hv2 : ∀ k, jo l k = none → uv l sl a k = a.tmps.getD (sl k) undef := fun k h => by unfold uv; rw [h]
 refine ⟨uv l sl a, ?_, fun k hk => ?_, fun k j hk hj h1 h2 => by rw [hv2 k h1, hv1 j _ h2], rfl⟩
 rotate_left
 ·
  cases hd : jo l k with
  | none => rw [hv2 k hd]; exact inv.nod k hk (hall k hk) hd
  | some d => rw [hv1 k d hd]; exact inv.new k d hk (hall k hk) hd
 refine acm (by rw [inv.defers, Lj]) (by rw [inv.size, Qk]) (fun t => ?_)
 by_cases ht : ∃ k, k < n ∧ jo l k = some t
 ·
  obtain ⟨k, hk, hkt⟩ := ht
  have hdt : ∀ j, jo (l.take n) j = some t → j = k := fun j hj => (hds k j t hk (Fu hj).1 hkt (Fu hj).2).2
  rw [Tc (uv l sl a) t (l.take n) 0 k a0 (by unfold jo at hkt ⊢; rwa [List.getElem?_take_of_lt hk]) hdt (by rw [hsz]; exact (hds k k t hk hk hkt hkt).1), Nat.zero_add]
  exact (hv1 k t hkt).symm
 ·
  have hf : Gi l n t = true := List.all_eq_true.2 (fun o ho => by
   obtain ⟨k, hk⟩ := List.getElem?_of_mem ho
   have hkn : k < n := by
    rcases Nat.lt_or_ge k n with h | h
    ·
     exact h
    ·
     rw [List.getElem?_eq_none (by simp; omega)] at hk; cases hk
   rw [List.getElem?_take_of_lt hkn] at hk
   simp only [bne_iff_ne]
   intro h
   exact ht ⟨k, hkn, by unfold jo; rw [hk]; exact h⟩)
  rw [inv.old t hf, Oy (uv l sl a) t (l.take n) 0 a0 (fun j hj => ht ⟨j, Fu hj⟩)]
end
theorem Ri {P : Program} {id : Nat} {Q : Exit → Act → World → Prop} {a : Act} {w : World} {l : List Oper} (n sz : Nat) (sl : Nat → Tmp) (T : Nat → World → Value → Prop) (G : World → Prop) (E : World → World → Prop) (J : (Nat → Prop) → (Nat → Value) → World → Prop)
  (hm : P.follows .mixedOrders = true) (hB : okB l n sz = true) (hS1 : slB l n sl = true) (hsz : a.tmps.size = sz)
  (hT : ∀ k w w' v, E w w' → T k w v → T k w' v) (hG : G w.drew) (hJ : ∀ u, J (fun _ => False) u w.drew) (hJc : ∀ S S' u w, (∀ k, k < n → (S' k ↔ S k)) → J S u w → J S' u w)
  (hS : Ms P Q l n sl T G E J a 0 (l.take n))
  (hend : ∀ (v : Nat → Value) (w' : World), G w' → J (fun _ => True) v w' → (∀ k, k < n → T k w' (v k)) → (∀ k j, k < n → j < n → jo l k = none → jo l j = some (sl k) → v k = v j) → wpList P l.toArray Q (l.drop n) (puts v 0 (l.take n) a) w') :
  (Code.region id l.toArray true).wp P Q a w := by
 simp only [okB, Bool.and_eq_true, Bool.or_eq_true, decide_eq_true_eq] at hB
 obtain ⟨⟨⟨⟨hn, aaw⟩, hback⟩, Nu⟩, hseq⟩ := hB
 have hget : ∀ k, k < n → ∃ o, l[k]? = some o := fun k hk => ⟨l[k]'(by omega), List.getElem?_eq_getElem om⟩
 have hbk := Nz hback
 have hds := Ny Nu
 have hsl : ∀ k, k < n → jo l k = none → ∃ j, j < n ∧ waits l k j (sl k) = true := fun k hk hd => by
  have h1 := List.all_eq_true.1 hS1 k (List.mem_range.2 hk)
  simp only [hd, Option.isSome_none, Bool.false_or, List.any_eq_true, List.mem_range] at h1
  exact h1
 have hwb : ∀ k j d, k < n → waits l k j d = true → j < n := fun k j d hk hw => by
  simp only [waits, Bool.and_eq_true, beq_iff_eq] at hw
  obtain ⟨oj, hoj, e, he, hb, hon⟩ := Region.waitsFor_spec hw.1
  have := hbk k oj hk (by simpa using hoj) e he hb
  omega
 refine wp_region_any hm ?_
 have key : ∀ (f : Nat) (L : Array Bool) (a' : Act) (w' : World), HeadInv .any l.toArray n L → TG l n sl T G a (fun k => L.getD k false = true) a' w' → J (fun k => L.getD k false = true) (uv l sl a') w' → cnt L n = f → wpAny P .any l.toArray Q (f + (l.length - n)) L a' w' := by
  intro f
  induction f with
  | zero =>
   intro L a' w' head inv jv hc
   have hall := Pv hc
   have hL : L = full n (l.length - n) := by
    have hs := head.size
    refine Array.ext (by simp [full, hs]; omega) (fun i h1 h2 => ?_)
    by_cases hi : i < n
    ·
     have g := hall i hi
     simp [h1] at g
     simp [full, hi, g]
    ·
     have g := head.tail i om (by rw [← hs]; exact h1)
     simp [h1] at g
     simp [full, Array.getElem_append, hi, g]
   obtain ⟨v, he, hv, Gu, hvu⟩ := inv.azq hsz hds (fun k hk => by rw [hL]; simp [full, Array.getElem?_append, hk])
   rw [he, Nat.zero_add]
   have hlen : (l.drop n).length = l.length - n := by simp
   rw [← hlen]
   exact wpAny_of_seq (md := .any) (ops := l.toArray) (Q' := Q) (l.drop n) n L _ w' (fun j => by simp [List.getElem?_drop]) (by rw [hlen, hL]; exact hseq)
    (hend v w' inv.good (hvu ▸ hJc _ _ _ _ (fun k hk => by rw [hL]; simp [full, Array.getElem?_append, hk]) jv) hv Gu)
  | succ f ih =>
   intro L a' w' head inv jv hc
   obtain ⟨i0, hi0, Vo, hle0⟩ := Xm (L := L) (m := n) om
   have Yi : L.size = l.length := by rw [head.size]; simp
   rw [show f + 1 + (l.length - n) = (f + (l.length - n)) + 1 by omega]
   refine ⟨fun hr => ?_, fun i hi => ?_⟩
   ·
    exfalso
    obtain ⟨o, ho⟩ := hget i0 hi0
    have : i0 ∈ Region.ready .any l.toArray L := mem_ready.2 ⟨Vo, o, by simpa using ho, fun e he hb => by
     have hlt := hbk i0 o hi0 ho e he hb
     have h1 := hle0 e.on hlt
     simp [show e.on < L.size by rw [Yi]; omega] at h1
     simp [show e.on < L.size by rw [Yi]; omega, h1]⟩
    rw [hr] at this; cases this
   ·
    obtain ⟨hun, o, ho, aau⟩ := mem_ready.1 hi
    have ho' : l[i]? = some o := by simpa using ho
    have hil : i < l.length := by
     have := (Array.getElem?_eq_some_iff.1 ho).1
     simpa using this
    have hin : i < n := by
     rcases Nat.lt_or_ge i n with h | h
     ·
      exact h
     ·
      exfalso
      rcases aaw with he | ⟨hs, hch⟩
      ·
       omega
      ·
       exact tail_waits hs hch (by simp only [List.size_toArray]; omega) head _ i0 rfl hi0 Vo i h hi
    have hst := hS.get (i := i) (o := o) (by rw [List.getElem?_take_of_lt hin]; exact ho')
    rw [Nat.zero_add] at hst
    have hdone : ∀ j d, waits l i j d = true → L.getD j false = true := fun j d hjd => by
     simp only [waits, Bool.and_eq_true, beq_iff_eq] at hjd
     obtain ⟨oj, hoj, e, he, hb, hon⟩ := Region.waitsFor_spec hjd.1
     have : oj = o := Option.some.inj (hoj.symm.trans ho)
     subst this
     have hlj := aau e he hb
     rwa [hon] at hlj
    have Mj : ¬ L.getD i false = true := fun h => by rw [getD_both hun] at h; cases h
    have hw := hst.2 a' w' inv.good inv.old (fun j d hjd => inv.new j d (hwb i j d hin hjd) (hdone j d hjd) (Dz hjd)) ⟨_, _, jv, Mj, fun j d hjd => ⟨hdone j d hjd, Wz (Dz hjd)⟩⟩
    have go : ∀ v w2, G w2 → E w' w2 → T i w2 v → (o.dst = none → v = a'.tmps.getD (sl i) undef) → (∀ S u u', J S u w' → (∀ j, j < n → S j → u' j = u j) → (o.dst ≠ none → u' i = v) → ¬ S i → (∀ j d, waits l i j d = true → S j ∧ u j = a'.tmps.getD d undef) → J (fun k => k = i ∨ S k) u' w2) → wpAny P .any l.toArray Q (f + (l.length - n)) (L.setIfInBounds i true) (a'.put o.dst v) w2 := by
     intro v w2 hg2 hE Ij hno hj
     have hiff : ∀ k, k < n → ((L.setIfInBounds i true).getD k false = true ↔ (k = i ∨ L.getD k false = true)) := fun k hk => ?_
     refine ih (L.setIfInBounds i true) _ w2 (head.set hi hin) ((inv.step hsz hds hsl hT hin ho' Mj hdone hg2 hE Ij hno).mono hiff hwb) (hJc _ _ _ _ hiff (hj _ (uv l sl a') _ jv (fun j hj hSj => inv.bal hds hsl hin ho' Mj hj hSj) (fun hd => bam hsz inv.size hds hin ho' hd) Mj (fun j d hjd => ⟨hdone j d hjd, Wz (Dz hjd)⟩))) (by have := Xk hun (m := n) hin; omega)
     by_cases hki : k = i
     ·
      subst hki
      exact ⟨fun _ => .inl rfl, fun _ => by simp [show k < L.size by rw [Yi]; omega]⟩
     ·
      rw [getD_set_ne false (Ne.symm hki)]
      exact ⟨fun h => .inr h, fun h => h.resolve_left hki⟩
    unfold wpOp
    simp only [ho]
    split
    ·
     refine .inl (Oper.wp_mono (fun a2 w2 hK => ?_) hw)
     obtain ⟨v, rfl, hg2, hE, Ij, hno, hj⟩ := hK
     exact go v w2 hg2 hE Ij hno hj
    ·
     rename_i hwd
     exact absurd (by simp [Region.wanted, hst.1]) hwd
 have h0 := key n (Array.replicate l.length false) a w.drew
  ⟨by simp, fun j oj _ hl => (by rw [getD_replicate_false] at hl; cases hl), fun t _ ht => getD_in (by simpa using ht) (getD_replicate_false _ _)⟩
  ⟨rfl, rfl, fun _ _ => rfl, fun k d _ hs _ => (by rw [getD_replicate_false] at hs; cases hs), fun k _ hs _ => (by rw [getD_replicate_false] at hs; cases hs), fun k j d _ hs _ => (by rw [getD_replicate_false] at hs; cases hs), hG⟩ (hJc _ _ _ _ (fun k _ => ⟨fun h => (by rw [getD_replicate_false] at h; cases h), fun h => h.elim⟩) (hJ _)) (Xl _ hn)
 rw [show n + (l.length - n) = l.length by omega] at h0
 have hsz2 : l.toArray.size = l.length := by simp
 rw [hsz2]
 exact h0
end Rg
end Go.Proofs.YtjdnmdlnaoedoaaGreatDoor
namespace Go.Proofs.YtjdnmdlnaoedoaaGreatDoor
open Go.RowKit

namespace Sb
def EN (B : Nat) (TB : TypeId) (new : List Leaf) (w w' : World) : Prop := gm w w' ∨ ∃ (b : Nat) (us cs : List Value), B ≤ b ∧ gu w new us ∧ w.heap[b]? = some (.cells cs.toArray TB (0, 0)) ∧ Fv cs ∧ us.length = cs.length ∧ w' = setM w b 0 us
theorem Km {B : Nat} {TB : TypeId} {new : List Leaf} (c : Value) : Rg.Em (EN B TB new) (Rg.ax c) := fun _ _ _ _ h => h
theorem Db {B : Nat} {TB : TypeId} {new : List Leaf} (ls : List Leaf) : Rg.Em (EN B TB new) (ai ls) := by
 rintro w w' v (hb | ⟨b, us, cs, _, h1, h2, h3, h4, rfl⟩) h
 ·
  exact au ls _ _ _ hb h
 ·
  obtain ⟨ds, rfl, h⟩ := h
  exact ⟨ds, rfl, h.upto h2 h3 (zm b us 0 w w (ug _ _))⟩
def Jd (T : TypeId) (m : Nat) (B : Nat) : World → Value → Prop := fun W v => ∃ b, v = .pointer (some ⟨b, 0, none⟩) ∧ B ≤ b ∧ ∃ cs : List Value, W.heap[b]? = some (.cells cs.toArray T (0, 0)) ∧ Fv cs ∧ cs.length = m
theorem aab {B B' m : Nat} {TB T : TypeId} {new : List Leaf} : Rg.Em (EN B TB new) (Jd T m B') := by
 rintro w w' v (hb | ⟨b, us, cs, _, h1, h2, h3, h4, rfl⟩) ⟨c, rfl, h5, ds, h6, h7, h8⟩
 ·
  exact ⟨c, rfl, h5, ds, (hb.block _ (lt_of_block h6)).trans h6, h7, h8⟩
 ·
  refine ⟨c, rfl, h5, ?_⟩
  by_cases hbc : c = b
  ·
   subst hbc
   rw [h6] at h2
   have h9 := Option.some.inj h2
   injection h9 with e1 e2 e3
   subst e2
   have e4 : ds = cs := by simpa using e1
   subst e4
   exact ⟨us, Eb h6 h4, h1.noW, by rw [h4, h8]⟩
  ·
   exact ⟨ds, ((zm b us 0 w w (ug _ _)).block c (lt_of_block h6) (fun x => hbc (by injection x))).trans h6, h7, h8⟩
def Jf (TB : TypeId) (new : List Leaf) (B : Nat) : World → Value → Prop := fun W v => ∃ b, v = .pointer (some ⟨b, 0, none⟩) ∧ B ≤ b ∧ Ce W b TB new
theorem acy {B B' : Nat} {TB : TypeId} {new : List Leaf} : Rg.Em (EN B TB new) (Jf TB new B') := by
 rintro w w' v (hb | ⟨b, us, cs, _, h1, h2, h3, h4, rfl⟩) ⟨c, rfl, h5, ds, h6, h7⟩
 ·
  exact ⟨c, rfl, h5, Ce.below ⟨ds, h6, h7⟩ hb⟩
 ·
  refine ⟨c, rfl, h5, ?_⟩
  have hg := zm b us 0 w w (ug _ _)
  by_cases hbc : c = b
  ·
   subst hbc
   exact ⟨us, Eb h2 h4, h1.upto h2 h3 hg⟩
  ·
   exact ⟨ds, (hg.block c (lt_of_block h6) (fun x => hbc (by injection x))).trans h6, h7.upto h2 h3 hg⟩
theorem vv {P : Program} {Q : Exit → Act → World → Prop} {l : List Oper} {n : Nat} {T : Nat → World → Value → Prop} {G : World → Prop} {B : Nat} {TB : TypeId} {new : List Leaf} {al : List Nat} {a0 : Act} {k : Nat} {o : Oper} (h : Rg.Step P Q l n T G gm al a0 k o) : Rg.Step P Q l n T G (EN B TB new) al a0 k o := by
 intro a w hG hO hN
 refine Oper.wp_mono (fun a' w' hK => ?_) (h a w hG hO hN)
 obtain ⟨v, h1, h2, h3, h4, h5⟩ := hK
 exact ⟨v, h1, h2, .inl h3, h4, h5⟩
theorem afh {P : Program} {Q : Exit → Act → World → Prop} {l : List Oper} {n : Nat} {T : Nat → World → Value → Prop} {G : World → Prop} {a0 : Act} {k d B m : Nat} {TL : TypeId} {cs : List Value} {ty : TypeId} {pos : String} {af : Array Edge} {gd : Option (Nat × Bool)} (hN : Kg P TL cs) (hw : cs.all okV = true) (hm : cs.length = m)
  (Ik : ∀ W W', G W → gm W W' → G W') (hB : ∀ W, G W → B ≤ W.heap.size) (hT : T k = Jd TL m B) :
  Rg.Step P Q l n T G gm [] a0 k { dst := some d, op := .alloc TL, type := ty, pos := pos, after := af, guard := gd } := by
 refine awn (N := Jd TL m) (B := B) ?_ Ik hB hT (fun j W u h => by simp at h)
 intro a w
 exact ⟨_, (Below.refl _ _).alloc (Nat.le_refl _) _, fun hB => ⟨w.heap.size, rfl, hB, cs, heap_alloc_new w _, (gu.vs w cs hw).noW, hm⟩, hN a.eval w (some d) ty pos af gd⟩
theorem afe {P : Program} {Q : Exit → Act → World → Prop} {l : List Oper} {n : Nat} {sl : Nat → Tmp} {T : Nat → World → Value → Prop} {w0 V : World} {bs : List za} {a0 : Act} {k m t : Nat} {TL TB : TypeId} {x : Operand} {new : List Leaf} {ty : TypeId} {pos : String} {af : Array Edge}
  (hO : Own w0 bs V) (hS : Cv P TL m) (hp : Rg.ji l n T a0 k (.tmp t) (Jd TB m V.heap.size)) (hx : Rg.ji l n T a0 k x (ai new)) (hn : lsize new = m) (hsl : sl k = t) (hT : T k = Jf TB new V.heap.size) :
  Rg.abf P Q l n sl T (az w0 bs V) (EN V.heap.size TB new) a0 k { dst := none, op := .store TL (.tmp t) x, type := ty, pos := pos, after := af, guard := none } := by
 refine ⟨rfl, fun a w hG hA hN => ?_⟩
 obtain ⟨us, ex, hu⟩ := hx a w hA hN
 obtain ⟨b, ep, hge, cs, hb, hnw, hlen⟩ := hp a w hA hN
 have hl : us.length = cs.length := by rw [hu.len, hn, hlen]
 have hr := hS a.eval w none (.tmp t) x b 0 cs TB us ty pos af none (by rw [hu.len, hn]) (fun u h => (hu.noW u h).2.1) hb (by rw [hlen]; omega) ep ex
 unfold Oper.wp
 rw [hr]
 have hg := zm b us 0 w w (ug _ _)
 have hbel : gm V (setM w b 0 us) := hG.2.grown hg hG.2.size (fun k hk => by injection hk with hk; omega)
 exact ⟨a.tmps.getD (sl k) undef, rfl, ⟨Own.step _ _ hO hbel, hbel⟩, .inr ⟨b, us, cs, hge, hu, hb, hnw, hl, rfl⟩, by rw [hT, hsl]; exact ⟨b, ep, hge, us, Eb hb hl, hu.upto hb hnw hg⟩, fun _ => rfl⟩
end Sb

end Go.Proofs.YtjdnmdlnaoedoaaGreatDoor
namespace Go.Proofs.YtjdnmdlnaoedoaaGreatDoor
open Go.RowKit

namespace Sb
def EX (B : Nat) (TB : TypeId) (w w' : World) : Prop := gm w w' ∨ ∃ (b : Nat) (us cs : List Value), B ≤ b ∧ w.heap[b]? = some (.cells cs.toArray TB (0, 0)) ∧ Fv cs ∧ us.length = cs.length ∧ w' = setM w b 0 us
theorem Eh {B : Nat} {TB : TypeId} (c : Value) : Rg.Em (EX B TB) (Rg.ax c) := fun _ _ _ _ h => h
theorem vw {B : Nat} {TB : TypeId} : Rg.Em (EX B TB) (fun _ _ => True) := fun _ _ _ _ _ => trivial
theorem sw {B : Nat} {TB : TypeId} (ls : List Leaf) : Rg.Em (EX B TB) (ai ls) := by
 rintro w w' v (hb | ⟨b, us, cs, _, h2, h3, h4, rfl⟩) h
 ·
  exact au ls _ _ _ hb h
 ·
  obtain ⟨ds, rfl, h⟩ := h
  exact ⟨ds, rfl, h.upto h2 h3 (zm b us 0 w w (ug _ _))⟩
def J2 (TB : TypeId) (m B k5 k6 s1 s2 : Nat) (Dr Ej : List Leaf) (S : Nat → Prop) (u : Nat → Value) (w : World) : Prop :=
 (S k5 → Jd TB m B w (u k5)) ∧ (S k6 → Jd TB m B w (u k6)) ∧ (S k5 → S k6 → u k5 ≠ u k6) ∧ (S s1 → S k5 ∧ Jf TB Dr B w (u k5)) ∧ (S s2 → S k6 ∧ Jf TB Ej B w (u k6))
section
variable {TB : TypeId} {m B k5 k6 s1 s2 n : Nat} {Dr Ej : List Leaf} {S S' : Nat → Prop} {u u' : Nat → Value} {w w' : World}
theorem akj : J2 TB m B k5 k6 s1 s2 Dr Ej = J2 TB m B k6 k5 s2 s1 Ej Dr := by
 funext S u w
 exact propext ⟨fun ⟨a, b, c, d, e⟩ => ⟨b, a, fun x y h => c y x h.symm, e, d⟩, fun ⟨a, b, c, d, e⟩ => ⟨b, a, fun x y h => c y x h.symm, e, d⟩⟩
theorem J2.start : J2 TB m B k5 k6 s1 s2 Dr Ej (fun _ => False) u w := ⟨False.elim, False.elim, fun h => h.elim, False.elim, False.elim⟩
theorem J2.congr (hl : k5 < n ∧ k6 < n ∧ s1 < n ∧ s2 < n) (hS : ∀ k, k < n → (S' k ↔ S k)) (h : J2 TB m B k5 k6 s1 s2 Dr Ej S u w) : J2 TB m B k5 k6 s1 s2 Dr Ej S' u w := by
 unfold J2 at h ⊢
 rw [hS k5 hl.1, hS k6 hl.2.1, hS s1 hl.2.2.1, hS s2 hl.2.2.2]
 exact h
theorem Jd.bel {v : Value} (hb : gm w w') (h : Jd TB m B w v) : Jd TB m B w' v := by
 obtain ⟨c, rfl, h5, ds, h6, h7, h8⟩ := h
 exact ⟨c, rfl, h5, ds, (hb.block _ (lt_of_block h6)).trans h6, h7, h8⟩
theorem Jf.bel {new : List Leaf} {v : Value} (hb : gm w w') (h : Jf TB new B w v) : Jf TB new B w' v := by
 obtain ⟨c, rfl, h5, h6⟩ := h
 exact ⟨c, rfl, h5, h6.below hb⟩
theorem J2.same {k : Nat} (hl : k5 < n ∧ k6 < n) (hne : k ≠ k5 ∧ k ≠ k6 ∧ k ≠ s1 ∧ k ≠ s2) (h : J2 TB m B k5 k6 s1 s2 Dr Ej S u w) (hb : gm w w') (hu : ∀ j, j < n → S j → u' j = u j) : J2 TB m B k5 k6 s1 s2 Dr Ej (fun j => j = k ∨ S j) u' w' := by
 obtain ⟨a, b, c, d, e⟩ := h
 have r5 : (k5 = k ∨ S k5) → S k5 := fun h => h.resolve_left (Ne.symm hne.1)
 have r6 : (k6 = k ∨ S k6) → S k6 := fun h => h.resolve_left (Ne.symm hne.2.1)
 refine ⟨fun h => ?_, fun h => ?_, fun h h' => ?_, fun h => ?_, fun h => ?_⟩
 ·
  rw [hu _ hl.1 (r5 h)]; exact (a (r5 h)).bel hb
 ·
  rw [hu _ hl.2 (r6 h)]; exact (b (r6 h)).bel hb
 ·
  rw [hu _ hl.1 (r5 h), hu _ hl.2 (r6 h')]; exact c (r5 h) (r6 h')
 ·
  have q := d (h.resolve_left (Ne.symm hne.2.2.1))
  rw [hu _ hl.1 q.1]; exact ⟨.inr q.1, q.2.bel hb⟩
 ·
  have q := e (h.resolve_left (Ne.symm hne.2.2.2))
  rw [hu _ hl.2 q.1]; exact ⟨.inr q.1, q.2.bel hb⟩
theorem J2.alloc (hl : k5 < n ∧ k6 < n) (hne : k5 ≠ k6 ∧ k5 ≠ s1 ∧ k5 ≠ s2) (h : J2 TB m B k5 k6 s1 s2 Dr Ej S u w) (hb : gm w w') (hu : ∀ j, j < n → S j → u' j = u j) (Mj : ¬ S k5) (hv : u' k5 = .pointer (some ⟨w.heap.size, 0, none⟩)) (hN : Jd TB m B w' (u' k5)) :
  J2 TB m B k5 k6 s1 s2 Dr Ej (fun j => j = k5 ∨ S j) u' w' := by
 obtain ⟨a, b, c, d, e⟩ := h
 have r6 : (k6 = k5 ∨ S k6) → S k6 := fun h => h.resolve_left (Ne.symm hne.1)
 refine ⟨fun _ => hN, fun h => ?_, fun _ h' => ?_, fun h => ?_, fun h => ?_⟩
 ·
  rw [hu _ hl.2 (r6 h)]; exact (b (r6 h)).bel hb
 ·
  obtain ⟨g, e1, _, ds, h6, _⟩ := b (r6 h')
  rw [hv, hu _ hl.2 (r6 h'), e1]
  intro x
  have := lt_of_block h6
  injection x with x
  injection x with x
  injection x with x
  omega
 ·
  exact absurd (d (h.resolve_left (Ne.symm hne.2.1))).1 Mj
 ·
  have q := e (h.resolve_left (Ne.symm hne.2.2))
  rw [hu _ hl.2 q.1]; exact ⟨.inr q.1, q.2.bel hb⟩
theorem Jd.set {b : Nat} {us cs : List Value} {v : Value} (h2 : w.heap[b]? = some (.cells cs.toArray TB (0, 0))) (h3 : Fv us) (h4 : us.length = cs.length) (h : Jd TB m B w v) : Jd TB m B (setM w b 0 us) v := by
 obtain ⟨c, rfl, h5, ds, h6, h7, h8⟩ := h
 refine ⟨c, rfl, h5, ?_⟩
 by_cases hbc : c = b
 ·
  subst hbc
  rw [h6] at h2
  have h9 := Option.some.inj h2
  injection h9 with e1 e2 e3
  have e4 : ds = cs := by simpa using e1
  subst e4
  exact ⟨us, Eb h6 h4, h3, by rw [h4, h8]⟩
 ·
  exact ⟨ds, ((zm b us 0 w w (ug _ _)).block c (lt_of_block h6) (fun x => hbc (by injection x))).trans h6, h7, h8⟩
theorem Jf.set {b : Nat} {us cs : List Value} {new : List Leaf} {v : Value} (h2 : w.heap[b]? = some (.cells cs.toArray TB (0, 0))) (h3 : Fv cs) (hv : v ≠ .pointer (some ⟨b, 0, none⟩)) (h : Jf TB new B w v) : Jf TB new B (setM w b 0 us) v := by
 obtain ⟨c, rfl, h5, ds, h6, h7⟩ := h
 have hg := zm b us 0 w w (ug _ _)
 have hbc : c ≠ b := fun x => hv (by rw [x])
 exact ⟨c, rfl, h5, ds, (hg.block c (lt_of_block h6) (fun x => hbc (by injection x))).trans h6, h7.upto h2 h3 hg⟩
theorem J2.store {b : Nat} {us cs : List Value} (hl : k5 < n ∧ k6 < n) (hne : s1 ≠ k5 ∧ s1 ≠ k6 ∧ s1 ≠ s2) (h : J2 TB m B k5 k6 s1 s2 Dr Ej S u w) (hu : ∀ j, j < n → S j → u' j = u j) (hS : S k5) (hv : u k5 = .pointer (some ⟨b, 0, none⟩))
  (h2 : w.heap[b]? = some (.cells cs.toArray TB (0, 0))) (h3 : Fv cs) (h4 : us.length = cs.length) (h5 : Fv us) (hF : Jf TB Dr B (setM w b 0 us) (.pointer (some ⟨b, 0, none⟩))) :
  J2 TB m B k5 k6 s1 s2 Dr Ej (fun j => j = s1 ∨ S j) u' (setM w b 0 us) := by
 obtain ⟨a, b', c, d, e⟩ := h
 have r6 : (k6 = s1 ∨ S k6) → S k6 := fun h => h.resolve_left (Ne.symm hne.2.1)
 refine ⟨fun _ => ?_, fun h => ?_, fun _ h' => ?_, fun _ => ?_, fun h => ?_⟩
 ·
  rw [hu _ hl.1 hS]; exact (a hS).set h2 h5 h4
 ·
  rw [hu _ hl.2 (r6 h)]; exact (b' (r6 h)).set h2 h5 h4
 ·
  rw [hu _ hl.1 hS, hu _ hl.2 (r6 h')]; exact c hS (r6 h')
 ·
  rw [hu _ hl.1 hS, hv]; exact ⟨.inr hS, hF⟩
 ·
  have q := e (h.resolve_left (Ne.symm hne.2.2))
  rw [hu _ hl.2 q.1]
  exact ⟨.inr q.1, q.2.set h2 h3 (fun x => c hS q.1 (by rw [hv, x]))⟩
end
section
variable {P : Program} {Q : Exit → Act → World → Prop} {l : List Oper} {n : Nat} {sl : Nat → Tmp} {T : Nat → World → Value → Prop} {w0 V : World} {bs : List za} {a0 : Act} {TB : TypeId} {m k5 k6 s1 s2 : Nat} {Dr Ej : List Leaf} {ty : TypeId} {pos : String} {af : Array Edge}
theorem Aj {k : Nat} {o : Oper} (h : Rg.Step P Q l n T (az w0 bs V) gm [] a0 k o) (hg : o.guard = none := by rfl) (hd : o.dst.isSome = true := by rfl) (hl : k5 < n ∧ k6 < n := by decide) (hne : k ≠ k5 ∧ k ≠ k6 ∧ k ≠ s1 ∧ k ≠ s2 := by decide) :
  Rg.Qv P Q l n sl T (az w0 bs V) (EX V.heap.size TB) (J2 TB m V.heap.size k5 k6 s1 s2 Dr Ej) a0 k o :=
 ⟨hg, fun a w hG hO hN _ => Oper.wp_mono (fun a' w' hK => by
  obtain ⟨v, h1, h2, h3, h4, _⟩ := hK
  exact ⟨v, h1, h2, .inl h3, h4, fun e => by rw [e] at hd; (cases hd), fun S u u' hJ hu _ _ _ => hJ.same hl hne h3 hu⟩) (h a w hG hO hN)⟩
theorem Oc {d : Tmp} {cs : List Value} (hN : Kg P TB cs) (hw : cs.all okV = true) (hm : cs.length = m) (hT : T k5 = fun _ _ => True) (hl : k5 < n ∧ k6 < n := by decide) (hne : k5 ≠ k6 ∧ k5 ≠ s1 ∧ k5 ≠ s2 := by decide) :
  Rg.Qv P Q l n sl T (az w0 bs V) (EX V.heap.size TB) (J2 TB m V.heap.size k5 k6 s1 s2 Dr Ej) a0 k5 { dst := some d, op := .alloc TB, type := ty, pos := pos, after := af, guard := none } :=
 ⟨rfl, fun a w hG hO _ _ => by
  have hb : gm w (w.alloc (.cells cs.toArray TB)) := (Below.refl _ _).alloc (Nat.le_refl _) _
  refine pz (P := P) (hN a.eval w (some d) ty pos af none) ⟨_, rfl, az.step _ _ hG hb, .inl hb, by rw [hT]; trivial, fun e => by (cases e), fun S u u' hJ hu hv Mj _ => ?_⟩
  have hv' := hv (by simp)
  exact hJ.alloc hl hne hb hu Mj hv' (by rw [hv']; exact ⟨w.heap.size, rfl, hG.2.size, cs, heap_alloc_new w _, (gu.vs w cs hw).noW, hm⟩)⟩
theorem Ob {x : Operand} {t : Tmp} (hO : Own w0 bs V) (hS : Cv P TB m) (hw : Rg.waits l s1 k5 t = true) (hx : Rg.ji l n T a0 s1 x (ai Dr)) (hn : lsize Dr = m) (hsl : sl s1 = t) (hT : T s1 = fun _ _ => True) (hl : k5 < n ∧ k6 < n := by decide) (hne : s1 ≠ k5 ∧ s1 ≠ k6 ∧ s1 ≠ s2 := by decide) :
  Rg.Qv P Q l n sl T (az w0 bs V) (EX V.heap.size TB) (J2 TB m V.heap.size k5 k6 s1 s2 Dr Ej) a0 s1 { dst := none, op := .store TB (.tmp t) x, type := ty, pos := pos, after := af, guard := none } := by
 refine ⟨rfl, fun a w hG hA hN hE => ?_⟩
 obtain ⟨us, ex, hu⟩ := hx a w hA hN
 obtain ⟨S0, u0, hJ0, _, hw0⟩ := hE
 obtain ⟨b, ep, hge, cs, hb, hnw, hlen⟩ := hJ0.1 (hw0 k5 t hw).1
 rw [(hw0 k5 t hw).2] at ep
 have hle : us.length = cs.length := by rw [hu.len, hn, hlen]
 have hr := hS a.eval w none (.tmp t) x b 0 cs TB us ty pos af none (by rw [hu.len, hn]) (fun u h => (hu.noW u h).2.1) hb (by rw [hlen]; omega) ep ex
 unfold Oper.wp
 rw [hr]
 have hg := zm b us 0 w w (ug _ _)
 have hbel : gm V (setM w b 0 us) := hG.2.grown hg hG.2.size (fun k hk => by injection hk with hk; omega)
 refine ⟨a.tmps.getD (sl s1) undef, rfl, ⟨Own.step _ _ hO hbel, hbel⟩, .inr ⟨b, us, cs, hge, hb, hnw, hle, rfl⟩, by rw [hT]; trivial, fun _ => rfl, fun S u u' hJ hu' _ Mj hwt => ?_⟩
 exact hJ.store hl hne hu' (hwt k5 t hw).1 ((hwt k5 t hw).2.trans ep) hb hnw hle hu.noW ⟨b, rfl, hge, us, Eb hb hle, hu.upto hb hnw hg⟩
theorem Ot {d : Tmp} {cs : List Value} (hN : Kg P TB cs) (hw : cs.all okV = true) (hm : cs.length = m) (hT : T k6 = fun _ _ => True) (hl : k6 < n ∧ k5 < n := by decide) (hne : k6 ≠ k5 ∧ k6 ≠ s2 ∧ k6 ≠ s1 := by decide) :
  Rg.Qv P Q l n sl T (az w0 bs V) (EX V.heap.size TB) (J2 TB m V.heap.size k5 k6 s1 s2 Dr Ej) a0 k6 { dst := some d, op := .alloc TB, type := ty, pos := pos, after := af, guard := none } := by
 rw [akj]
 exact Oc hN hw hm hT hl hne
theorem Oq {x : Operand} {t : Tmp} (hO : Own w0 bs V) (hS : Cv P TB m) (hw : Rg.waits l s2 k6 t = true) (hx : Rg.ji l n T a0 s2 x (ai Ej)) (hn : lsize Ej = m) (hsl : sl s2 = t) (hT : T s2 = fun _ _ => True) (hl : k6 < n ∧ k5 < n := by decide) (hne : s2 ≠ k6 ∧ s2 ≠ k5 ∧ s2 ≠ s1 := by decide) :
  Rg.Qv P Q l n sl T (az w0 bs V) (EX V.heap.size TB) (J2 TB m V.heap.size k5 k6 s1 s2 Dr Ej) a0 s2 { dst := none, op := .store TB (.tmp t) x, type := ty, pos := pos, after := af, guard := none } := by
 rw [akj]
 exact Ob hO hS hw hx hn hsl hT hl hne
end
theorem acj : Si Tryz.prog 74 3 3 := by
 intro ρ w d x y us vs ty pos af gd h1 h2 e1 e2
 match us, h1, vs, h2 with
 | [u0, u1, u2], _, [v0, v1, v2], _ =>
 simp only [execOp]
 simp [go_sem, e1, e2]
 try rfl
end Sb

end Go.Proofs.YtjdnmdlnaoedoaaGreatDoor
