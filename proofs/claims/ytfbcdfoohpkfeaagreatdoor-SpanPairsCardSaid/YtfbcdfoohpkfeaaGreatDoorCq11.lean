/- Texts beneath a law of layer 1. -/
import Derived.Test.YtfbcdfoohpkfeaaGreatDoorCq10
set_option maxRecDepth 100000
namespace Go.Proofs.YtfbcdfoohpkfeaaGreatDoor
open Go.RowKit

namespace Sb
theorem Lu {W : World} {x : Rat} {v : Value} (h : bg [.q x] W v) : ∃ s1 n1 A1 c1 l1 s2 n2 A2 c2 l2, v = .agg #[.int .i64 s1, .bool n1, .slice A1 (List.length l1) c1, .int .i64 s2, .bool n2, .slice A2 (List.length l2) c2] ∧ ig W s1 n1 A1 c1 l1 x.num ∧ ig W s2 n2 A2 c2 l2 (x.den : Int) := by
 obtain ⟨cs, rfl, h⟩ := h
 obtain ⟨s1, n1, A1, c1, l1, s2, n2, A2, c2, l2, r, rfl, h1, h2, h3⟩ := h.akx
 cases h3
 exact ⟨_, _, _, _, _, _, _, _, _, _, rfl, h1, h2⟩
theorem Kc {W : World} {n : Int} {v : Value} (h : bg [.z n] W v) : ∃ s1 n1 A1 c1 l1, v = .agg #[.int .i64 s1, .bool n1, .slice A1 (List.length l1) c1] ∧ ig W s1 n1 A1 c1 l1 n := by
 obtain ⟨cs, rfl, h⟩ := h
 obtain ⟨s1, n1, A1, c1, l1, r, rfl, h1, h3⟩ := h.ajm
 cases h3
 exact ⟨_, _, _, _, _, rfl, h1⟩
theorem Ke {W : World} {a b : Value} {v : Value} (h : bg [.v a, .v b] W v) : v = .agg #[a, b] := by
 obtain ⟨cs, rfl, h⟩ := h
 obtain ⟨r, rfl, _, h⟩ := h.Vu
 obtain ⟨r, rfl, _, h⟩ := h.Vu
 cases h; rfl
theorem Ak {W : World} {a b c d : Value} {v : Value} (h : bg [.v a, .v b, .v c, .v d] W v) : v = .agg #[a, b, c, d] := by
 obtain ⟨cs, rfl, h⟩ := h
 obtain ⟨r, rfl, _, h⟩ := h.Vu
 obtain ⟨r, rfl, _, h⟩ := h.Vu
 obtain ⟨r, rfl, _, h⟩ := h.Vu
 obtain ⟨r, rfl, _, h⟩ := h.Vu
 cases h; rfl
theorem Ov {W : World} {x y : Rat} {v : Value} (h : bg [.q x, .q y] W v) : ∃ s1 n1 A1 c1 l1 s2 n2 A2 c2 l2 s3 n3 A3 c3 l3 s4 n4 A4 c4 l4, v = .agg #[.int .i64 s1, .bool n1, .slice A1 (List.length l1) c1, .int .i64 s2, .bool n2, .slice A2 (List.length l2) c2, .int .i64 s3, .bool n3, .slice A3 (List.length l3) c3, .int .i64 s4, .bool n4, .slice A4 (List.length l4) c4] ∧ ig W s1 n1 A1 c1 l1 x.num ∧ ig W s2 n2 A2 c2 l2 (x.den : Int) ∧ ig W s3 n3 A3 c3 l3 y.num ∧ ig W s4 n4 A4 c4 l4 (y.den : Int) := by
 obtain ⟨cs, rfl, h⟩ := h
 obtain ⟨s1, n1, A1, c1, l1, s2, n2, A2, c2, l2, r, rfl, h1, h2, h⟩ := h.akx
 obtain ⟨s3, n3, A3, c3, l3, s4, n4, A4, c4, l4, r, rfl, h3, h4, h⟩ := h.akx
 cases h
 exact ⟨_, _, _, _, _, _, _, _, _, _, _, _, _, _, _, _, _, _, _, _, rfl, h1, h2, h3, h4⟩
theorem azs (W : World) {a b : Value} (ha : Ob a) (hb : Ob b) : bg [.v a, .v b] W (.agg #[a, b]) := ⟨[a, b], rfl, jf.v ha (jf.v hb rfl)⟩
theorem Ow (W : World) (a b : Int) : bg [.v (.int .i64 a), .v (.int .i64 b)] W (.agg #[.int .i64 a, .int .i64 b]) := azs W (jl _) (jl _)
theorem ahb (W : World) (a b c d : Int) : bg [.v (.int .i64 a), .v (.int .i64 b), .v (.int .i64 c), .v (.int .i64 d)] W (.agg #[.int .i64 a, .int .i64 b, .int .i64 c, .int .i64 d]) := ⟨[_, _, _, _], rfl, jf.v (jl _) (jf.v (jl _) (jf.v (jl _) (jf.v (jl _) rfl)))⟩
theorem Oa {w w' : World} {q : Rat} {e : Ending} (h : Ia w q.num (q.den : Int) e w') : nk (bg [.q q]) w e w' := by
 obtain ⟨s1, n1, A1, c1, l1, s2, n2, A2, c2, l2, rfl, h1, h2, hb⟩ := h
 exact ⟨_, rfl, hb, _, rfl, jf.q h1 h2 rfl⟩
theorem aay {w w' : World} {z : Int} {e : Ending} (h : Ez w z e w') : nk (bg [.z z]) w e w' := by
 obtain ⟨s1, n1, A1, c1, l1, rfl, h1, hb⟩ := h
 exact ⟨_, rfl, hb, _, rfl, jf.z h1 rfl⟩
theorem Vf {w w' : World} {u : Value} {e : Ending} (h : e = .returned u ∧ Below w.heap.size w w') : nk (Rg.cz u) w e w' := ⟨u, h.1, h.2, rfl⟩
theorem bfs {F : Nat} {x q : Rat} {W : World} {v0 : Value} (h : Xz W F x q) (h0 : bg [.q x] W v0) : Calls Tryz.prog F #[v0] W (nk (bg [.q q]) W) := by
 obtain ⟨s1, n1, A1, c1, l1, s2, n2, A2, c2, l2, rfl, f1, f2⟩ := Lu h0
 exact (h _ _ _ _ _ _ _ _ _ _ W (Below.refl _ _) f1 f2).mono fun e w' h => Oa h
theorem bfr {F : Nat} {x y q : Rat} {W : World} {v0 v1 : Value} (h : Oy W F x y q) (h0 : bg [.q x] W v0) (h1 : bg [.q y] W v1) : Calls Tryz.prog F #[v0, v1] W (nk (bg [.q q]) W) := by
 obtain ⟨s1, n1, A1, c1, l1, s2, n2, A2, c2, l2, rfl, f1, f2⟩ := Lu h0
 obtain ⟨s3, n3, A3, c3, l3, s4, n4, A4, c4, l4, rfl, f3, f4⟩ := Lu h1
 exact (h _ _ _ _ _ _ _ _ _ _ _ _ _ _ _ _ _ _ _ _ W (Below.refl _ _) f1 f2 f3 f4).mono fun e w' h => Oa h
theorem agv {F : Nat} {x y q : Int} {W : World} {v0 v1 : Value} (h : Ec W F x y q) (h0 : bg [.z x] W v0) (h1 : bg [.z y] W v1) : Calls Tryz.prog F #[v0, v1] W (nk (bg [.z q]) W) := by
 obtain ⟨s1, n1, A1, c1, l1, rfl, f1⟩ := Kc h0
 obtain ⟨s2, n2, A2, c2, l2, rfl, f2⟩ := Kc h1
 exact (h _ _ _ _ _ _ _ _ _ _ W (Below.refl _ _) f1 f2).mono fun e w' h => aay h
def Sm (K : Nat) (x : Rat) : Prop := Dc K x ∧ K ≤ 1000000
theorem Sm.mono {K L : Nat} {x : Rat} (h : Sm K x) (hk : K ≤ L) (hl : L ≤ 1000000) : Sm L x := ⟨h.1.mono hk, hl⟩
theorem Hw : 100000000 ≤ lim := by unfold lim; omega
variable {W : World} {v0 v1 : Value} {x y : Rat} {K : Nat}
theorem Tq (hT : xg W) (hx : Sm K x) (hy : Sm K y) (h0 : bg [.q x] W v0) (h1 : bg [.q y] W v1) : Calls Tryz.prog 111 #[v0, v1] W (nk (bg [.q (x * y)]) W) :=
 bfr (aau hT x y hx.1 hy.1 (by have := hx.2; have := Hw; omega)).1 h0 h1
theorem axm (h0 : bg [.q x] W v0) : Calls Tryz.prog 134 #[v0] W (nk (bg [.q (-x)]) W) := bfs (azd W x) h0
theorem Gy (hx : Sm K x) (hy : Sm K y) (h0 : bg [.q x] W v0) (h1 : bg [.q y] W v1) : Calls Tryz.prog 69 #[v0, v1] W (nk (Rg.cz (.int .i64 (ja (x.num * y.den - y.num * x.den)))) W) := by
 obtain ⟨s1, n1, A1, c1, l1, s2, n2, A2, c2, l2, rfl, f1, f2⟩ := Lu h0
 obtain ⟨s3, n3, A3, c3, l3, s4, n4, A4, c4, l4, rfl, f3, f4⟩ := Lu h1
 exact (aiq W x y hx.1 hy.1 (by have := hx.2; have := Hw; omega) _ _ _ _ _ _ _ _ _ _ _ _ _ _ _ _ _ _ _ _ W (Below.refl _ _) f1 f2 f3 f4).mono fun e w' h => Vf h
theorem avx {n d : Int} (ok : Wd.wm n d) (h0 : bg [.v (.int .i64 n), .v (.int .i64 d)] W v0) : Calls Tryz.prog 57 #[v0] W (nk (bg [.q (Wd.qR n d)]) W) := by
 rw [Ke h0]
 obtain ⟨e1, e2⟩ := Wd.Ni ok
 obtain ⟨h1, h2, h3, h4, _⟩ := ok
 refine (aas n d W om om om om).mono fun e w' h => Oa ?_
 rw [e1, e2]; exact h
theorem bfo (h0 : bg [.q x] W v0) : Calls Tryz.prog 59 #[v0] W (nk (Rg.cz (.tuple #[.agg #[.int .i64 (Wd.told x).n, .int .i64 (Wd.told x).d], .int .i64 (Wd.told x).e])) W) := by
 obtain ⟨s1, n1, A1, c1, l1, s2, n2, A2, c2, l2, rfl, f1, f2⟩ := Lu h0
 exact (atp s1 n1 A1 c1 l1 _ s2 n2 A2 c2 l2 _ W f1 f2 x rfl rfl).mono fun e w' h => Vf h
theorem aqb (n : Int) (h1 : -9223372036854775808 ≤ n) (h2 : n ≤ 9223372036854775807) (W : World) : Calls Tryz.prog 124 #[.int .i64 n] W (nk (bg [.z n]) W) :=
 (Ju n h1 h2 W).mono fun e w' h => aay h
theorem aqa {a b : Int} (hT : xg W) (hb : b ≠ 0) (ha : Wd.Sz gy K a) (hb2 : Wd.Sz gy K b) (hK : K ≤ 1000000) (h0 : bg [.z a] W v0) (h1 : bg [.z b] W v1) : Calls Tryz.prog 123 #[v0, v1] W (nk (bg [.q (Rat.divInt a b)]) W) := by
 obtain ⟨s1, n1, A1, c1, l1, rfl, f1⟩ := Kc h0
 obtain ⟨s2, n2, A2, c2, l2, rfl, f2⟩ := Kc h1
 exact (aud s1 n1 A1 c1 l1 s2 n2 A2 c2 l2 a b W hT f1 f2 hb ha hb2 (by have := Hw; omega)).mono fun e w' h => Oa h
theorem aqc {a : Int} (h0 : bg [.z a] W v0) : Calls Tryz.prog 147 #[v0] W (nk (bg [.z (-a)]) W) := by
 obtain ⟨s1, n1, A1, c1, l1, rfl, f1⟩ := Kc h0
 exact (Rb s1 n1 A1 c1 l1 a W f1).mono fun e w' h => aay h
theorem Sm.add (hx : Sm K x) (hy : Sm K y) (h : K + K + 1 ≤ 1000000) (w : World) (hT : xg w) : Sm (K + K + 1) (x + y) := ⟨(azf hT x y hx.1 hy.1 (by have := Hw; omega)).2, h⟩
theorem Sm.mul (hx : Sm K x) (hy : Sm K y) (h : K + K ≤ 1000000) (w : World) (hT : xg w) : Sm (K + K) (x * y) := ⟨(aau hT x y hx.1 hy.1 (by have := Hw; omega)).2, h⟩
theorem Sm.quo (hx : Sm K x) (hy : Sm K y) (h : K + K ≤ 1000000) (hn : y.num ≠ 0) (w : World) (hT : xg w) : Sm (K + K) (x / y) := ⟨(azc hT x y hx.1 hy.1 (by have := Hw; omega) hn).2, h⟩
theorem Sm.neg (hx : Sm K x) : Sm K (-x) := ⟨hx.1.neg, hx.2⟩
theorem xu {n d : Int} (ok : Wd.wm n d) : Sm 1 (Wd.qR n d) := ⟨aew ok, by omega⟩
end Sb

end Go.Proofs.YtfbcdfoohpkfeaaGreatDoor
namespace Go.Proofs.YtfbcdfoohpkfeaaGreatDoor
open Go.RowKit

namespace Sb
theorem pg {w : World} {b o : Nat} {cs : List Value} {T : TypeId} (h : w.heap[b]? = some (.cells cs.toArray T (0, 0))) (ho : o < cs.length) : ∃ c, w.cell? ⟨b, o, none⟩ = some c := by
 rw [ae h]
 exact ⟨cs[o], by simp [ho]⟩
def Qi (P : Program) (T : TypeId) (cs : List Value) : Prop := ∀ (ρ : Operand → Value) (w : World) (d : Option Tmp) (ty : TypeId) (pos : String) (af : Array Edge) (gd : Option (Nat × Bool)),
 (execOp ρ { dst := d, op := .alloc T, type := ty, pos := pos, after := af, guard := gd }).run P w = .ok (.value (.pointer (some ⟨w.heap.size, 0, none⟩))) (w.alloc (.cells cs.toArray T))
def uf (T : TypeId) (ls : List Leaf) (B : Nat) : World → Value → Prop := fun W v => ∃ b, v = .pointer (some ⟨b, 0, none⟩) ∧ B ≤ b ∧ Cm W b T ls
theorem ui (T : TypeId) (ls : List Leaf) (B : Nat) : Rg.Gj jb (uf T ls B) := by
 rintro w w' v hb ⟨b, rfl, h1, h2⟩
 exact ⟨b, rfl, h1, h2.below hb⟩
def okV : Value → Bool
 | .int .i64 _ => true
 | .bool _ => true
 | .slice _ _ _ => true
 | .pointer _ => true
 | _ => false
theorem atz {u : Value} (h : okV u = true) : Ob u := by
 unfold okV at h
 split at h
 ·
  exact jl _
 ·
  exact Yw _
 ·
  exact Yv _ _ _
 ·
  exact bax _
 ·
  cases h
theorem jf.vs (W : World) : ∀ (us : List Value), us.all okV = true → jf W (us.map .v) us
 | [], _ => rfl
 | u :: us, h => by
  rw [List.all_cons, Bool.and_eq_true] at h
  exact jf.v (atz h.1) (jf.vs W us h.2)
theorem vv {P : Program} {Q : Exit → Act → World → Prop} {l : List Oper} {n : Nat} {T : Nat → World → Value → Prop} {G : World → Prop} {al : List Nat} {a0 : Act} {k d : Nat} {ty : TypeId} {pos : String} {af : Array Edge} {gd : Option (Nat × Bool)} {B : Nat} {TL : TypeId} {cs : List Value} (hN : Qi P TL cs) (hw : cs.all okV = true)
  (Io : ∀ W W', G W → jb W W' → G W') (hB : ∀ W, G W → B ≤ W.heap.size) (hT : T k = uf TL (cs.map .v) B) (hlt : ∀ j W u, al.contains j = true → T j W u → ∃ b, u = .pointer (some ⟨b, 0, none⟩) ∧ b < W.heap.size) :
  Rg.Step P Q l n T G jb al a0 k { dst := some d, op := .alloc TL, type := ty, pos := pos, after := af, guard := gd } := by
 refine awp (N := uf TL (cs.map .v)) (B := B) ?_ Io hB hT hlt
 intro a w
 exact ⟨_, (Below.refl _ _).alloc (Nat.le_refl _) _, fun hB => ⟨w.heap.size, rfl, hB, cs, heap_alloc_new w _, jf.vs _ cs hw⟩, hN a.eval w (some d) ty pos af gd⟩
def bfu (t : World → Value → Prop) : Prop := ∃ TL ls B, t = uf TL ls B
theorem xx {T : Nat → World → Value → Prop} {js : List Nat} (h : ∀ j, js.contains j = true → bfu (T j)) : ∀ j W u, js.contains j = true → T j W u → ∃ b, u = .pointer (some ⟨b, 0, none⟩) ∧ b < W.heap.size := fun j W u hj ht => by
 obtain ⟨TL, ls, B, e⟩ := h j hj
 rw [e] at ht
 obtain ⟨b, h1, _, h2⟩ := ht
 exact ⟨b, h1, h2.lt⟩
theorem Own.Xx {w W V : World} {bs : List Az} {b b' : Nat} {T T' : TypeId} {ls ls' : List Leaf} (h : Own w bs V) (Vd : jb V W) (hb : V.heap.size ≤ b) (hq : Cm W b T ls) (hb' : V.heap.size ≤ b') (hq' : Cm W b' T' ls') (hne : b' ≠ b) : Own w ((b', T', ls') :: (b, T, ls) :: bs) W := by
 have h1 := Own.add h Vd hb hq
 have h2 := Own.add h Vd hb' hq'
 refine ⟨h1.bel, List.nodup_cons.2 ⟨fun hm => ?_, h1.nd⟩, fun c p q hm => ?_⟩
 ·
  rw [List.map_cons] at hm
  rcases List.mem_cons.1 hm with e | hm
  ·
   exact hne e
  ·
   exact (List.nodup_cons.1 h2.nd).1 hm
 ·
  rcases List.mem_cons.1 hm with e | hm
  ·
   cases e; exact h2.box _ _ _ List.mem_cons_self
  ·
   exact h1.box _ _ _ hm
def Kl (P : Program) (o : Operand → Op) (ali : Nat) : Prop := ∀ (a : Act) (w : World) (d : Option Tmp) (x : Operand) (b off : Nat) (ty : TypeId) (pos : String) (af : Array Edge) (gd : Option (Nat × Bool)), a.eval x = .pointer (some ⟨b, off, none⟩) →
 (execOp a.eval { dst := d, op := o x, type := ty, pos := pos, after := af, guard := gd }).run P w = .ok (.value (.pointer (some ⟨b, off + ali, none⟩))) w
theorem Lx {P : Program} {Q : Exit → Act → World → Prop} {l : List Oper} {n : Nat} {T : Nat → World → Value → Prop} {G : World → Prop} {al : List Nat} {a0 : Act} {k d : Nat} {ty : TypeId} {pos : String} {af : Array Edge} {gd : Option (Nat × Bool)} {b off off' ali : Nat} {x : Operand} {o : Operand → Op} (hA : Kl P o ali) (hal : al.contains k = false) (hx : Rg.ni l n T a0 k x (Rg.cz (.pointer (some ⟨b, off, none⟩)))) (ho : off + ali = off') (hT : T k = Rg.cz (.pointer (some ⟨b, off', none⟩))) :
  Rg.Step P Q l n T G jb al a0 k { dst := some d, op := o x, type := ty, pos := pos, after := af, guard := gd } := by
 intro a w hG hO hN
 exact uh (hA a w (some d) x b off ty pos af gd (hx a w hO hN)) ⟨_, rfl, hG, Below.refl _ _, by rw [hT, ho]; rfl, fun h => by rw [hal] at h; cases h⟩
def aaj (P : Program) (T : TypeId) (m1 m2 : Nat) : Prop := ∀ (ρ : Operand → Value) (w : World) (d : Option Tmp) (x y : Operand) (us vs : List Value) (ty : TypeId) (pos : String) (af : Array Edge) (gd : Option (Nat × Bool)), us.length = m1 → vs.length = m2 → ρ x = .agg us.toArray → ρ y = .agg vs.toArray →
 (execOp ρ { dst := d, op := .build T #[(0, x), (1, y)], type := ty, pos := pos, after := af, guard := gd }).run P w = .ok (.value (.agg (us ++ vs).toArray)) w
theorem Ew {P : Program} {Q : Exit → Act → World → Prop} {l : List Oper} {n : Nat} {T : Nat → World → Value → Prop} {G : World → Prop} {al : List Nat} {a0 : Act} {k d : Nat} {ty : TypeId} {pos : String} {af : Array Edge} {gd : Option (Nat × Bool)} {m1 m2 : Nat} {x y : Operand} {TL : TypeId} {ls ks : List Leaf} (hB : aaj P TL m1 m2) (hal : al.contains k = false) (hx : Rg.ni l n T a0 k x (bg ls)) (hy : Rg.ni l n T a0 k y (bg ks)) (h1 : lsize ls = m1) (h2 : lsize ks = m2) (hT : T k = bg (ls ++ ks)) :
  Rg.Step P Q l n T G jb al a0 k { dst := some d, op := .build TL #[(0, x), (1, y)], type := ty, pos := pos, after := af, guard := gd } := by
 intro a w hG hO hN
 obtain ⟨us, e1, g1⟩ := hx a w hO hN
 obtain ⟨vs, e2, g2⟩ := hy a w hO hN
 exact uh (hB a.eval w (some d) x y us vs ty pos af gd (by rw [g1.len, h1]) (by rw [g2.len, h2]) e1 e2) ⟨_, rfl, hG, Below.refl _ _, by rw [hT]; exact ⟨_, rfl, g2.app g1⟩, fun h => by rw [hal] at h; cases h⟩
def aqx (P : Program) (T : TypeId) (cs : List Value) : Prop := ∀ (ρ : Operand → Value) (w : World) (d : Option Tmp) (ty : TypeId) (pos : String) (af : Array Edge) (gd : Option (Nat × Bool)),
 (execOp ρ { dst := d, op := .build T #[], type := ty, pos := pos, after := af, guard := gd }).run P w = .ok (.value (.agg cs.toArray)) w
theorem Ca {P : Program} {Q : Exit → Act → World → Prop} {l : List Oper} {n : Nat} {T : Nat → World → Value → Prop} {G : World → Prop} {al : List Nat} {a0 : Act} {k d : Nat} {ty : TypeId} {pos : String} {af : Array Edge} {gd : Option (Nat × Bool)} {TL : TypeId} {cs : List Value} (hB : aqx P TL cs) (hal : al.contains k = false) (hw : cs.all okV = true) (hT : T k = bg (cs.map .v)) :
  Rg.Step P Q l n T G jb al a0 k { dst := some d, op := .build TL #[], type := ty, pos := pos, after := af, guard := gd } := by
 intro a w hG hO hN
 exact uh (hB a.eval w (some d) ty pos af gd) ⟨_, rfl, hG, Below.refl _ _, by rw [hT]; exact ⟨_, rfl, jf.vs _ cs hw⟩, fun h => by rw [hal] at h; cases h⟩
def Qh (T : TypeId) (m : Nat) (ls : List Leaf) : World → Value → Prop := fun W v => ∃ b, v = .slice (some ⟨b, 0, none⟩) m m ∧ Cm W b T ls
theorem Ji (T : TypeId) (m : Nat) (ls : List Leaf) : Rg.Gj jb (Qh T m ls) := by
 rintro w w' v hb ⟨b, rfl, h2⟩
 exact ⟨b, rfl, h2.below hb⟩
def abq (ρ : Operand → Value) (ms : Nat) : Nat → List (Nat × Operand) → List Value → Prop
 | _, [], cs => cs = []
 | i, p :: ps, cs => ∃ us r, cs = us ++ r ∧ us.length = ms ∧ p.1 = i ∧ ρ p.2 = .agg us.toArray ∧ abq ρ ms (i + 1) ps r
def Rv (P : Program) (TS TE : TypeId) (m ms : Nat) : Prop := ∀ (ρ : Operand → Value) (w : World) (d : Option Tmp) (ps : List (Nat × Operand)) (cs : List Value) (ty : TypeId) (pos : String) (af : Array Edge) (gd : Option (Nat × Bool)), ps.length = m → abq ρ ms 0 ps cs →
 (execOp ρ { dst := d, op := .buildSlice TS m ps.toArray, type := ty, pos := pos, after := af, guard := gd }).run P w = .ok (.value (.slice (some ⟨w.heap.size, 0, none⟩) m m)) (w.alloc (.cells cs.toArray TE))
def wy (l : List Oper) (n : Nat) (T : Nat → World → Value → Prop) (a0 : Act) (k ms : Nat) : Nat → List (Nat × Operand) → List (List Leaf) → Prop
 | _, [], gs => gs = []
 | i, p :: ps, gs => ∃ g r, gs = g :: r ∧ lsize g = ms ∧ p.1 = i ∧ Rg.ni l n T a0 k p.2 (bg g) ∧ wy l n T a0 k ms (i + 1) ps r
theorem wy.nil {l : List Oper} {n : Nat} {T : Nat → World → Value → Prop} {a0 : Act} {k ms i : Nat} : wy l n T a0 k ms i [] [] := rfl
theorem wy.cons {l : List Oper} {n : Nat} {T : Nat → World → Value → Prop} {a0 : Act} {k ms i : Nat} {x : Operand} {ps : List (Nat × Operand)} {g : List Leaf} {r : List (List Leaf)} (h : Rg.ni l n T a0 k x (bg g)) (hm : lsize g = ms) (hr : wy l n T a0 k ms (i + 1) ps r) : wy l n T a0 k ms i ((i, x) :: ps) (g :: r) := ⟨g, r, rfl, hm, rfl, h, hr⟩
theorem aeu {l : List Oper} {n : Nat} {T : Nat → World → Value → Prop} {a0 a : Act} {k ms : Nat} {w : World} (hO : ∀ t, Rg.Kb l n t = true → a.tmps.getD t undef = a0.tmps.getD t undef) (hN : ∀ j d, Rg.waits l k j d = true → T j w (a.tmps.getD d undef)) :
  ∀ {ps : List (Nat × Operand)} {gs : List (List Leaf)} {i : Nat}, wy l n T a0 k ms i ps gs → ∃ cs, abq a.eval ms i ps cs ∧ jf w gs.flatten cs
 | [], _, _, h => by cases h; exact ⟨[], rfl, rfl⟩
 | p :: ps, _, i, ⟨g, r, e, h1, h2, h3, h4⟩ => by
  subst e
  obtain ⟨cs, k1, k2⟩ := aeu hO hN (ps := ps) h4
  obtain ⟨us, e1, g1⟩ := h3 a w hO hN
  exact ⟨us ++ cs, ⟨us, cs, rfl, by rw [g1.len, h1], h2, e1, k1⟩, k2.app g1⟩
theorem Fz {P : Program} {Q : Exit → Act → World → Prop} {l : List Oper} {n : Nat} {T : Nat → World → Value → Prop} {G : World → Prop} {al : List Nat} {a0 : Act} {k d : Nat} {ty : TypeId} {pos : String} {af : Array Edge} {gd : Option (Nat × Bool)} {TS TE : TypeId} {m ms : Nat} {ps : List (Nat × Operand)} {gs : List (List Leaf)} (hB : Rv P TS TE m ms) (hal : al.contains k = false) (Io : ∀ W W', G W → jb W W' → G W') (hm : ps.length = m) (ha : wy l n T a0 k ms 0 ps gs) (hT : T k = Qh TE m gs.flatten) :
  Rg.Step P Q l n T G jb al a0 k { dst := some d, op := .buildSlice TS m ps.toArray, type := ty, pos := pos, after := af, guard := gd } := by
 intro a w hG hO hN
 obtain ⟨cs, h1, h2⟩ := aeu hO hN ha
 have hb : jb w (w.alloc (.cells cs.toArray TE)) := (Below.refl _ _).alloc (Nat.le_refl _) _
 exact uh (hB a.eval w (some d) ps cs ty pos af gd hm h1) ⟨_, rfl, Io _ _ hG hb, hb, by rw [hT]; exact ⟨w.heap.size, rfl, cs, heap_alloc_new w _, h2.below hb⟩, fun h => by rw [hal] at h; cases h⟩
theorem oo {P : Program} {Q : Exit → Act → World → Prop} {l : List Oper} {n : Nat} {T : Nat → World → Value → Prop} {G : World → Prop} {al : List Nat} {a0 : Act} {k d : Nat} {ty : TypeId} {pos : String} {af : Array Edge} {gd : Option (Nat × Bool)} {x : Operand} {ts : List (World → Value → Prop)} {i : Nat} (hal : al.contains k = false) (hx : Rg.ni l n T a0 k x (qj ts)) (hi : i < ts.length) (hT : T k = Rg.pick ts i) :
  Rg.Step P Q l n T G jb al a0 k { dst := some d, op := .extract x i, type := ty, pos := pos, after := af, guard := gd } :=
 bfk hal hx (fun W v ⟨vs, h1, h2⟩ => by
  obtain ⟨u, h3, h4⟩ := h2.get i hi
  exact ⟨vs.toArray, h1, u, by simpa using h3, by rw [hT]; exact h4⟩)
theorem asy {P : Program} {ops : Array Oper} {Q : Exit → Act → World → Prop} {rest : List Oper} {a : Act} {w0 w : World} {TL TB : TypeId} {p x : Operand} {m b off : Nat} {xs ys : List Az} {pre old new post : List Leaf} {ty : TypeId} {pos : String} {af : Array Edge}
  (hS : Fv P TL m) (hp : a.eval p = .pointer (some ⟨b, off, none⟩)) (hv : bg new w (a.eval x)) (hO : Own w0 (xs ++ (b, TB, pre ++ (old ++ post)) :: ys) w) (hm : lsize new = m) (hl : lsize new = lsize old) (ho : off = lsize pre)
  (hk : ∀ w', Own w0 (xs ++ (b, TB, pre ++ (new ++ post)) :: ys) w' → (∀ ks u, bg ks w u → bg ks w' u) → wpList P ops Q rest a w') :
  wpList P ops Q ({ dst := none, op := .store TL p x, type := ty, pos := pos, after := af, guard := none } :: rest) a w := by
 obtain ⟨us, e, hu⟩ := hv
 have hbx := hO.box b TB _ (List.mem_append_right _ List.mem_cons_self)
 obtain ⟨hge, cs, hb, hls⟩ := hbx
 have hr := hS a.eval w none p x b off cs TB us ty pos af none (by rw [hu.len, hm]) (fun u h => (hu.noW u h).2.1) hb (by
  have h1 := hls.len
  obtain ⟨c, cd, rfl, k1, k2⟩ := hls.cut
  obtain ⟨o, d, rfl, k3, k4⟩ := k2.cut
  have e1 := k1.len
  have e3 := k3.len
  simp only [List.length_append]
  omega) hp e
 unfold wpList
 rw [if_pos (by simp [Region.wanted])]
 refine .inl ?_
 unfold Oper.wp
 rw [hr]
 exact hk _ (hO.set hu hl ho) (fun ks u h => azr ⟨cs, hb, hls⟩ h)
theorem Dj : Ki Tryz.prog 72 3 := by
 intro ρ w d x b off us ty pos af gd hl hc hx
 match us, hl with
 | [u0, u1, u2], _ =>
 have k0 : w.cell? ⟨b, off, none⟩ = some u0 := hc 0 om
 have k1 : w.cell? ⟨b, off + 1, none⟩ = some u1 := hc 1 om
 have k2 : w.cell? ⟨b, off + 2, none⟩ = some u2 := hc 2 om
 clear hc
 simp only [execOp, hx]
 simp [go_sem, k0, k1, k2]
theorem oq : Ki Tryz.prog 74 6 := by
 intro ρ w d x b off us ty pos af gd hl hc hx
 match us, hl with
 | [u0, u1, u2, u3, u4, u5], _ =>
 have k0 : w.cell? ⟨b, off, none⟩ = some u0 := hc 0 om
 have k1 : w.cell? ⟨b, off + 1, none⟩ = some u1 := hc 1 om
 have k2 : w.cell? ⟨b, off + 2, none⟩ = some u2 := hc 2 om
 have k3 : w.cell? ⟨b, off + 3, none⟩ = some u3 := hc 3 om
 have k4 : w.cell? ⟨b, off + 4, none⟩ = some u4 := hc 4 om
 have k5 : w.cell? ⟨b, off + 5, none⟩ = some u5 := hc 5 om
 clear hc
 simp only [execOp, hx]
 simp [go_sem, k0, k1, k2, k3, k4, k5]
theorem aov : Ki Tryz.prog 108 12 := by
 intro ρ w d x b off us ty pos af gd hl hc hx
 match us, hl with
 | [u0, u1, u2, u3, u4, u5, u6, u7, u8, u9, u10, u11], _ =>
 have k0 : w.cell? ⟨b, off, none⟩ = some u0 := hc 0 om
 have k1 : w.cell? ⟨b, off + 1, none⟩ = some u1 := hc 1 om
 have k2 : w.cell? ⟨b, off + 2, none⟩ = some u2 := hc 2 om
 have k3 : w.cell? ⟨b, off + 3, none⟩ = some u3 := hc 3 om
 have k4 : w.cell? ⟨b, off + 4, none⟩ = some u4 := hc 4 om
 have k5 : w.cell? ⟨b, off + 5, none⟩ = some u5 := hc 5 om
 have k6 : w.cell? ⟨b, off + 6, none⟩ = some u6 := hc 6 om
 have k7 : w.cell? ⟨b, off + 7, none⟩ = some u7 := hc 7 om
 have k8 : w.cell? ⟨b, off + 8, none⟩ = some u8 := hc 8 om
 have k9 : w.cell? ⟨b, off + 9, none⟩ = some u9 := hc 9 om
 have k10 : w.cell? ⟨b, off + 10, none⟩ = some u10 := hc 10 om
 have k11 : w.cell? ⟨b, off + 11, none⟩ = some u11 := hc 11 om
 clear hc
 simp only [execOp, hx]
 simp [go_sem, k0, k1, k2, k3, k4, k5, k6, k7, k8, k9, k10, k11]
theorem zb : Ki Tryz.prog 23 2 := by
 intro ρ w d x b off us ty pos af gd hl hc hx
 match us, hl with
 | [u0, u1], _ =>
 have k0 : w.cell? ⟨b, off, none⟩ = some u0 := hc 0 om
 have k1 : w.cell? ⟨b, off + 1, none⟩ = some u1 := hc 1 om
 clear hc
 simp only [execOp, hx]
 simp [go_sem, k0, k1]
theorem qi : Ki Tryz.prog 41 4 := by
 intro ρ w d x b off us ty pos af gd hl hc hx
 match us, hl with
 | [u0, u1, u2, u3], _ =>
 have k0 : w.cell? ⟨b, off, none⟩ = some u0 := hc 0 om
 have k1 : w.cell? ⟨b, off + 1, none⟩ = some u1 := hc 1 om
 have k2 : w.cell? ⟨b, off + 2, none⟩ = some u2 := hc 2 om
 have k3 : w.cell? ⟨b, off + 3, none⟩ = some u3 := hc 3 om
 clear hc
 simp only [execOp, hx]
 simp [go_sem, k0, k1, k2, k3]
theorem Nn : Fv Tryz.prog 72 3 := by
 intro ρ w d p x b off cs TB us ty pos af gd hl hu hb ho hp hx
 match us, hl with
 | [u0, u1, u2], _ =>
 have o0 := hu u0 (by simp)
 have o1 := hu u1 (by simp)
 have o2 := hu u2 (by simp)
 have f0 : w.frozen? ⟨b, off, none⟩ = false := bz hb _
 have f1 : w.frozen? ⟨b, off + 1, none⟩ = false := bz hb _
 have f2 : w.frozen? ⟨b, off + 2, none⟩ = false := bz hb _
 obtain ⟨c0, k0⟩ : ∃ c, w.cell? ⟨b, off, none⟩ = some c := pg hb om
 obtain ⟨c1, k1⟩ : ∃ c, w.cell? ⟨b, off + 1, none⟩ = some c := pg hb om
 obtain ⟨c2, k2⟩ : ∃ c, w.cell? ⟨b, off + 2, none⟩ = some c := pg hb om
 have hlt := lt_of_block hb
 clear hb ho hu
 simp only [execOp, hp, hx, setM]
 simp [go_sem, hlt, run_store _ _ _ _ _ o0, o0, run_store _ _ _ _ _ o1, o1, run_store _ _ _ _ _ o2, o2, k0, k1, k2, f0, f1, f2]
theorem Br : Fv Tryz.prog 74 6 := by
 intro ρ w d p x b off cs TB us ty pos af gd hl hu hb ho hp hx
 match us, hl with
 | [u0, u1, u2, u3, u4, u5], _ =>
 have o0 := hu u0 (by simp)
 have o1 := hu u1 (by simp)
 have o2 := hu u2 (by simp)
 have o3 := hu u3 (by simp)
 have o4 := hu u4 (by simp)
 have o5 := hu u5 (by simp)
 have f0 : w.frozen? ⟨b, off, none⟩ = false := bz hb _
 have f1 : w.frozen? ⟨b, off + 1, none⟩ = false := bz hb _
 have f2 : w.frozen? ⟨b, off + 2, none⟩ = false := bz hb _
 have f3 : w.frozen? ⟨b, off + 3, none⟩ = false := bz hb _
 have f4 : w.frozen? ⟨b, off + 4, none⟩ = false := bz hb _
 have f5 : w.frozen? ⟨b, off + 5, none⟩ = false := bz hb _
 obtain ⟨c0, k0⟩ : ∃ c, w.cell? ⟨b, off, none⟩ = some c := pg hb om
 obtain ⟨c1, k1⟩ : ∃ c, w.cell? ⟨b, off + 1, none⟩ = some c := pg hb om
 obtain ⟨c2, k2⟩ : ∃ c, w.cell? ⟨b, off + 2, none⟩ = some c := pg hb om
 obtain ⟨c3, k3⟩ : ∃ c, w.cell? ⟨b, off + 3, none⟩ = some c := pg hb om
 obtain ⟨c4, k4⟩ : ∃ c, w.cell? ⟨b, off + 4, none⟩ = some c := pg hb om
 obtain ⟨c5, k5⟩ : ∃ c, w.cell? ⟨b, off + 5, none⟩ = some c := pg hb om
 have hlt := lt_of_block hb
 clear hb ho hu
 simp only [execOp, hp, hx, setM]
 simp [go_sem, hlt, run_store _ _ _ _ _ o0, o0, run_store _ _ _ _ _ o1, o1, run_store _ _ _ _ _ o2, o2, run_store _ _ _ _ _ o3, o3, run_store _ _ _ _ _ o4, o4, run_store _ _ _ _ _ o5, o5, k0, k1, k2, k3, k4, k5, f0, f1, f2, f3, f4, f5]
theorem Jh : Fv Tryz.prog 108 12 := by
 intro ρ w d p x b off cs TB us ty pos af gd hl hu hb ho hp hx
 match us, hl with
 | [u0, u1, u2, u3, u4, u5, u6, u7, u8, u9, u10, u11], _ =>
 have o0 := hu u0 (by simp)
 have o1 := hu u1 (by simp)
 have o2 := hu u2 (by simp)
 have o3 := hu u3 (by simp)
 have o4 := hu u4 (by simp)
 have o5 := hu u5 (by simp)
 have o6 := hu u6 (by simp)
 have o7 := hu u7 (by simp)
 have o8 := hu u8 (by simp)
 have o9 := hu u9 (by simp)
 have o10 := hu u10 (by simp)
 have o11 := hu u11 (by simp)
 have f0 : w.frozen? ⟨b, off, none⟩ = false := bz hb _
 have f1 : w.frozen? ⟨b, off + 1, none⟩ = false := bz hb _
 have f2 : w.frozen? ⟨b, off + 2, none⟩ = false := bz hb _
 have f3 : w.frozen? ⟨b, off + 3, none⟩ = false := bz hb _
 have f4 : w.frozen? ⟨b, off + 4, none⟩ = false := bz hb _
 have f5 : w.frozen? ⟨b, off + 5, none⟩ = false := bz hb _
 have f6 : w.frozen? ⟨b, off + 6, none⟩ = false := bz hb _
 have f7 : w.frozen? ⟨b, off + 7, none⟩ = false := bz hb _
 have f8 : w.frozen? ⟨b, off + 8, none⟩ = false := bz hb _
 have f9 : w.frozen? ⟨b, off + 9, none⟩ = false := bz hb _
 have f10 : w.frozen? ⟨b, off + 10, none⟩ = false := bz hb _
 have f11 : w.frozen? ⟨b, off + 11, none⟩ = false := bz hb _
 obtain ⟨c0, k0⟩ : ∃ c, w.cell? ⟨b, off, none⟩ = some c := pg hb om
 obtain ⟨c1, k1⟩ : ∃ c, w.cell? ⟨b, off + 1, none⟩ = some c := pg hb om
 obtain ⟨c2, k2⟩ : ∃ c, w.cell? ⟨b, off + 2, none⟩ = some c := pg hb om
 obtain ⟨c3, k3⟩ : ∃ c, w.cell? ⟨b, off + 3, none⟩ = some c := pg hb om
 obtain ⟨c4, k4⟩ : ∃ c, w.cell? ⟨b, off + 4, none⟩ = some c := pg hb om
 obtain ⟨c5, k5⟩ : ∃ c, w.cell? ⟨b, off + 5, none⟩ = some c := pg hb om
 obtain ⟨c6, k6⟩ : ∃ c, w.cell? ⟨b, off + 6, none⟩ = some c := pg hb om
 obtain ⟨c7, k7⟩ : ∃ c, w.cell? ⟨b, off + 7, none⟩ = some c := pg hb om
 obtain ⟨c8, k8⟩ : ∃ c, w.cell? ⟨b, off + 8, none⟩ = some c := pg hb om
 obtain ⟨c9, k9⟩ : ∃ c, w.cell? ⟨b, off + 9, none⟩ = some c := pg hb om
 obtain ⟨c10, k10⟩ : ∃ c, w.cell? ⟨b, off + 10, none⟩ = some c := pg hb om
 obtain ⟨c11, k11⟩ : ∃ c, w.cell? ⟨b, off + 11, none⟩ = some c := pg hb om
 have hlt := lt_of_block hb
 clear hb ho hu
 simp only [execOp, hp, hx, setM]
 simp [go_sem, hlt, run_store _ _ _ _ _ o0, o0, run_store _ _ _ _ _ o1, o1, run_store _ _ _ _ _ o2, o2, run_store _ _ _ _ _ o3, o3, run_store _ _ _ _ _ o4, o4, run_store _ _ _ _ _ o5, o5, run_store _ _ _ _ _ o6, o6, run_store _ _ _ _ _ o7, o7, run_store _ _ _ _ _ o8, o8, run_store _ _ _ _ _ o9, o9, run_store _ _ _ _ _ o10, o10, run_store _ _ _ _ _ o11, o11, k0, k1, k2, k3, k4, k5, k6, k7, k8, k9, k10, k11, f0, f1, f2, f3, f4, f5, f6, f7, f8, f9, f10, f11]
theorem Gs : Fv Tryz.prog 23 2 := by
 intro ρ w d p x b off cs TB us ty pos af gd hl hu hb ho hp hx
 match us, hl with
 | [u0, u1], _ =>
 have o0 := hu u0 (by simp)
 have o1 := hu u1 (by simp)
 have f0 : w.frozen? ⟨b, off, none⟩ = false := bz hb _
 have f1 : w.frozen? ⟨b, off + 1, none⟩ = false := bz hb _
 obtain ⟨c0, k0⟩ : ∃ c, w.cell? ⟨b, off, none⟩ = some c := pg hb om
 obtain ⟨c1, k1⟩ : ∃ c, w.cell? ⟨b, off + 1, none⟩ = some c := pg hb om
 have hlt := lt_of_block hb
 clear hb ho hu
 simp only [execOp, hp, hx, setM]
 simp [go_sem, hlt, run_store _ _ _ _ _ o0, o0, run_store _ _ _ _ _ o1, o1, k0, k1, f0, f1]
theorem vo : Fv Tryz.prog 41 4 := by
 intro ρ w d p x b off cs TB us ty pos af gd hl hu hb ho hp hx
 match us, hl with
 | [u0, u1, u2, u3], _ =>
 have o0 := hu u0 (by simp)
 have o1 := hu u1 (by simp)
 have o2 := hu u2 (by simp)
 have o3 := hu u3 (by simp)
 have f0 : w.frozen? ⟨b, off, none⟩ = false := bz hb _
 have f1 : w.frozen? ⟨b, off + 1, none⟩ = false := bz hb _
 have f2 : w.frozen? ⟨b, off + 2, none⟩ = false := bz hb _
 have f3 : w.frozen? ⟨b, off + 3, none⟩ = false := bz hb _
 obtain ⟨c0, k0⟩ : ∃ c, w.cell? ⟨b, off, none⟩ = some c := pg hb om
 obtain ⟨c1, k1⟩ : ∃ c, w.cell? ⟨b, off + 1, none⟩ = some c := pg hb om
 obtain ⟨c2, k2⟩ : ∃ c, w.cell? ⟨b, off + 2, none⟩ = some c := pg hb om
 obtain ⟨c3, k3⟩ : ∃ c, w.cell? ⟨b, off + 3, none⟩ = some c := pg hb om
 have hlt := lt_of_block hb
 clear hb ho hu
 simp only [execOp, hp, hx, setM]
 simp [go_sem, hlt, run_store _ _ _ _ _ o0, o0, run_store _ _ _ _ _ o1, o1, run_store _ _ _ _ _ o2, o2, run_store _ _ _ _ _ o3, o3, k0, k1, k2, k3, f0, f1, f2, f3]
theorem aws : Qi Tryz.prog 72 [.int .i64 0, .bool false, .slice none 0 0] := by
 intro ρ w d ty pos af gd
 simp only [execOp]
 simp [go_sem]
theorem Ps : Qi Tryz.prog 74 [.int .i64 0, .bool false, .slice none 0 0, .int .i64 0, .bool false, .slice none 0 0] := by
 intro ρ w d ty pos af gd
 simp only [execOp]
 simp [go_sem]
theorem ale : Qi Tryz.prog 108 [.int .i64 0, .bool false, .slice none 0 0, .int .i64 0, .bool false, .slice none 0 0, .int .i64 0, .bool false, .slice none 0 0, .int .i64 0, .bool false, .slice none 0 0] := by
 intro ρ w d ty pos af gd
 simp only [execOp]
 simp [go_sem]
theorem Lm : Qi Tryz.prog 23 [.int .i64 0, .int .i64 0] := by
 intro ρ w d ty pos af gd
 simp only [execOp]
 simp [go_sem]
theorem Sr : Qi Tryz.prog 41 [.int .i64 0, .int .i64 0, .int .i64 0, .int .i64 0] := by
 intro ρ w d ty pos af gd
 simp only [execOp]
 simp [go_sem]
theorem abj : aaj Tryz.prog 108 6 6 := by
 intro ρ w d x y us vs ty pos af gd h1 h2 e1 e2
 match us, h1, vs, h2 with
 | [u0, u1, u2, u3, u4, u5], _, [v0, v1, v2, v3, v4, v5], _ =>
 simp only [execOp]
 simp [go_sem, e1, e2]
 try rfl
theorem Rp : aaj Tryz.prog 41 2 2 := by
 intro ρ w d x y us vs ty pos af gd h1 h2 e1 e2
 match us, h1, vs, h2 with
 | [u0, u1], _, [v0, v1], _ =>
 simp only [execOp]
 simp [go_sem, e1, e2]
 try rfl
theorem Ce : aqx Tryz.prog 41 [.int .i64 0, .int .i64 0, .int .i64 0, .int .i64 0] := by
 intro ρ w d ty pos af gd
 simp only [execOp]
 simp [go_sem]
 try rfl
theorem aaa : Rv Tryz.prog 153 74 1 6 := by
 intro ρ w d ps cs ty pos af gd hm h
 match ps, hm with
 | [(i0, x0)], _ =>
 obtain ⟨us0, r0, rfl, l0, e0, g0, h⟩ := h
 cases h
 match us0, l0 with
 | [awe, awd, awc, avz, bka, bjz], _ =>
 dsimp only at e0 g0
 subst e0
 simp only [execOp]
 simp [go_sem, g0]
 try rfl
theorem Zz : Rv Tryz.prog 153 74 3 6 := by
 intro ρ w d ps cs ty pos af gd hm h
 match ps, hm with
 | [(i0, x0), (i1, x1), (i2, x2)], _ =>
 obtain ⟨us0, r0, rfl, l0, e0, g0, h⟩ := h
 obtain ⟨us1, r1, rfl, l1, e1, g1, h⟩ := h
 obtain ⟨us2, r2, rfl, l2, e2, g2, h⟩ := h
 cases h
 match us0, l0 with
 | [awe, awd, awc, avz, bka, bjz], _ =>
 match us1, l1 with
 | [bdu, bdt, bds, bdr, bvd, bvc], _ =>
 match us2, l2 with
 | [bjy, bjx, bjw, bjv, bvb, bva], _ =>
 dsimp only at e0 e1 e2 g0 g1 g2
 subst e0 e1 e2
 simp only [execOp]
 simp [go_sem, g0, g1, g2]
 try rfl
theorem Tt : Rv Tryz.prog 150 41 2 4 := by
 intro ρ w d ps cs ty pos af gd hm h
 match ps, hm with
 | [(i0, x0), (i1, x1)], _ =>
 obtain ⟨us0, r0, rfl, l0, e0, g0, h⟩ := h
 obtain ⟨us1, r1, rfl, l1, e1, g1, h⟩ := h
 cases h
 match us0, l0 with
 | [awe, awd, awc, avz], _ =>
 match us1, l1 with
 | [bdu, bdt, bds, bdr], _ =>
 dsimp only at e0 e1 g0 g1
 subst e0 e1
 simp only [execOp]
 simp [go_sem, g0, g1]
 try rfl
theorem baa : Kl Tryz.prog (fun x => .indexAddr 108 x (.const (.int .i64 0))) 0 := by
 intro a w d x b off ty pos af gd hx
 have hc : ∀ v, a.eval (.const v) = v := fun _ => rfl
 simp only [execOp, hx, hc]
 simp [go_sem]
theorem Be {Q : Exit → Act → World → Prop} {l : List Oper} {n : Nat} {T : Nat → World → Value → Prop} {G : World → Prop} {al : List Nat} {a0 : Act} {k d : Nat} {ty : TypeId} {pos : String} {af : Array Edge} {gd : Option (Nat × Bool)} {b off off' : Nat} {x : Operand} (hal : al.contains k = false) (hx : Rg.ni l n T a0 k x (Rg.cz (.pointer (some ⟨b, off, none⟩)))) (ho : off + 0 = off') (hT : T k = Rg.cz (.pointer (some ⟨b, off', none⟩))) :
  Rg.Step Tryz.prog Q l n T G jb al a0 k { dst := some d, op := .indexAddr 108 x (.const (.int .i64 0)), type := ty, pos := pos, after := af, guard := gd } := by
 exact Lx (P := Tryz.prog) (o := fun x => .indexAddr 108 x (.const (.int .i64 0))) baa hal hx ho hT
theorem azz : Kl Tryz.prog (fun x => .indexAddr 108 x (.const (.int .i64 1))) 6 := by
 intro a w d x b off ty pos af gd hx
 have hc : ∀ v, a.eval (.const v) = v := fun _ => rfl
 simp only [execOp, hx, hc]
 simp [go_sem]
theorem Bt {Q : Exit → Act → World → Prop} {l : List Oper} {n : Nat} {T : Nat → World → Value → Prop} {G : World → Prop} {al : List Nat} {a0 : Act} {k d : Nat} {ty : TypeId} {pos : String} {af : Array Edge} {gd : Option (Nat × Bool)} {b off off' : Nat} {x : Operand} (hal : al.contains k = false) (hx : Rg.ni l n T a0 k x (Rg.cz (.pointer (some ⟨b, off, none⟩)))) (ho : off + 6 = off') (hT : T k = Rg.cz (.pointer (some ⟨b, off', none⟩))) :
  Rg.Step Tryz.prog Q l n T G jb al a0 k { dst := some d, op := .indexAddr 108 x (.const (.int .i64 1)), type := ty, pos := pos, after := af, guard := gd } := by
 exact Lx (P := Tryz.prog) (o := fun x => .indexAddr 108 x (.const (.int .i64 1))) azz hal hx ho hT
theorem azw : Kl Tryz.prog (fun x => .fieldAddr 41 x 0) 0 := by
 intro a w d x b off ty pos af gd hx
 have hc : ∀ v, a.eval (.const v) = v := fun _ => rfl
 simp only [execOp, hx, hc]
 simp [go_sem]
theorem En {Q : Exit → Act → World → Prop} {l : List Oper} {n : Nat} {T : Nat → World → Value → Prop} {G : World → Prop} {al : List Nat} {a0 : Act} {k d : Nat} {ty : TypeId} {pos : String} {af : Array Edge} {gd : Option (Nat × Bool)} {b off off' : Nat} {x : Operand} (hal : al.contains k = false) (hx : Rg.ni l n T a0 k x (Rg.cz (.pointer (some ⟨b, off, none⟩)))) (ho : off + 0 = off') (hT : T k = Rg.cz (.pointer (some ⟨b, off', none⟩))) :
  Rg.Step Tryz.prog Q l n T G jb al a0 k { dst := some d, op := .fieldAddr 41 x 0, type := ty, pos := pos, after := af, guard := gd } := by
 exact Lx (P := Tryz.prog) (o := fun x => .fieldAddr 41 x 0) azw hal hx ho hT
theorem azv : Kl Tryz.prog (fun x => .fieldAddr 41 x 1) 2 := by
 intro a w d x b off ty pos af gd hx
 have hc : ∀ v, a.eval (.const v) = v := fun _ => rfl
 simp only [execOp, hx, hc]
 simp [go_sem]
theorem Ga {Q : Exit → Act → World → Prop} {l : List Oper} {n : Nat} {T : Nat → World → Value → Prop} {G : World → Prop} {al : List Nat} {a0 : Act} {k d : Nat} {ty : TypeId} {pos : String} {af : Array Edge} {gd : Option (Nat × Bool)} {b off off' : Nat} {x : Operand} (hal : al.contains k = false) (hx : Rg.ni l n T a0 k x (Rg.cz (.pointer (some ⟨b, off, none⟩)))) (ho : off + 2 = off') (hT : T k = Rg.cz (.pointer (some ⟨b, off', none⟩))) :
  Rg.Step Tryz.prog Q l n T G jb al a0 k { dst := some d, op := .fieldAddr 41 x 1, type := ty, pos := pos, after := af, guard := gd } := by
 exact Lx (P := Tryz.prog) (o := fun x => .fieldAddr 41 x 1) azv hal hx ho hT
theorem azy : Kl Tryz.prog (fun x => .fieldAddr 74 x 0) 0 := by
 intro a w d x b off ty pos af gd hx
 have hc : ∀ v, a.eval (.const v) = v := fun _ => rfl
 simp only [execOp, hx, hc]
 simp [go_sem]
theorem anv {Q : Exit → Act → World → Prop} {l : List Oper} {n : Nat} {T : Nat → World → Value → Prop} {G : World → Prop} {al : List Nat} {a0 : Act} {k d : Nat} {ty : TypeId} {pos : String} {af : Array Edge} {gd : Option (Nat × Bool)} {b off off' : Nat} {x : Operand} (hal : al.contains k = false) (hx : Rg.ni l n T a0 k x (Rg.cz (.pointer (some ⟨b, off, none⟩)))) (ho : off + 0 = off') (hT : T k = Rg.cz (.pointer (some ⟨b, off', none⟩))) :
  Rg.Step Tryz.prog Q l n T G jb al a0 k { dst := some d, op := .fieldAddr 74 x 0, type := ty, pos := pos, after := af, guard := gd } := by
 exact Lx (P := Tryz.prog) (o := fun x => .fieldAddr 74 x 0) azy hal hx ho hT
theorem azx : Kl Tryz.prog (fun x => .fieldAddr 74 x 1) 3 := by
 intro a w d x b off ty pos af gd hx
 have hc : ∀ v, a.eval (.const v) = v := fun _ => rfl
 simp only [execOp, hx, hc]
 simp [go_sem]
theorem anu {Q : Exit → Act → World → Prop} {l : List Oper} {n : Nat} {T : Nat → World → Value → Prop} {G : World → Prop} {al : List Nat} {a0 : Act} {k d : Nat} {ty : TypeId} {pos : String} {af : Array Edge} {gd : Option (Nat × Bool)} {b off off' : Nat} {x : Operand} (hal : al.contains k = false) (hx : Rg.ni l n T a0 k x (Rg.cz (.pointer (some ⟨b, off, none⟩)))) (ho : off + 3 = off') (hT : T k = Rg.cz (.pointer (some ⟨b, off', none⟩))) :
  Rg.Step Tryz.prog Q l n T G jb al a0 k { dst := some d, op := .fieldAddr 74 x 1, type := ty, pos := pos, after := af, guard := gd } := by
 exact Lx (P := Tryz.prog) (o := fun x => .fieldAddr 74 x 1) azx hal hx ho hT
end Sb

end Go.Proofs.YtfbcdfoohpkfeaaGreatDoor
namespace Go.Proofs.YtfbcdfoohpkfeaaGreatDoor
open Go.RowKit

namespace Sb
def Kh (P : Program) (T : TypeId) (n : Nat) : Prop := ∀ (w : World) (b off : Nat) (us : List Value), us.length = n → (∀ i, i < n → w.cell? ⟨b, off + i, none⟩ = us[i]?) → (loadVar T ⟨b, off, none⟩).run P w = .ok (.agg us.toArray) w
theorem Cm.Zd {P : Program} {w : World} {b : Nat} {TB T : TypeId} {ls : List Leaf} {n : Nat} (h : Cm w b TB ls) (hL : Kh P T n) (hn : lsize ls = n) : ∃ cs : List Value, (loadVar T ⟨b, 0, none⟩).run P w = .ok (.agg cs.toArray) w ∧ jf w ls cs := by
 obtain ⟨cs, h1, h2⟩ := h
 have h3 := hL w b 0 cs (by rw [h2.len, hn]) (fun i hi => by
  have e : cs.length = n := by rw [h2.len, hn]
  have := ada (c := []) (m := cs) (d := []) (by simpa using h1) i om
  simpa using this)
 exact ⟨cs, h3, h2⟩
section
variable {P : Program} {fn : Func} {a : Act} {w w0 : World} {bs : List Az} {s s2 t t2 b b2 : Nat} {TB T TB2 T2 : TypeId} {ls ls2 : List Leaf} {n n2 : Nat} {u u2 : Value}
theorem Cw (hr : fn.results = #[.tmp t]) (ht : a.tmps.getD t undef = u) (hB : Below w0.heap.size w0 w) (hd : a.defers = []) : bodyPost P fn (nk (Rg.cz u) w0) .ret a w :=
 bodyPost_ret (v := u) (by simp only [results, hr]; simp [go_sem]; simpa using ht) hd ⟨u, rfl, hB, rfl⟩
theorem Lt (hr : fn.results = #[.cell s T]) (hL : Kh P T n) (ht : a.tmps.getD s undef = .pointer (some ⟨b, 0, none⟩)) (hO : Own w0 bs w) (hm : (b, TB, ls) ∈ bs) (hn : lsize ls = n) (hd : a.defers = []) : bodyPost P fn (nk (bg ls) w0) .ret a w := by
 obtain ⟨cs, h1, h2⟩ := (hO.box b TB ls hm).2.Zd hL hn
 refine bodyPost_ret (v := .agg cs.toArray) ?_ hd ⟨_, rfl, hO.bel, cs, rfl, h2⟩
 rw [Array.getD_eq_getD_getElem?] at ht
 simp only [results, hr]
 clear hO hL
 generalize loadVar = ldv at *
 simp [ht, go_sem, h1]
theorem Bv (hr : fn.results = #[.cell s T, .tmp t]) (hL : Kh P T n) (ht : a.tmps.getD s undef = .pointer (some ⟨b, 0, none⟩)) (hu : a.tmps.getD t undef = u) (hO : Own w0 bs w) (hm : (b, TB, ls) ∈ bs) (hn : lsize ls = n) (hd : a.defers = []) : bodyPost P fn (nk (qj [bg ls, Rg.cz u]) w0) .ret a w := by
 obtain ⟨cs, h1, h2⟩ := (hO.box b TB ls hm).2.Zd hL hn
 refine bodyPost_ret (v := .tuple [.agg cs.toArray, u].toArray) ?_ hd ⟨_, rfl, hO.bel, _, rfl, ⟨_, _, rfl, ⟨cs, rfl, h2⟩, _, _, rfl, rfl, rfl⟩⟩
 rw [Array.getD_eq_getD_getElem?] at ht hu
 simp only [results, hr]
 clear hO hL
 generalize loadVar = ldv at *
 simp [ht, hu, go_sem, h1]
theorem Le (hr : fn.results = #[.cell s T, .tmp t, .tmp t2]) (hL : Kh P T n) (ht : a.tmps.getD s undef = .pointer (some ⟨b, 0, none⟩)) (hu : a.tmps.getD t undef = u) (hu2 : a.tmps.getD t2 undef = u2) (hO : Own w0 bs w) (hm : (b, TB, ls) ∈ bs) (hn : lsize ls = n) (hd : a.defers = []) : bodyPost P fn (nk (qj [bg ls, Rg.cz u, Rg.cz u2]) w0) .ret a w := by
 obtain ⟨cs, h1, h2⟩ := (hO.box b TB ls hm).2.Zd hL hn
 refine bodyPost_ret (v := .tuple [.agg cs.toArray, u, u2].toArray) ?_ hd ⟨_, rfl, hO.bel, _, rfl, ⟨_, _, rfl, ⟨cs, rfl, h2⟩, _, _, rfl, rfl, _, _, rfl, rfl, rfl⟩⟩
 rw [Array.getD_eq_getD_getElem?] at ht hu hu2
 simp only [results, hr]
 clear hO hL
 generalize loadVar = ldv at *
 simp [ht, hu, hu2, go_sem, h1]
theorem bda (hr : fn.results = #[.cell s T, .cell s2 T2]) (hL : Kh P T n) (hL2 : Kh P T2 n2) (ht : a.tmps.getD s undef = .pointer (some ⟨b, 0, none⟩)) (ht2 : a.tmps.getD s2 undef = .pointer (some ⟨b2, 0, none⟩)) (hO : Own w0 bs w) (hm : (b, TB, ls) ∈ bs) (hm2 : (b2, TB2, ls2) ∈ bs) (hn : lsize ls = n) (hn2 : lsize ls2 = n2) (hd : a.defers = []) : bodyPost P fn (nk (qj [bg ls, bg ls2]) w0) .ret a w := by
 obtain ⟨cs, h1, h2⟩ := (hO.box b TB ls hm).2.Zd hL hn
 obtain ⟨cs2, h3, h4⟩ := (hO.box b2 TB2 ls2 hm2).2.Zd hL2 hn2
 refine bodyPost_ret (v := .tuple [.agg cs.toArray, .agg cs2.toArray].toArray) ?_ hd ⟨_, rfl, hO.bel, _, rfl, ⟨_, _, rfl, ⟨cs, rfl, h2⟩, _, _, rfl, ⟨cs2, rfl, h4⟩, rfl⟩⟩
 rw [Array.getD_eq_getD_getElem?] at ht ht2
 simp only [results, hr]
 clear hO hL
 generalize loadVar = ldv at *
 simp [ht, ht2, go_sem, h1, h3]
end
theorem aoa {P : Program} {F : Nat} (hF : ∀ (vs : Array Value) (w : World), (callFunc F vs).run P w = .ok (.enter F vs) w) {a : Act} {w : World} {d : Option Tmp} {x : Operand} {xs : Array Operand} {ats : Array TypeId} {ty : TypeId} {pos : String} {af : Array Edge} {gd : Option (Nat × Bool)} (hx : a.eval x = .func (.func F) #[] #[]) :
  (execOp a.eval { dst := d, op := .call { callee := .value x, args := xs, argTypes := ats }, type := ty, pos := pos, after := af, guard := gd }).run P w = .ok (.enter F (xs.map a.eval)) w := by
 have h := hF (#[] ++ xs.map a.eval ++ #[]) w
 rw [Array.empty_append, Array.append_empty] at h
 rw [← h]
 simp only [execOp, resolve, hx, Deferred.ofValue, invoke]
 simp only [pure_bind, Array.empty_append, Array.append_empty]
theorem atg {P : Program} {Q : Exit → Act → World → Prop} {l : List Oper} {n : Nat} {T : Nat → World → Value → Prop} {G : World → Prop} {al : List Nat} {a0 : Act} {k d : Nat} {ty : TypeId} {pos : String} {af : Array Edge} {gd : Option (Nat × Bool)} {F : Nat} {fn : Func} {f x1 x2 : Operand} {A1 A2 : World → Value → Prop} {ats : Array TypeId}
  (hF : P.funcs[F]? = some fn) (hn : (!(fn.name == "runtime.NumGoroutine") && fn.body.isSome) = true) (hal : al.contains k = false) (Io : ∀ W W', G W → jb W W' → G W') (hf : Rg.ni l n T a0 k f (Rg.cz (.func (.func F) #[] #[]))) (h1 : Rg.ni l n T a0 k x1 A1) (h2 : Rg.ni l n T a0 k x2 A2)
  (hc : ∀ (W : World) (v1 v2 : Value), G W → A1 W v1 → A2 W v2 → Calls P F #[v1, v2] W fun e w' => ∃ u, e = .returned u ∧ jb W w' ∧ T k w' u) :
  Rg.Step P Q l n T G jb al a0 k { dst := some d, op := .call { callee := .value f, args := #[x1, x2], argTypes := ats }, type := ty, pos := pos, after := af, guard := gd } := by
 intro a w hG hO hN
 refine Ja (aoa (Gu hF hn) (hf a w hO hN)) ?_
 simp only [List.map_toArray, List.map_cons, List.map_nil]
 refine (hc w (a.eval x1) (a.eval x2) hG (h1 a w hO hN) (h2 a w hO hN)).mono ?_
 rintro e w' ⟨u, rfl, hb, ht⟩
 exact ⟨u, rfl, u, rfl, Io _ _ hG hb, hb, ht, fun h => by rw [hal] at h; cases h⟩
def IfT (TI : TypeId) (ls : List Leaf) : World → Value → Prop := fun W v => ∃ u, v = .iface TI u ∧ bg ls W u
theorem Nr (TI : TypeId) (ls : List Leaf) : Rg.Gj jb (IfT TI ls) := by
 rintro w w' v hb ⟨u, rfl, h2⟩
 exact ⟨u, rfl, cu ls _ _ _ hb h2⟩
theorem Ns {Q : Exit → Act → World → Prop} {l : List Oper} {n : Nat} {T : Nat → World → Value → Prop} {G : World → Prop} {al : List Nat} {a0 : Act} {k d : Nat} {ty : TypeId} {pos : String} {af : Array Edge} {gd : Option (Nat × Bool)} {x : Operand} {ls : List Leaf} (hal : al.contains k = false) (hx : Rg.ni l n T a0 k x (bg ls)) (hT : T k = IfT 74 ls) :
  Rg.Step Tryz.prog Q l n T G jb al a0 k { dst := some d, op := .makeInterface 74 x, type := ty, pos := pos, after := af, guard := gd } := by
 intro a w hG hO hN
 have h := hx a w hO hN
 have hr : (execOp a.eval { dst := some d, op := .makeInterface 74 x, type := ty, pos := pos, after := af, guard := gd }).run Tryz.prog w = .ok (.value (.iface 74 (a.eval x))) w := by
  simp only [execOp]
  simp [go_sem]
 exact uh hr ⟨_, rfl, hG, Below.refl _ _, by rw [hT]; exact ⟨_, rfl, h⟩, fun h => by rw [hal] at h; cases h⟩
theorem aug (u v : Value) (w : World) : (callMethod (.iface 74 u) "Cmp" #[v]).run Tryz.prog w = .ok (.enter 69 #[u, v]) w := by kernel_rfl
theorem Ku {Q : Exit → Act → World → Prop} {l : List Oper} {n : Nat} {T : Nat → World → Value → Prop} {G : World → Prop} {al : List Nat} {a0 : Act} {k d : Nat} {ty : TypeId} {pos : String} {af : Array Edge} {gd : Option (Nat × Bool)} {x y : Operand} {ls : List Leaf} {A : World → Value → Prop} {ats : Array TypeId}
  (hal : al.contains k = false) (Io : ∀ W W', G W → jb W W' → G W') (hx : Rg.ni l n T a0 k x (IfT 74 ls)) (hy : Rg.ni l n T a0 k y A)
  (hc : ∀ (W : World) (v1 v2 : Value), G W → bg ls W v1 → A W v2 → Calls Tryz.prog 69 #[v1, v2] W fun e w' => ∃ u, e = .returned u ∧ jb W w' ∧ T k w' u) :
  Rg.Step Tryz.prog Q l n T G jb al a0 k { dst := some d, op := .call { callee := .invoke x "Cmp", args := #[y], argTypes := ats }, type := ty, pos := pos, after := af, guard := gd } := by
 intro a w hG hO hN
 obtain ⟨u, e, h⟩ := hx a w hO hN
 have hr : (execOp a.eval { dst := some d, op := .call { callee := .invoke x "Cmp", args := #[y], argTypes := ats }, type := ty, pos := pos, after := af, guard := gd }).run Tryz.prog w = .ok (.enter 69 #[u, a.eval y]) w := by
  have hm := aug u (a.eval y) w
  have he : (#[Value.iface 74 u] ++ #[a.eval y]).extract 1 (#[Value.iface 74 u] ++ #[a.eval y]).size = #[a.eval y] := by simp
  simp only [execOp, resolve, e, invoke, pure_bind, List.map_toArray, List.map_cons, List.map_nil]
  have h0 : (#[Value.iface 74 u] ++ #[a.eval y])[0]? = some (Value.iface 74 u) := by simp
  simp only [h0, he]
  exact hm
 refine Ja hr ?_
 refine (hc w u (a.eval y) hG h (hy a w hO hN)).mono ?_
 rintro e w' ⟨u, rfl, hb, ht⟩
 exact ⟨u, rfl, u, rfl, Io _ _ hG hb, hb, ht, fun h => by rw [hal] at h; cases h⟩
theorem bft {l : List Oper} {n : Nat} {T : Nat → World → Value → Prop} {a0 : Act} {k : Nat} (f : Nat) : Rg.ni l n T a0 k (.func f) (Rg.cz (.func (.func f) #[] #[])) := fun _ _ _ _ => rfl
theorem mi (w : World) : jb w w := Below.refl _ _
theorem agh {P : Program} {Q : Exit → Act → World → Prop} {l : List Oper} {n : Nat} {T : Nat → World → Value → Prop} {G : World → Prop} {E : World → World → Prop} {al : List Nat} {a0 : Act} {k : Nat} {o : Oper} {g : Nat} {d : Tmp} {c : Bool} (hg : o.guard = some (g, c)) (hw : Rg.waits l k g d = true) (hT : T g = Rg.cz undef) (hE : ∀ w, E w w) (hk : al.contains k = false) (hu : T k = Rg.cz undef) : Rg.Ty P Q l n T G E al a0 k o := fun a w hG hO hN => by
 have hv := hN g d hw
 rw [hT] at hv
 have hv' : a.tmps.getD d undef = undef := hv
 have hy : yielded l.toArray a.tmps g = none := by
  have h1 : (l.toArray[g]?).bind (·.dst) = some d := by simpa [Rg.qw] using Rg.Lv hw
  unfold yielded
  rw [h1]
  cases h : a.tmps[d]? with
  | none => simp [h]
  | some v => simp [h] at hv'; simp [h, hv', undef]
 rw [if_neg (by simp [Region.wanted, hg, hy])]
 exact ⟨hE w, by rw [hu]; rfl, fun h => by rw [hk] at h; cases h⟩
abbrev iv (n : Int) : Leaf := .v (.int .i64 n)
abbrev zR : List Leaf := [iv 0, iv 0]
abbrev zS : List Leaf := [iv 0, iv 0, iv 0, iv 0]
abbrev zZ : List Leaf := [iv 0, .v (.bool false), .v (.slice none 0 0)]
abbrev zQ : List Leaf := [iv 0, .v (.bool false), .v (.slice none 0 0), iv 0, .v (.bool false), .v (.slice none 0 0)]
abbrev zE : List Leaf := [iv 0, .v (.bool false), .v (.slice none 0 0), iv 0, .v (.bool false), .v (.slice none 0 0), iv 0, .v (.bool false), .v (.slice none 0 0), iv 0, .v (.bool false), .v (.slice none 0 0)]
abbrev zY : List Leaf := [.v (.slice none 0 0), .v (.bool false), .v (.slice none 0 0), .v (.bool false), .v (.slice none 0 0), .v (.bool false), .v (.slice none 0 0), .v (.bool false)]
section
variable {α : Type} {a b c d e f g h : α} {l : List α}
theorem me0 : a ∈ a :: l := List.Mem.head _
theorem rf : b ∈ a :: b :: l := List.Mem.tail _ me0
theorem ug : c ∈ a :: b :: c :: l := List.Mem.tail _ rf
theorem Ub : d ∈ a :: b :: c :: d :: l := List.Mem.tail _ ug
theorem Za : e ∈ a :: b :: c :: d :: e :: l := List.Mem.tail _ Ub
theorem me5 : f ∈ a :: b :: c :: d :: e :: f :: l := List.Mem.tail _ Za
theorem me6 : g ∈ a :: b :: c :: d :: e :: f :: g :: l := List.Mem.tail _ me5
end
theorem ah {P : Program} {Q : Exit → Act → World → Prop} {l : List Oper} {n : Nat} {T : Nat → World → Value → Prop} {G : World → Prop} {E : World → World → Prop} {al : List Nat} {a0 : Act} {k : Nat} {o : Oper} {r : List Oper} (h : Rg.Step P Q l n T G E al a0 k o) (hr : Rg.Steps P Q l n T G E al a0 (k + 1) r) (hg : o.guard = none := by rfl) : Rg.Steps P Q l n T G E al a0 k (o :: r) := Rg.dz (Rg.plain hg h) hr
theorem je {P : Program} {Q : Exit → Act → World → Prop} {l : List Oper} {n : Nat} {T : Nat → World → Value → Prop} {w V : World} {bs : List Az} {al : List Nat} {a0 : Act} {k d b off m : Nat} {x : Operand} {TB TL : TypeId} {ls : List Leaf} {ty : TypeId} {pos : String} {af : Array Edge} {gd : Option (Nat × Bool)}
  (hL : Ki P TL m) (hm : (b, TB, ls) ∈ bs) (hx : Rg.ni l n T a0 k x (Rg.cz (.pointer (some ⟨b, off, none⟩)))) (pre mid post : List Leaf) (he : ls = pre ++ (mid ++ post) := by rfl) (ho : lsize pre = off := by rfl) (hz : lsize mid = m := by rfl) (hal : al.contains k = false := by rfl) (hT : T k = bg mid := by rfl) :
  Rg.Step P Q l n T (dw w bs V) jb al a0 k { dst := some d, op := .load TL x, type := ty, pos := pos, after := af, guard := gd } := vw hL hal hx (fun W h => he ▸ dw.box hm h) ho hz hT
theorem nz {P : Program} {ops : Array Oper} {Q : Exit → Act → World → Prop} {rest : List Oper} {a : Act} {w0 w : World} {TL TB : TypeId} {p x : Operand} {m b off : Nat} {bs : List Az} {ty : TypeId} {pos : String} {af : Array Edge} (hO : Own w0 bs w) (i : Nat) (pre old new post : List Leaf)
  (hi : bs[i]? = some (b, TB, pre ++ (old ++ post))) (hS : Fv P TL m) (hp : a.eval p = .pointer (some ⟨b, off, none⟩)) (hv : bg new w (a.eval x)) (hm : lsize new = m) (hl : lsize new = lsize old) (ho : off = lsize pre)
  (hk : ∀ w', Own w0 (bs.set i (b, TB, pre ++ (new ++ post))) w' → (∀ ks u, bg ks w u → bg ks w' u) → wpList P ops Q rest a w') :
  wpList P ops Q ({ dst := none, op := .store TL p x, type := ty, pos := pos, after := af, guard := none } :: rest) a w := by
 obtain ⟨hlt, he⟩ := List.getElem?_eq_some_iff.1 hi
 have hbs : bs = bs.take i ++ (b, TB, pre ++ (old ++ post)) :: bs.drop (i + 1) := by
  rw [← he, ← List.drop_eq_getElem_cons hlt, List.take_append_drop]
 have hset : bs.set i (b, TB, pre ++ (new ++ post)) = bs.take i ++ (b, TB, pre ++ (new ++ post)) :: bs.drop (i + 1) := List.set_eq_take_append_cons_drop .. |>.trans (if_pos hlt)
 rw [hset] at hk
 rw [hbs] at hO
 exact asy hS hp hv hO hm hl ho hk
theorem ko {α : Type} {n : Nat} {a : α} {l : List α} : (a :: l).take (n + 1) = a :: l.take n := List.take_succ_cons
theorem kg {α : Type} {l : List α} : l.take 0 = [] := List.take_zero
theorem jy {α : Type} {n : Nat} {a : α} {l : List α} : (a :: l).drop (n + 1) = l.drop n := List.drop_succ_cons
theorem jw {α : Type} {l : List α} : l.drop 0 = l := List.drop_zero
theorem jr {α : Type} {l : List α} {n : Nat} {a : α} : l.toArray.setIfInBounds n a = (l.set n a).toArray := List.setIfInBounds_toArray ..
theorem jq {α : Type} {x a : α} {l : List α} : (x :: l).set 0 a = a :: l := List.set_cons_zero ..
theorem jo {α : Type} {x a : α} {l : List α} {n : Nat} : (x :: l).set (n + 1) a = x :: l.set n a := List.set_cons_succ ..
theorem Vz : Kh Tryz.prog 72 3 := by
 intro w b off us hl hc
 match us, hl with
 | [u0, u1, u2], _ =>
 have k0 : w.cell? ⟨b, off, none⟩ = some u0 := hc 0 om
 have k1 : w.cell? ⟨b, off + 1, none⟩ = some u1 := hc 1 om
 have k2 : w.cell? ⟨b, off + 2, none⟩ = some u2 := hc 2 om
 clear hc
 simp [go_sem, k0, k1, k2]
theorem aix : Kh Tryz.prog 74 6 := by
 intro w b off us hl hc
 match us, hl with
 | [u0, u1, u2, u3, u4, u5], _ =>
 have k0 : w.cell? ⟨b, off, none⟩ = some u0 := hc 0 om
 have k1 : w.cell? ⟨b, off + 1, none⟩ = some u1 := hc 1 om
 have k2 : w.cell? ⟨b, off + 2, none⟩ = some u2 := hc 2 om
 have k3 : w.cell? ⟨b, off + 3, none⟩ = some u3 := hc 3 om
 have k4 : w.cell? ⟨b, off + 4, none⟩ = some u4 := hc 4 om
 have k5 : w.cell? ⟨b, off + 5, none⟩ = some u5 := hc 5 om
 clear hc
 simp [go_sem, k0, k1, k2, k3, k4, k5]
theorem Rf : Kh Tryz.prog 108 12 := by
 intro w b off us hl hc
 match us, hl with
 | [u0, u1, u2, u3, u4, u5, u6, u7, u8, u9, u10, u11], _ =>
 have k0 : w.cell? ⟨b, off, none⟩ = some u0 := hc 0 om
 have k1 : w.cell? ⟨b, off + 1, none⟩ = some u1 := hc 1 om
 have k2 : w.cell? ⟨b, off + 2, none⟩ = some u2 := hc 2 om
 have k3 : w.cell? ⟨b, off + 3, none⟩ = some u3 := hc 3 om
 have k4 : w.cell? ⟨b, off + 4, none⟩ = some u4 := hc 4 om
 have k5 : w.cell? ⟨b, off + 5, none⟩ = some u5 := hc 5 om
 have k6 : w.cell? ⟨b, off + 6, none⟩ = some u6 := hc 6 om
 have k7 : w.cell? ⟨b, off + 7, none⟩ = some u7 := hc 7 om
 have k8 : w.cell? ⟨b, off + 8, none⟩ = some u8 := hc 8 om
 have k9 : w.cell? ⟨b, off + 9, none⟩ = some u9 := hc 9 om
 have k10 : w.cell? ⟨b, off + 10, none⟩ = some u10 := hc 10 om
 have k11 : w.cell? ⟨b, off + 11, none⟩ = some u11 := hc 11 om
 clear hc
 simp [go_sem, k0, k1, k2, k3, k4, k5, k6, k7, k8, k9, k10, k11]
theorem zq : Kh Tryz.prog 41 4 := by
 intro w b off us hl hc
 match us, hl with
 | [u0, u1, u2, u3], _ =>
 have k0 : w.cell? ⟨b, off, none⟩ = some u0 := hc 0 om
 have k1 : w.cell? ⟨b, off + 1, none⟩ = some u1 := hc 1 om
 have k2 : w.cell? ⟨b, off + 2, none⟩ = some u2 := hc 2 om
 have k3 : w.cell? ⟨b, off + 3, none⟩ = some u3 := hc 3 om
 clear hc
 simp [go_sem, k0, k1, k2, k3]
theorem atm {ρ : Operand → Value} {w : World} {d : Option Tmp} {x y : Operand} {o z : Int} {ty : TypeId} {pos : String} {af : Array Edge} {gd : Option (Nat × Bool)} (h : ρ x = .int .i64 o) (h' : ρ y = .int .i64 z) :
  (execOp ρ { dst := d, op := .binOp .eql 24 x y 24, type := ty, pos := pos, after := af, guard := gd }).run Tryz.prog w = .ok (.value (.bool (o == z))) w := by
 simp only [execOp, h, h']
 simp [go_sem, Tryz.underlying24]
theorem He {Q : Exit → Act → World → Prop} {l : List Oper} {n : Nat} {T : Nat → World → Value → Prop} {G : World → Prop} {al : List Nat} {a0 : Act} {k d : Nat} {ty : TypeId} {pos : String} {af : Array Edge} {gd : Option (Nat × Bool)} {x y : Operand} {o z : Int} {b : Bool}
  (hal : al.contains k = false) (hx : Rg.ni l n T a0 k x (Rg.cz (.int .i64 o))) (hy : Rg.ni l n T a0 k y (Rg.cz (.int .i64 z))) (hT : T k = Rg.cz (.bool b)) (hb : (o == z) = b) : Rg.Step Tryz.prog Q l n T G jb al a0 k { dst := some d, op := .binOp .eql 24 x y 24, type := ty, pos := pos, after := af, guard := gd } := by
 intro a w hG hO hN
 exact uh (P := Tryz.prog) (atm (hx a w hO hN) (hy a w hO hN)) ⟨_, rfl, hG, Below.refl _ _, by rw [hT, hb]; rfl, fun h => by rw [hal] at h; cases h⟩
theorem ati {ρ : Operand → Value} {w : World} {d : Option Tmp} {x y : Operand} {o z : Int} {ty : TypeId} {pos : String} {af : Array Edge} {gd : Option (Nat × Bool)} (h : ρ x = .int .i64 o) (h' : ρ y = .int .i64 z) :
  (execOp ρ { dst := d, op := .binOp .neq 24 x y 24, type := ty, pos := pos, after := af, guard := gd }).run Tryz.prog w = .ok (.value (.bool (o != z))) w := by
 simp only [execOp, h, h']
 simp [go_sem, Tryz.underlying24]
theorem Co {Q : Exit → Act → World → Prop} {l : List Oper} {n : Nat} {T : Nat → World → Value → Prop} {G : World → Prop} {al : List Nat} {a0 : Act} {k d : Nat} {ty : TypeId} {pos : String} {af : Array Edge} {gd : Option (Nat × Bool)} {x y : Operand} {o z : Int} {b : Bool}
  (hal : al.contains k = false) (hx : Rg.ni l n T a0 k x (Rg.cz (.int .i64 o))) (hy : Rg.ni l n T a0 k y (Rg.cz (.int .i64 z))) (hT : T k = Rg.cz (.bool b)) (hb : (o != z) = b) : Rg.Step Tryz.prog Q l n T G jb al a0 k { dst := some d, op := .binOp .neq 24 x y 24, type := ty, pos := pos, after := af, guard := gd } := by
 intro a w hG hO hN
 exact uh (P := Tryz.prog) (ati (hx a w hO hN) (hy a w hO hN)) ⟨_, rfl, hG, Below.refl _ _, by rw [hT, hb]; rfl, fun h => by rw [hal] at h; cases h⟩
end Sb

end Go.Proofs.YtfbcdfoohpkfeaaGreatDoor
namespace Go.Proofs.YtfbcdfoohpkfeaaGreatDoor
namespace Wd

def simp : Nat → Nat → Nat → Nat → Nat → Nat × Nat
 | 0, _, _, _, _ => (0, 1)
 | f + 1, a, b, c, d => if b = 1 then (a, 1) else if a / b < c / d then (a / b + 1, 1)
  else (a / b * (simp f d (c - a / b * d) b (a - a / b * b)).1 + (simp f d (c - a / b * d) b (a - a / b * b)).2, (simp f d (c - a / b * d) b (a - a / b * b)).1)

structure ahd (a b c d : Nat) : Prop where
 pa : 0 < a
 pb : 0 < b
 pc : 0 < c
 pd : 0 < d
 co : a.Coprime b
 co2 : c.Coprime d
 le : a * d ≤ c * b

theorem Wi (a b : Nat) : a - a / b * b = a % b := by
 have := Nat.div_add_mod a b
 rw [Nat.mul_comm] at this
 omega
theorem ahd.step {a b c d : Nat} (h : ahd a b c d) (hb : b ≠ 1) (hk : ¬ a / b < c / d) :
  ahd d (c - a / b * d) b (a - a / b * b) ∧ c / d = a / b ∧ c - a / b * d = c % d ∧ c - a / b * d < d ∧ a - a / b * b < b := by
 have ha := h.pa; have hb0 := h.pb; have hc := h.pc; have hd := h.pd
 have e1 := Nat.div_add_mod a b
 have r0 : a % b ≠ 0 := fun e => by
  have hdv := Nat.dvd_of_mod_eq_zero e
  have := Nat.Coprime.eq_one_of_dvd h.co.symm hdv
  exact hb this
 have hkd : a / b ≤ c / d := by
  rw [Nat.le_div_iff_mul_le hd]
  have h2 : a / b * b * d ≤ c * b := Nat.le_trans (Nat.mul_le_mul_right _ (Nat.div_mul_le_self a b)) h.le
  rw [Nat.mul_right_comm] at h2
  exact Nat.le_of_mul_le_mul_right h2 hb0
 have hq : c / d = a / b := by omega
 have e2 : c - a / b * d = c % d := by rw [← hq]; exact Wi c d
 have e3 := Wi a b
 have e4 := Nat.div_add_mod c d
 have hle : a % b * d ≤ c % d * b := by
  have hle := h.le
  rw [hq] at e4
  generalize a / b = k at *
  generalize a % b = r at *
  generalize c % d = s at *
  subst e1 e4
  rw [Nat.add_mul, Nat.add_mul] at hle
  have : b * k * d = d * k * b := by rw [Nat.mul_comm b k, Nat.mul_assoc, Nat.mul_comm b d, ← Nat.mul_assoc, Nat.mul_comm k d]
  omega
 have s0 : 0 < c % d := by
  rcases Nat.eq_zero_or_pos (c % d) with e | e
  ·
   rw [e, Nat.zero_mul] at hle
   have := Nat.mul_pos (Nat.pos_of_ne_zero r0) hd
   omega
  ·
   exact e
 rw [e2, e3]
 refine ⟨⟨hd, s0, hb0, Nat.pos_of_ne_zero r0, ?_, ?_, ?_⟩, hq, rfl, Nat.mod_lt _ hd, Nat.mod_lt _ hb0⟩
 ·
  have := h.co2
  unfold Nat.Coprime at *
  rw [Nat.gcd_comm, ← Nat.gcd_rec, Nat.gcd_comm]; exact this
 ·
  have := h.co
  unfold Nat.Coprime at *
  rw [Nat.gcd_comm, ← Nat.gcd_rec, Nat.gcd_comm]; exact this
 ·
  rw [Nat.mul_comm, Nat.mul_comm b]; exact hle
def fr (n d : Nat) : Rat := Rat.divInt (n : Int) (d : Int)
end Wd
end Go.Proofs.YtfbcdfoohpkfeaaGreatDoor
namespace Go.Proofs.YtfbcdfoohpkfeaaGreatDoor
namespace Wd

def cf : Nat → Int → Int → List Int
 | 0, _, _ => []
 | f + 1, n, d => if d = 0 then [] else n / d :: cf f d (n % d)
theorem apt : ∀ (f : Nat) (n d : Int), (cf f n d).length ≤ f
 | 0, _, _ => Nat.le_refl _
 | f + 1, n, d => by
  unfold cf
  split
  ·
   exact Nat.zero_le _
  ·
   have := apt f d (n % d)
   rw [List.length_cons]; omega
theorem azl (f : Nat) (n : Int) : cf f n 0 = [] := by
 cases f with
 | zero => rfl
 | succ f => simp [cf]
structure Nl (L l : List Int) (n d : Int) : Prop where
 ok : ∃ f : Nat, d < f ∧ l ++ cf f n d = L ∧ L.length ≤ l.length + f
 d0 : 0 ≤ d
 nb : -1000000000000 ≤ n ∧ n ≤ 1000000000000
 db : d ≤ 1000000000000
theorem Nl.start {n d : Int} (h : wm n d) : Nl (cf (d.toNat + 1) n d) [] n d := by
 obtain ⟨h1, h2, h3, h4, _⟩ := h
 exact ⟨⟨d.toNat + 1, by omega, rfl, by have := apt (d.toNat + 1) n d; simpa using this⟩, by omega, ⟨by omega, by omega⟩, by omega⟩
theorem Nl.step {L l : List Int} {n d : Int} (h : Nl L l n d) (hd : 0 < d) : Nl L (l ++ [n / d]) d (n % d) ∧ n - n / d * d = n % d ∧ -1000000000000 ≤ n / d ∧ n / d ≤ 1000000000000 ∧ -2000000000000 ≤ n / d * d ∧ n / d * d ≤ 2000000000000 := by
 obtain ⟨⟨f, h1, h2, h3⟩, h4, h5, h6⟩ := h
 have e1 := Int.emod_nonneg n (show d ≠ 0 by omega)
 have e2 := Int.emod_lt_of_pos n hd
 have e3 := Int.mul_ediv_add_emod n d
 rw [Int.mul_comm] at e3
 have lo : -1000000000000 ≤ n / d := by
  rw [Int.le_ediv_iff_mul_le hd]
  omega
 have hi : n / d ≤ 1000000000000 := by
  rcases Int.lt_or_le n 0 with hn | hn
  ·
   have : n / d < 0 := Int.ediv_neg_of_neg_of_pos hn hd
   omega
  ·
   have := Int.ediv_le_self d hn
   omega
 have e4 : n - n / d * d = n % d ∧ -2000000000000 ≤ n / d * d ∧ n / d * d ≤ 2000000000000 := by
  generalize n / d * d = t at *
  generalize n % d = r at *
  exact ⟨by omega, by omega, by omega⟩
 refine ⟨⟨?_, e1, by omega, by omega⟩, e4.1, lo, hi, e4.2.1, e4.2.2⟩
 cases f with
 | zero => omega
 | succ f =>
  refine ⟨f, by omega, ?_, by simp; omega⟩
  rw [← h2]
  simp only [cf, if_neg (show ¬ d = 0 by omega), List.append_assoc, List.cons_append, List.nil_append]
theorem Nl.done {L l : List Int} {n : Int} (h : Nl L l n 0) : l = L := by
 obtain ⟨⟨f, h1, h2, h3⟩, _, _, _⟩ := h
 rw [azl, List.append_nil] at h2
 exact h2
theorem Nl.len {L l : List Int} {n d : Int} (h : Nl L l n d) (hL : L.length ≤ 1000000000001) : l.length ≤ 1000000000001 := by
 obtain ⟨⟨f, h1, h2, h3⟩, _, _, _⟩ := h
 rw [← h2, List.length_append] at hL
 omega
end Wd
end Go.Proofs.YtfbcdfoohpkfeaaGreatDoor
namespace Go.Proofs.YtfbcdfoohpkfeaaGreatDoor
namespace Wd

theorem Pp (a : Int) : (Rat.divInt a 1).num = a ∧ ((Rat.divInt a 1).den : Int) = 1 := by
 have h : Rat.divInt a 1 = (a : Rat) := by
  rw [← Rat.num_divInt_den (a : Rat)]; rfl
 rw [h]
 exact ⟨rfl, rfl⟩
def aqh (l : List Int) : Prop := 0 < l.length ∧ (∀ i, i < l.length → 1 ≤ i → 1 ≤ l.getD i 0) ∧ (l.length = 1 ∨ l.getD (l.length - 1) 0 ≠ 1)
instance (l : List Int) : Decidable (aqh l) := by unfold aqh; infer_instance
end Wd
end Go.Proofs.YtfbcdfoohpkfeaaGreatDoor
namespace Go.Proofs.YtfbcdfoohpkfeaaGreatDoor
open Go.RowKit

structure IQ (w : World) (Fj : Int) (Sv : Bool) (Bg : Option Addr) (c1a : Nat) (Bf : List Nat) (Jt : Int) (Su : Bool) (Dz : Option Addr) (Dx : Nat) (Dt : List Nat) (q : Rat) : Prop where
 n : ig w Fj Sv Bg c1a Bf q.num
 d : ig w Jt Su Dz Dx Dt (q.den : Int)
theorem IQ.below {w w' : World} {Fj : Int} {Sv : Bool} {Bg : Option Addr} {c1a : Nat} {Bf : List Nat} {Jt : Int} {Su : Bool} {Dz : Option Addr} {Dx : Nat} {Dt : List Nat} {q : Rat} (h : IQ w Fj Sv Bg c1a Bf Jt Su Dz Dx Dt q) (hb : Below w.heap.size w w') : IQ w' Fj Sv Bg c1a Bf Jt Su Dz Dx Dt q := ⟨h.n.below hb, h.d.below hb⟩
set_option maxHeartbeats 16000000 in
theorem aks (n : Int) (w : World) (b1 : -9223372036854775808 ≤ n) (b2 : n ≤ 9223372036854775807) :
  Calls Tryz.prog 77 #[.int .i64 n] w fun e w' => Ia w (Rat.divInt n 1).num ((Rat.divInt n 1).den : Int) e w' := by
 have hN := hide (fun W => Ju n b1 b2 W)
 have hO := hide (fun W => Ju 1 om om W)
 rw [(Wd.Pp n).1, (Wd.Pp n).2]
 clear b1 b2
 go_enter Tryz.func77, Tryz.ntmps77
 go_wp2_with fail
 obtain ⟨n0, hsz, hw0⟩ := air w (.cells #[.int .i64 0, .bool false, .slice none 0 0, .int .i64 0, .bool false, .slice none 0 0] 74)
 generalize w.alloc (.cells #[.int .i64 0, .bool false, .slice none 0 0, .int .i64 0, .bool false, .slice none 0 0] 74) = W0 at *
 have r0 : W0.cell? ⟨w.heap.size, 0, none⟩ = some (.int .i64 0) := ae n0 0
 have f0 := bz n0 0
 have r1 : W0.cell? ⟨w.heap.size, 1, none⟩ = some (.bool false) := ae n0 1
 have f1 := bz n0 1
 have r2 : W0.cell? ⟨w.heap.size, 2, none⟩ = some (.slice none 0 0) := ae n0 2
 have f2 := bz n0 2
 have r3 : W0.cell? ⟨w.heap.size, 3, none⟩ = some (.int .i64 0) := ae n0 3
 have f3 := bz n0 3
 have r4 : W0.cell? ⟨w.heap.size, 4, none⟩ = some (.bool false) := ae n0 4
 have f4 := bz n0 4
 have r5 : W0.cell? ⟨w.heap.size, 5, none⟩ = some (.slice none 0 0) := ae n0 5
 have f5 := bz n0 5
 have q0 := lt_of_block n0
 have NR := Lib.hid n0
 clear n0 hsz
 refine ((aa hN) _).mono ?_
 rintro e W1 ⟨Fj, Sv, Bg, c1a, Bf, rfl, g1, hb⟩
 have G1 := hide g1; have HB := hide hb
 clear g1 hb
 go_wp2_with fail
 refine ((aa hO) _).mono ?_
 rintro e w' ⟨Jt, Su, Dz, Dx, Dt, rfl, g2, hb2⟩
 have G1' := hide ((aa G1).below hb2)
 have hb := ek (aa HB) hb2
 obtain ⟨hc, hfz⟩ := gp hb
 have hblk := (hb.block _ q0).trans NR.out
 have mo := Lib.hid hblk
 have ky := ek hw0 hb
 have HB9 := hide ky
 have G2 := hide g2
 clear g2 hb hb2 ky hblk
 go_wp2_with fail
 exact bodyPost_ret (v := (Value.agg #[.int .i64 Fj, .bool Sv, .slice Bg Bf.length c1a, .int .i64 Jt, .bool Su, .slice Dz Dt.length Dx])) (by simp [results, Tryz.results77, go_sem, hc, r0, r1, r2, r3, r4, r5, q0]) rfl
  ⟨Fj, Sv, Bg, c1a, Bf, Jt, Su, Dz, Dx, Dt, rfl, (aa G1').upto mo.out (Ao _ _ _ _ _ _ _ _ _ _) (qy _ _ _ _ _ _ _ _), (aa G2).upto mo.out (Ao _ _ _ _ _ _ _ _ _ _) (qy _ _ _ _ _ _ _ _), (aa HB9).grown (qy _ _ _ _ _ _ _ _) (aa HB9).size (fun k hk => by injection hk with hk; omega)⟩

end Go.Proofs.YtfbcdfoohpkfeaaGreatDoor
