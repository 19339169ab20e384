/- Texts beneath a law of layer 1. -/
import Derived.Test.YtfgeaakhlcaibaaGreatDoorCy9
set_option maxRecDepth 100000
set_option maxHeartbeats 16000000
namespace Go.Proofs.YtfgeaakhlcaibaaGreatDoor
open Go.RowKit

namespace Sb
theorem jm {w : World} {b o : Nat} {cs : List Value} {T : TypeId} (h : w.heap[b]? = some (.cells cs.toArray T (0, 0))) (ho : o < cs.length) : ∃ c, w.cell? ⟨b, o, none⟩ = some c := by
 rw [ag h]
 exact ⟨cs[o], by simp [ho]⟩
def Gz (P : Program) (T : TypeId) (cs : List Value) : Prop := ∀ (ρ : Operand → Value) (w : World) (d : Option Tmp) (ty : TypeId) (pos : String) (af : Array Edge) (gd : Option (Nat × Bool)),
 (execOp ρ { dst := d, op := .alloc T, type := ty, pos := pos, after := af, guard := gd }).run P w = .ok (.value (.pointer (some ⟨w.heap.size, 0, none⟩))) (w.alloc (.cells cs.toArray T))
def nk (T : TypeId) (ls : List ji) (B : Nat) : World → Value → Prop := fun W v => ∃ b, v = .pointer (some ⟨b, 0, none⟩) ∧ B ≤ b ∧ yf W b T ls
theorem ny (T : TypeId) (ls : List ji) (B : Nat) : Rg.Fu eu (nk T ls B) := by
 rintro w w' v hb ⟨b, rfl, h1, h2⟩
 exact ⟨b, rfl, h1, h2.below hb⟩
theorem aes (s : ByteArray) : Kt (.string s) := ⟨fun m h => by simp at h, rfl, fun m h => by simp at h⟩
def okV : Value → Bool
 | .int .i64 _ => true
 | .string _ => true
 | .bool _ => true
 | .slice _ _ _ => true
 | .pointer _ => true
 | _ => false
theorem atp {u : Value} (h : okV u = true) : Kt u := by
 unfold okV at h
 split at h
 ·
  exact kg _
 ·
  exact aes _
 ·
  exact Tg _
 ·
  exact Tf _ _ _
 ·
  exact bdj _
 ·
  cases h
theorem fo.vs (W : World) : ∀ (us : List Value), us.all okV = true → fo W (us.map .v) us
 | [], _ => rfl
 | u :: us, h => by
  rw [List.all_cons, Bool.and_eq_true] at h
  exact fo.v (atp h.1) (fo.vs W us h.2)
theorem oq {P : Program} {Q : Exit → Act → World → Prop} {l : List Oper} {n : Nat} {T : Nat → World → Value → Prop} {G : World → Prop} {al : List Nat} {a0 : Act} {k d : Nat} {ty : TypeId} {pos : String} {af : Array Edge} {gd : Option (Nat × Bool)} {B : Nat} {TL : TypeId} {cs : List Value} (hN : Gz P TL cs) (hw : cs.all okV = true)
  (Ms : ∀ W W', G W → eu W W' → G W') (hB : ∀ W, G W → B ≤ W.heap.size) (hT : T k = nk TL (cs.map .v) B) (hlt : ∀ j W u, al.contains j = true → T j W u → ∃ b, u = .pointer (some ⟨b, 0, none⟩) ∧ b < W.heap.size) :
  Rg.Step P Q l n T G eu al a0 k { dst := some d, op := .alloc TL, type := ty, pos := pos, after := af, guard := gd } := by
 refine awq (N := nk TL (cs.map .v)) (B := B) ?_ Ms hB hT hlt
 intro a w
 exact ⟨_, (Below.refl _ _).alloc (Nat.le_refl _) _, fun hB => ⟨w.heap.size, rfl, hB, cs, heap_alloc_new w _, fo.vs _ cs hw⟩, hN a.eval w (some d) ty pos af gd⟩
def biw (t : World → Value → Prop) : Prop := ∃ TL ls B, t = nk TL ls B
theorem qp {T : Nat → World → Value → Prop} {js : List Nat} (h : ∀ j, js.contains j = true → biw (T j)) : ∀ j W u, js.contains j = true → T j W u → ∃ b, u = .pointer (some ⟨b, 0, none⟩) ∧ b < W.heap.size := fun j W u hj ht => by
 obtain ⟨TL, ls, B, e⟩ := h j hj
 rw [e] at ht
 obtain ⟨b, h1, _, h2⟩ := ht
 exact ⟨b, h1, h2.lt⟩
theorem Own.ane {w W V : World} {bs : List xh} {b b' : Nat} {T T' : TypeId} {ls ls' : List ji} (h : Own w bs V) (Ua : eu V W) (hb : V.heap.size ≤ b) (hq : yf W b T ls) (hb' : V.heap.size ≤ b') (hq' : yf W b' T' ls') (hne : b' ≠ b) : Own w ((b', T', ls') :: (b, T, ls) :: bs) W := by
 have h1 := Own.add h Ua hb hq
 have h2 := Own.add h Ua hb' hq'
 refine ⟨h1.bel, List.nodup_cons.2 ⟨fun hm => ?_, h1.nd⟩, fun c p q hm => ?_⟩
 ·
  rw [List.map_cons] at hm
  rcases List.mem_cons.1 hm with e | hm
  ·
   exact hne e
  ·
   exact (List.nodup_cons.1 h2.nd).1 hm
 ·
  rcases List.mem_cons.1 hm with e | hm
  ·
   cases e; exact h2.box _ _ _ List.mem_cons_self
  ·
   exact h1.box _ _ _ hm
def Fy (P : Program) (o : Operand → Op) (alz : Nat) : Prop := ∀ (a : Act) (w : World) (d : Option Tmp) (x : Operand) (b off : Nat) (ty : TypeId) (pos : String) (af : Array Edge) (gd : Option (Nat × Bool)), a.eval x = .pointer (some ⟨b, off, none⟩) →
 (execOp a.eval { dst := d, op := o x, type := ty, pos := pos, after := af, guard := gd }).run P w = .ok (.value (.pointer (some ⟨b, off + alz, none⟩))) w
theorem Gm {P : Program} {Q : Exit → Act → World → Prop} {l : List Oper} {n : Nat} {T : Nat → World → Value → Prop} {G : World → Prop} {al : List Nat} {a0 : Act} {k d : Nat} {ty : TypeId} {pos : String} {af : Array Edge} {gd : Option (Nat × Bool)} {b off off' alz : Nat} {x : Operand} {o : Operand → Op} (hA : Fy P o alz) (hal : al.contains k = false) (hx : Rg.ig l n T a0 k x (Rg.au (.pointer (some ⟨b, off, none⟩)))) (ho : off + alz = off') (hT : T k = Rg.au (.pointer (some ⟨b, off', none⟩))) :
  Rg.Step P Q l n T G eu al a0 k { dst := some d, op := o x, type := ty, pos := pos, after := af, guard := gd } := by
 intro a w hG hO hN
 exact je (hA a w (some d) x b off ty pos af gd (hx a w hO hN)) ⟨_, rfl, hG, Below.refl _ _, by rw [hT, ho]; rfl, fun h => by rw [hal] at h; cases h⟩
def Ut (P : Program) (T : TypeId) (m1 m2 : Nat) : Prop := ∀ (ρ : Operand → Value) (w : World) (d : Option Tmp) (x y : Operand) (us vs : List Value) (ty : TypeId) (pos : String) (af : Array Edge) (gd : Option (Nat × Bool)), us.length = m1 → vs.length = m2 → ρ x = .agg us.toArray → ρ y = .agg vs.toArray →
 (execOp ρ { dst := d, op := .build T #[(0, x), (1, y)], type := ty, pos := pos, after := af, guard := gd }).run P w = .ok (.value (.agg (us ++ vs).toArray)) w
theorem Hf {P : Program} {Q : Exit → Act → World → Prop} {l : List Oper} {n : Nat} {T : Nat → World → Value → Prop} {G : World → Prop} {al : List Nat} {a0 : Act} {k d : Nat} {ty : TypeId} {pos : String} {af : Array Edge} {gd : Option (Nat × Bool)} {m1 m2 : Nat} {x y : Operand} {TL : TypeId} {ls ks : List ji} (hB : Ut P TL m1 m2) (hal : al.contains k = false) (hx : Rg.ig l n T a0 k x (ax ls)) (hy : Rg.ig l n T a0 k y (ax ks)) (h1 : qd ls = m1) (h2 : qd ks = m2) (hT : T k = ax (ls ++ ks)) :
  Rg.Step P Q l n T G eu al a0 k { dst := some d, op := .build TL #[(0, x), (1, y)], type := ty, pos := pos, after := af, guard := gd } := by
 intro a w hG hO hN
 obtain ⟨us, e1, g1⟩ := hx a w hO hN
 obtain ⟨vs, e2, g2⟩ := hy a w hO hN
 exact je (hB a.eval w (some d) x y us vs ty pos af gd (by rw [g1.len, h1]) (by rw [g2.len, h2]) e1 e2) ⟨_, rfl, hG, Below.refl _ _, by rw [hT]; exact ⟨_, rfl, g2.app g1⟩, fun h => by rw [hal] at h; cases h⟩
def Zx (P : Program) (T : TypeId) (cs : List Value) : Prop := ∀ (ρ : Operand → Value) (w : World) (d : Option Tmp) (ty : TypeId) (pos : String) (af : Array Edge) (gd : Option (Nat × Bool)),
 (execOp ρ { dst := d, op := .build T #[], type := ty, pos := pos, after := af, guard := gd }).run P w = .ok (.value (.agg cs.toArray)) w
theorem Cy {P : Program} {Q : Exit → Act → World → Prop} {l : List Oper} {n : Nat} {T : Nat → World → Value → Prop} {G : World → Prop} {al : List Nat} {a0 : Act} {k d : Nat} {ty : TypeId} {pos : String} {af : Array Edge} {gd : Option (Nat × Bool)} {TL : TypeId} {cs : List Value} (hB : Zx P TL cs) (hal : al.contains k = false) (hw : cs.all okV = true) (hT : T k = ax (cs.map .v)) :
  Rg.Step P Q l n T G eu al a0 k { dst := some d, op := .build TL #[], type := ty, pos := pos, after := af, guard := gd } := by
 intro a w hG hO hN
 exact je (hB a.eval w (some d) ty pos af gd) ⟨_, rfl, hG, Below.refl _ _, by rw [hT]; exact ⟨_, rfl, fo.vs _ cs hw⟩, fun h => by rw [hal] at h; cases h⟩
def Pz (l : List Oper) (n : Nat) (T : Nat → World → Value → Prop) (a0 : Act) (k ms : Nat) : Nat → List (Nat × Operand) → List (List ji) → Prop
 | _, [], gs => gs = []
 | i, p :: ps, gs => ∃ g r, gs = g :: r ∧ qd g = ms ∧ p.1 = i ∧ Rg.ig l n T a0 k p.2 (ax g) ∧ Pz l n T a0 k ms (i + 1) ps r
theorem Pz.nil {l : List Oper} {n : Nat} {T : Nat → World → Value → Prop} {a0 : Act} {k ms i : Nat} : Pz l n T a0 k ms i [] [] := rfl
theorem Pz.cons {l : List Oper} {n : Nat} {T : Nat → World → Value → Prop} {a0 : Act} {k ms i : Nat} {x : Operand} {ps : List (Nat × Operand)} {g : List ji} {r : List (List ji)} (h : Rg.ig l n T a0 k x (ax g)) (hm : qd g = ms) (hr : Pz l n T a0 k ms (i + 1) ps r) : Pz l n T a0 k ms i ((i, x) :: ps) (g :: r) := ⟨g, r, rfl, hm, rfl, h, hr⟩
theorem ky {P : Program} {Q : Exit → Act → World → Prop} {l : List Oper} {n : Nat} {T : Nat → World → Value → Prop} {G : World → Prop} {al : List Nat} {a0 : Act} {k d : Nat} {ty : TypeId} {pos : String} {af : Array Edge} {gd : Option (Nat × Bool)} {x : Operand} {ts : List (World → Value → Prop)} {i : Nat} (hal : al.contains k = false) (hx : Rg.ig l n T a0 k x (kz ts)) (hi : i < ts.length) (hT : T k = Rg.pick ts i) :
  Rg.Step P Q l n T G eu al a0 k { dst := some d, op := .extract x i, type := ty, pos := pos, after := af, guard := gd } :=
 bhn hal hx (fun W v ⟨vs, h1, h2⟩ => by
  obtain ⟨u, h3, h4⟩ := h2.get i hi
  exact ⟨vs.toArray, h1, u, by simpa using h3, by rw [hT]; exact h4⟩)
theorem asq {P : Program} {ops : Array Oper} {Q : Exit → Act → World → Prop} {rest : List Oper} {a : Act} {w0 w : World} {TL TB : TypeId} {p x : Operand} {m b off : Nat} {xs ys : List xh} {pre old new post : List ji} {ty : TypeId} {pos : String} {af : Array Edge}
  (hS : Ai P TL m) (hp : a.eval p = .pointer (some ⟨b, off, none⟩)) (hv : ax new w (a.eval x)) (hO : Own w0 (xs ++ (b, TB, pre ++ (old ++ post)) :: ys) w) (hm : qd new = m) (hl : qd new = qd old) (ho : off = qd pre)
  (hk : ∀ w', Own w0 (xs ++ (b, TB, pre ++ (new ++ post)) :: ys) w' → (∀ ks u, ax ks w u → ax ks w' u) → wpList P ops Q rest a w') :
  wpList P ops Q ({ dst := none, op := .store TL p x, type := ty, pos := pos, after := af, guard := none } :: rest) a w := by
 obtain ⟨us, e, hu⟩ := hv
 have hbx := hO.box b TB _ (List.mem_append_right _ List.mem_cons_self)
 obtain ⟨hge, cs, hb, hls⟩ := hbx
 have hr := hS a.eval w none p x b off cs TB us ty pos af none (by rw [hu.len, hm]) (fun u h => (hu.noW u h).2.1) hb (by
  have h1 := hls.len
  obtain ⟨c, cd, rfl, k1, k2⟩ := hls.cut
  obtain ⟨o, d, rfl, k3, k4⟩ := k2.cut
  have e1 := k1.len
  have e3 := k3.len
  simp only [List.length_append]
  omega) hp e
 unfold wpList
 rw [if_pos (by simp [Region.wanted])]
 refine .inl ?_
 unfold Oper.wp
 rw [hr]
 exact hk _ (hO.set hu hl ho) (fun ks u h => aas ⟨cs, hb, hls⟩ h)
theorem qh : Em Tryz.prog 77 3 := by
 intro ρ w d x b off us ty pos af gd hl hc hx
 match us, hl with
 | [u0, u1, u2], _ =>
 have k0 : w.cell? ⟨b, off, none⟩ = some u0 := hc 0 om
 have k1 : w.cell? ⟨b, off + 1, none⟩ = some u1 := hc 1 om
 have k2 : w.cell? ⟨b, off + 2, none⟩ = some u2 := hc 2 om
 clear hc
 simp only [execOp, hx]
 simp [go_sem, k0, k1, k2]
theorem Eg : Em Tryz.prog 79 6 := by
 intro ρ w d x b off us ty pos af gd hl hc hx
 match us, hl with
 | [u0, u1, u2, u3, u4, u5], _ =>
 have k0 : w.cell? ⟨b, off, none⟩ = some u0 := hc 0 om
 have k1 : w.cell? ⟨b, off + 1, none⟩ = some u1 := hc 1 om
 have k2 : w.cell? ⟨b, off + 2, none⟩ = some u2 := hc 2 om
 have k3 : w.cell? ⟨b, off + 3, none⟩ = some u3 := hc 3 om
 have k4 : w.cell? ⟨b, off + 4, none⟩ = some u4 := hc 4 om
 have k5 : w.cell? ⟨b, off + 5, none⟩ = some u5 := hc 5 om
 clear hc
 simp only [execOp, hx]
 simp [go_sem, k0, k1, k2, k3, k4, k5]
theorem uf : Em Tryz.prog 23 2 := by
 intro ρ w d x b off us ty pos af gd hl hc hx
 match us, hl with
 | [u0, u1], _ =>
 have k0 : w.cell? ⟨b, off, none⟩ = some u0 := hc 0 om
 have k1 : w.cell? ⟨b, off + 1, none⟩ = some u1 := hc 1 om
 clear hc
 simp only [execOp, hx]
 simp [go_sem, k0, k1]
theorem Ep : Ai Tryz.prog 77 3 := by
 intro ρ w d p x b off cs TB us ty pos af gd hl hu hb ho hp hx
 match us, hl with
 | [u0, u1, u2], _ =>
 have o0 := hu u0 (by simp)
 have o1 := hu u1 (by simp)
 have o2 := hu u2 (by simp)
 have f0 : w.frozen? ⟨b, off, none⟩ = false := ai hb _
 have f1 : w.frozen? ⟨b, off + 1, none⟩ = false := ai hb _
 have f2 : w.frozen? ⟨b, off + 2, none⟩ = false := ai hb _
 obtain ⟨c0, k0⟩ : ∃ c, w.cell? ⟨b, off, none⟩ = some c := jm hb om
 obtain ⟨c1, k1⟩ : ∃ c, w.cell? ⟨b, off + 1, none⟩ = some c := jm hb om
 obtain ⟨c2, k2⟩ : ∃ c, w.cell? ⟨b, off + 2, none⟩ = some c := jm hb om
 have hlt := lt_of_block hb
 clear hb ho hu
 simp only [execOp, hp, hx, setM]
 simp [go_sem, hlt, run_store _ _ _ _ _ o0, o0, run_store _ _ _ _ _ o1, o1, run_store _ _ _ _ _ o2, o2, k0, k1, k2, f0, f1, f2]
theorem Es : Ai Tryz.prog 79 6 := by
 intro ρ w d p x b off cs TB us ty pos af gd hl hu hb ho hp hx
 match us, hl with
 | [u0, u1, u2, u3, u4, u5], _ =>
 have o0 := hu u0 (by simp)
 have o1 := hu u1 (by simp)
 have o2 := hu u2 (by simp)
 have o3 := hu u3 (by simp)
 have o4 := hu u4 (by simp)
 have o5 := hu u5 (by simp)
 have f0 : w.frozen? ⟨b, off, none⟩ = false := ai hb _
 have f1 : w.frozen? ⟨b, off + 1, none⟩ = false := ai hb _
 have f2 : w.frozen? ⟨b, off + 2, none⟩ = false := ai hb _
 have f3 : w.frozen? ⟨b, off + 3, none⟩ = false := ai hb _
 have f4 : w.frozen? ⟨b, off + 4, none⟩ = false := ai hb _
 have f5 : w.frozen? ⟨b, off + 5, none⟩ = false := ai hb _
 obtain ⟨c0, k0⟩ : ∃ c, w.cell? ⟨b, off, none⟩ = some c := jm hb om
 obtain ⟨c1, k1⟩ : ∃ c, w.cell? ⟨b, off + 1, none⟩ = some c := jm hb om
 obtain ⟨c2, k2⟩ : ∃ c, w.cell? ⟨b, off + 2, none⟩ = some c := jm hb om
 obtain ⟨c3, k3⟩ : ∃ c, w.cell? ⟨b, off + 3, none⟩ = some c := jm hb om
 obtain ⟨c4, k4⟩ : ∃ c, w.cell? ⟨b, off + 4, none⟩ = some c := jm hb om
 obtain ⟨c5, k5⟩ : ∃ c, w.cell? ⟨b, off + 5, none⟩ = some c := jm hb om
 have hlt := lt_of_block hb
 clear hb ho hu
 simp only [execOp, hp, hx, setM]
 simp [go_sem, hlt, run_store _ _ _ _ _ o0, o0, run_store _ _ _ _ _ o1, o1, run_store _ _ _ _ _ o2, o2, run_store _ _ _ _ _ o3, o3, run_store _ _ _ _ _ o4, o4, run_store _ _ _ _ _ o5, o5, k0, k1, k2, k3, k4, k5, f0, f1, f2, f3, f4, f5]
theorem qz : Ai Tryz.prog 23 2 := by
 intro ρ w d p x b off cs TB us ty pos af gd hl hu hb ho hp hx
 match us, hl with
 | [u0, u1], _ =>
 have o0 := hu u0 (by simp)
 have o1 := hu u1 (by simp)
 have f0 : w.frozen? ⟨b, off, none⟩ = false := ai hb _
 have f1 : w.frozen? ⟨b, off + 1, none⟩ = false := ai hb _
 obtain ⟨c0, k0⟩ : ∃ c, w.cell? ⟨b, off, none⟩ = some c := jm hb om
 obtain ⟨c1, k1⟩ : ∃ c, w.cell? ⟨b, off + 1, none⟩ = some c := jm hb om
 have hlt := lt_of_block hb
 clear hb ho hu
 simp only [execOp, hp, hx, setM]
 simp [go_sem, hlt, run_store _ _ _ _ _ o0, o0, run_store _ _ _ _ _ o1, o1, k0, k1, f0, f1]
theorem Nr : Gz Tryz.prog 77 [.int .i64 0, .bool false, .slice none 0 0] := by
 intro ρ w d ty pos af gd
 simp only [execOp]
 simp [go_sem]
theorem bhx : Gz Tryz.prog 79 [.int .i64 0, .bool false, .slice none 0 0, .int .i64 0, .bool false, .slice none 0 0] := by
 intro ρ w d ty pos af gd
 simp only [execOp]
 simp [go_sem]
theorem Gc : Gz Tryz.prog 23 [.int .i64 0, .int .i64 0] := by
 intro ρ w d ty pos af gd
 simp only [execOp]
 simp [go_sem]
theorem Dz : Zx Tryz.prog 23 [.int .i64 0, .int .i64 0] := by
 intro ρ w d ty pos af gd
 simp only [execOp]
 simp [go_sem]
 try rfl
theorem bbq : Fy Tryz.prog (fun x => .fieldAddr 79 x 0) 0 := by
 intro a w d x b off ty pos af gd hx
 have hc : ∀ v, a.eval (.const v) = v := fun _ => rfl
 simp only [execOp, hx, hc]
 simp [go_sem]
theorem Ff {Q : Exit → Act → World → Prop} {l : List Oper} {n : Nat} {T : Nat → World → Value → Prop} {G : World → Prop} {al : List Nat} {a0 : Act} {k d : Nat} {ty : TypeId} {pos : String} {af : Array Edge} {gd : Option (Nat × Bool)} {b off off' : Nat} {x : Operand} (hal : al.contains k = false) (hx : Rg.ig l n T a0 k x (Rg.au (.pointer (some ⟨b, off, none⟩)))) (ho : off + 0 = off') (hT : T k = Rg.au (.pointer (some ⟨b, off', none⟩))) :
  Rg.Step Tryz.prog Q l n T G eu al a0 k { dst := some d, op := .fieldAddr 79 x 0, type := ty, pos := pos, after := af, guard := gd } := by
 exact Gm (P := Tryz.prog) (o := fun x => .fieldAddr 79 x 0) bbq hal hx ho hT
theorem bbp : Fy Tryz.prog (fun x => .fieldAddr 79 x 1) 3 := by
 intro a w d x b off ty pos af gd hx
 have hc : ∀ v, a.eval (.const v) = v := fun _ => rfl
 simp only [execOp, hx, hc]
 simp [go_sem]
theorem Bg {Q : Exit → Act → World → Prop} {l : List Oper} {n : Nat} {T : Nat → World → Value → Prop} {G : World → Prop} {al : List Nat} {a0 : Act} {k d : Nat} {ty : TypeId} {pos : String} {af : Array Edge} {gd : Option (Nat × Bool)} {b off off' : Nat} {x : Operand} (hal : al.contains k = false) (hx : Rg.ig l n T a0 k x (Rg.au (.pointer (some ⟨b, off, none⟩)))) (ho : off + 3 = off') (hT : T k = Rg.au (.pointer (some ⟨b, off', none⟩))) :
  Rg.Step Tryz.prog Q l n T G eu al a0 k { dst := some d, op := .fieldAddr 79 x 1, type := ty, pos := pos, after := af, guard := gd } := by
 exact Gm (P := Tryz.prog) (o := fun x => .fieldAddr 79 x 1) bbp hal hx ho hT
theorem bbo : Fy Tryz.prog (fun x => .fieldAddr 23 x 0) 0 := by
 intro a w d x b off ty pos af gd hx
 have hc : ∀ v, a.eval (.const v) = v := fun _ => rfl
 simp only [execOp, hx, hc]
 simp [go_sem]
theorem Co {Q : Exit → Act → World → Prop} {l : List Oper} {n : Nat} {T : Nat → World → Value → Prop} {G : World → Prop} {al : List Nat} {a0 : Act} {k d : Nat} {ty : TypeId} {pos : String} {af : Array Edge} {gd : Option (Nat × Bool)} {b off off' : Nat} {x : Operand} (hal : al.contains k = false) (hx : Rg.ig l n T a0 k x (Rg.au (.pointer (some ⟨b, off, none⟩)))) (ho : off + 0 = off') (hT : T k = Rg.au (.pointer (some ⟨b, off', none⟩))) :
  Rg.Step Tryz.prog Q l n T G eu al a0 k { dst := some d, op := .fieldAddr 23 x 0, type := ty, pos := pos, after := af, guard := gd } := by
 exact Gm (P := Tryz.prog) (o := fun x => .fieldAddr 23 x 0) bbo hal hx ho hT
end Sb


namespace Sb
def Ls (P : Program) (T : TypeId) (n : Nat) : Prop := ∀ (w : World) (b off : Nat) (us : List Value), us.length = n → (∀ i, i < n → w.cell? ⟨b, off + i, none⟩ = us[i]?) → (loadVar T ⟨b, off, none⟩).run P w = .ok (.agg us.toArray) w
theorem yf.axh {P : Program} {w : World} {b : Nat} {TB T : TypeId} {ls : List ji} {n : Nat} (h : yf w b TB ls) (hL : Ls P T n) (hn : qd ls = n) : ∃ cs : List Value, (loadVar T ⟨b, 0, none⟩).run P w = .ok (.agg cs.toArray) w ∧ fo w ls cs := by
 obtain ⟨cs, h1, h2⟩ := h
 have h3 := hL w b 0 cs (by rw [h2.len, hn]) (fun i hi => by
  have e : cs.length = n := by rw [h2.len, hn]
  have := Nz (c := []) (m := cs) (d := []) (by simpa using h1) i om
  simpa using this)
 exact ⟨cs, h3, h2⟩
section
variable {P : Program} {fn : Func} {a : Act} {w w0 : World} {bs : List xh} {s s2 t t2 b b2 : Nat} {TB T TB2 T2 : TypeId} {ls ls2 : List ji} {n n2 : Nat} {u u2 : Value}
theorem xw (hr : fn.results = #[.tmp t]) (ht : a.tmps.getD t undef = u) (hB : Below w0.heap.size w0 w) (hd : a.defers = []) : bodyPost P fn (ib (Rg.au u) w0) .ret a w :=
 bodyPost_ret (v := u) (by simp only [results, hr]; simp [go_sem]; simpa using ht) hd ⟨u, rfl, hB, rfl⟩
theorem Cs (hr : fn.results = #[.cell s T]) (hL : Ls P T n) (ht : a.tmps.getD s undef = .pointer (some ⟨b, 0, none⟩)) (hO : Own w0 bs w) (hm : (b, TB, ls) ∈ bs) (hn : qd ls = n) (hd : a.defers = []) : bodyPost P fn (ib (ax ls) w0) .ret a w := by
 obtain ⟨cs, h1, h2⟩ := (hO.box b TB ls hm).2.axh hL hn
 refine bodyPost_ret (v := .agg cs.toArray) ?_ hd ⟨_, rfl, hO.bel, cs, rfl, h2⟩
 rw [Array.getD_eq_getD_getElem?] at ht
 simp only [results, hr]
 clear hO hL
 generalize loadVar = ldv at *
 simp [ht, go_sem, h1]
theorem uo (hr : fn.results = #[.cell s T, .tmp t]) (hL : Ls P T n) (ht : a.tmps.getD s undef = .pointer (some ⟨b, 0, none⟩)) (hu : a.tmps.getD t undef = u) (hO : Own w0 bs w) (hm : (b, TB, ls) ∈ bs) (hn : qd ls = n) (hd : a.defers = []) : bodyPost P fn (ib (kz [ax ls, Rg.au u]) w0) .ret a w := by
 obtain ⟨cs, h1, h2⟩ := (hO.box b TB ls hm).2.axh hL hn
 refine bodyPost_ret (v := .tuple [.agg cs.toArray, u].toArray) ?_ hd ⟨_, rfl, hO.bel, _, rfl, ⟨_, _, rfl, ⟨cs, rfl, h2⟩, _, _, rfl, rfl, rfl⟩⟩
 rw [Array.getD_eq_getD_getElem?] at ht hu
 simp only [results, hr]
 clear hO hL
 generalize loadVar = ldv at *
 simp [ht, hu, go_sem, h1]
end
theorem aox {P : Program} {F : Nat} (hF : ∀ (vs : Array Value) (w : World), (callFunc F vs).run P w = .ok (.enter F vs) w) {a : Act} {w : World} {d : Option Tmp} {x : Operand} {xs : Array Operand} {ats : Array TypeId} {ty : TypeId} {pos : String} {af : Array Edge} {gd : Option (Nat × Bool)} (hx : a.eval x = .func (.func F) #[] #[]) :
  (execOp a.eval { dst := d, op := .call { callee := .value x, args := xs, argTypes := ats }, type := ty, pos := pos, after := af, guard := gd }).run P w = .ok (.enter F (xs.map a.eval)) w := by
 have h := hF (#[] ++ xs.map a.eval ++ #[]) w
 rw [Array.empty_append, Array.append_empty] at h
 rw [← h]
 simp only [execOp, resolve, hx, Deferred.ofValue, invoke]
 simp only [pure_bind, Array.empty_append, Array.append_empty]
theorem mg (w : World) : eu w w := Below.refl _ _
abbrev iv (n : Int) : ji := .v (.int .i64 n)
abbrev zR : List ji := [iv 0, iv 0]
abbrev zZ : List ji := [iv 0, .v (.bool false), .v (.slice none 0 0)]
abbrev zQ : List ji := [iv 0, .v (.bool false), .v (.slice none 0 0), iv 0, .v (.bool false), .v (.slice none 0 0)]
abbrev zX : List ji := [.v (.slice none 0 0), .v (.bool false), .v (.slice none 0 0), .v (.bool false)]
section
variable {α : Type} {a b c d e f g h : α} {l : List α}
theorem me0 : a ∈ a :: l := List.Mem.head _
theorem qg : b ∈ a :: b :: l := List.Mem.tail _ me0
theorem Bv : c ∈ a :: b :: c :: l := List.Mem.tail _ qg
theorem Nt : d ∈ a :: b :: c :: d :: l := List.Mem.tail _ Bv
theorem me4 : e ∈ a :: b :: c :: d :: e :: l := List.Mem.tail _ Nt
theorem me5 : f ∈ a :: b :: c :: d :: e :: f :: l := List.Mem.tail _ me4
theorem me6 : g ∈ a :: b :: c :: d :: e :: f :: g :: l := List.Mem.tail _ me5
end
theorem ah {P : Program} {Q : Exit → Act → World → Prop} {l : List Oper} {n : Nat} {T : Nat → World → Value → Prop} {G : World → Prop} {E : World → World → Prop} {al : List Nat} {a0 : Act} {k : Nat} {o : Oper} {r : List Oper} (h : Rg.Step P Q l n T G E al a0 k o) (hr : Rg.Steps P Q l n T G E al a0 (k + 1) r) (hg : o.guard = none := by rfl) : Rg.Steps P Q l n T G E al a0 k (o :: r) := Rg.df (Rg.plain hg h) hr
theorem ic {P : Program} {Q : Exit → Act → World → Prop} {l : List Oper} {n : Nat} {T : Nat → World → Value → Prop} {w V : World} {bs : List xh} {al : List Nat} {a0 : Act} {k d b off m : Nat} {x : Operand} {TB TL : TypeId} {ls : List ji} {ty : TypeId} {pos : String} {af : Array Edge} {gd : Option (Nat × Bool)}
  (hL : Em P TL m) (hm : (b, TB, ls) ∈ bs) (hx : Rg.ig l n T a0 k x (Rg.au (.pointer (some ⟨b, off, none⟩)))) (pre mid post : List ji) (he : ls = pre ++ (mid ++ post) := by rfl) (ho : qd pre = off := by rfl) (hz : qd mid = m := by rfl) (hal : al.contains k = false := by rfl) (hT : T k = ax mid := by rfl) :
  Rg.Step P Q l n T (ay w bs V) eu al a0 k { dst := some d, op := .load TL x, type := ty, pos := pos, after := af, guard := gd } := bcr hL hal hx (fun W h => he ▸ ay.box hm h) ho hz hT
theorem jq {P : Program} {ops : Array Oper} {Q : Exit → Act → World → Prop} {rest : List Oper} {a : Act} {w0 w : World} {TL TB : TypeId} {p x : Operand} {m b off : Nat} {bs : List xh} {ty : TypeId} {pos : String} {af : Array Edge} (hO : Own w0 bs w) (i : Nat) (pre old new post : List ji)
  (hi : bs[i]? = some (b, TB, pre ++ (old ++ post))) (hS : Ai P TL m) (hp : a.eval p = .pointer (some ⟨b, off, none⟩)) (hv : ax new w (a.eval x)) (hm : qd new = m) (hl : qd new = qd old) (ho : off = qd pre)
  (hk : ∀ w', Own w0 (bs.set i (b, TB, pre ++ (new ++ post))) w' → (∀ ks u, ax ks w u → ax ks w' u) → wpList P ops Q rest a w') :
  wpList P ops Q ({ dst := none, op := .store TL p x, type := ty, pos := pos, after := af, guard := none } :: rest) a w := by
 obtain ⟨hlt, he⟩ := List.getElem?_eq_some_iff.1 hi
 have hbs : bs = bs.take i ++ (b, TB, pre ++ (old ++ post)) :: bs.drop (i + 1) := by
  rw [← he, ← List.drop_eq_getElem_cons hlt, List.take_append_drop]
 have hset : bs.set i (b, TB, pre ++ (new ++ post)) = bs.take i ++ (b, TB, pre ++ (new ++ post)) :: bs.drop (i + 1) := List.set_eq_take_append_cons_drop .. |>.trans (if_pos hlt)
 rw [hset] at hk
 rw [hbs] at hO
 exact asq hS hp hv hO hm hl ho hk
theorem ta0 {α : Type} {n : Nat} {a : α} {l : List α} : (a :: l).take (n + 1) = a :: l.take n := List.take_succ_cons
theorem ta1 {α : Type} {l : List α} : l.take 0 = [] := List.take_zero
theorem ta2 {α : Type} {n : Nat} {a : α} {l : List α} : (a :: l).drop (n + 1) = l.drop n := List.drop_succ_cons
theorem ta3 {α : Type} {l : List α} : l.drop 0 = l := List.drop_zero
theorem ta4 {α : Type} {l : List α} {n : Nat} {a : α} : l.toArray.setIfInBounds n a = (l.set n a).toArray := List.setIfInBounds_toArray ..
theorem ta5 {α : Type} {x a : α} {l : List α} : (x :: l).set 0 a = a :: l := List.set_cons_zero ..
theorem ta6 {α : Type} {x a : α} {l : List α} {n : Nat} : (x :: l).set (n + 1) a = x :: l.set n a := List.set_cons_succ ..
theorem bas : Ls Tryz.prog 77 3 := by
 intro w b off us hl hc
 match us, hl with
 | [u0, u1, u2], _ =>
 have k0 : w.cell? ⟨b, off, none⟩ = some u0 := hc 0 om
 have k1 : w.cell? ⟨b, off + 1, none⟩ = some u1 := hc 1 om
 have k2 : w.cell? ⟨b, off + 2, none⟩ = some u2 := hc 2 om
 clear hc
 simp [go_sem, k0, k1, k2]
theorem Mc : Ls Tryz.prog 79 6 := by
 intro w b off us hl hc
 match us, hl with
 | [u0, u1, u2, u3, u4, u5], _ =>
 have k0 : w.cell? ⟨b, off, none⟩ = some u0 := hc 0 om
 have k1 : w.cell? ⟨b, off + 1, none⟩ = some u1 := hc 1 om
 have k2 : w.cell? ⟨b, off + 2, none⟩ = some u2 := hc 2 om
 have k3 : w.cell? ⟨b, off + 3, none⟩ = some u3 := hc 3 om
 have k4 : w.cell? ⟨b, off + 4, none⟩ = some u4 := hc 4 om
 have k5 : w.cell? ⟨b, off + 5, none⟩ = some u5 := hc 5 om
 clear hc
 simp [go_sem, k0, k1, k2, k3, k4, k5]
theorem Cj : Ls Tryz.prog 23 2 := by
 intro w b off us hl hc
 match us, hl with
 | [u0, u1], _ =>
 have k0 : w.cell? ⟨b, off, none⟩ = some u0 := hc 0 om
 have k1 : w.cell? ⟨b, off + 1, none⟩ = some u1 := hc 1 om
 clear hc
 simp [go_sem, k0, k1]
theorem Jp {n m : Nat} (h1 : n < m) (h2 : m ≤ 1000000) : wrap64 ((n : Int) + 1) = ((n + 1 : Nat) : Int) := (IntWalk.wrap64_in _ om).trans om
theorem Ld {n m : Nat} (h1 : n < m) (h2 : m ≤ 1000000) : Value.int .i64 (wrap64 ((n : Int) + 1)) = Value.int .i64 ((n + 1 : Nat) : Int) := by rw [Jp h1 h2]
theorem measS {n m : Nat} (h1 : n < m) : m - (intOf (Value.int .i64 ((n + 1 : Nat) : Int))).toNat < m - (intOf (Value.int .i64 (n : Int))).toNat := by
 simp only [intOf]; omega
theorem ate {ρ : Operand → Value} {w : World} {d : Option Tmp} {x y : Operand} {o z : Int} {ty : TypeId} {pos : String} {af : Array Edge} {gd : Option (Nat × Bool)} (h : ρ x = .int .i64 o) (h' : ρ y = .int .i64 z) :
  (execOp ρ { dst := d, op := .binOp .eql 24 x y 24, type := ty, pos := pos, after := af, guard := gd }).run Tryz.prog w = .ok (.value (.bool (o == z))) w := by
 simp only [execOp, h, h']
 simp [go_sem, Tryz.underlying24]
theorem aeg {Q : Exit → Act → World → Prop} {l : List Oper} {n : Nat} {T : Nat → World → Value → Prop} {G : World → Prop} {al : List Nat} {a0 : Act} {k d : Nat} {ty : TypeId} {pos : String} {af : Array Edge} {gd : Option (Nat × Bool)} {x y : Operand} {o z : Int} {b : Bool}
  (hal : al.contains k = false) (hx : Rg.ig l n T a0 k x (Rg.au (.int .i64 o))) (hy : Rg.ig l n T a0 k y (Rg.au (.int .i64 z))) (hT : T k = Rg.au (.bool b)) (hb : (o == z) = b) : Rg.Step Tryz.prog Q l n T G eu al a0 k { dst := some d, op := .binOp .eql 24 x y 24, type := ty, pos := pos, after := af, guard := gd } := by
 intro a w hG hO hN
 exact je (P := Tryz.prog) (ate (hx a w hO hN) (hy a w hO hN)) ⟨_, rfl, hG, Below.refl _ _, by rw [hT, hb]; rfl, fun h => by rw [hal] at h; cases h⟩
theorem asz {ρ : Operand → Value} {w : World} {d : Option Tmp} {x y : Operand} {o z : Int} {ty : TypeId} {pos : String} {af : Array Edge} {gd : Option (Nat × Bool)} (h : ρ x = .int .i64 o) (h' : ρ y = .int .i64 z) :
  (execOp ρ { dst := d, op := .binOp .neq 24 x y 24, type := ty, pos := pos, after := af, guard := gd }).run Tryz.prog w = .ok (.value (.bool (o != z))) w := by
 simp only [execOp, h, h']
 simp [go_sem, Tryz.underlying24]
theorem qy {Q : Exit → Act → World → Prop} {l : List Oper} {n : Nat} {T : Nat → World → Value → Prop} {G : World → Prop} {al : List Nat} {a0 : Act} {k d : Nat} {ty : TypeId} {pos : String} {af : Array Edge} {gd : Option (Nat × Bool)} {x y : Operand} {o z : Int} {b : Bool}
  (hal : al.contains k = false) (hx : Rg.ig l n T a0 k x (Rg.au (.int .i64 o))) (hy : Rg.ig l n T a0 k y (Rg.au (.int .i64 z))) (hT : T k = Rg.au (.bool b)) (hb : (o != z) = b) : Rg.Step Tryz.prog Q l n T G eu al a0 k { dst := some d, op := .binOp .neq 24 x y 24, type := ty, pos := pos, after := af, guard := gd } := by
 intro a w hG hO hN
 exact je (P := Tryz.prog) (asz (hx a w hO hN) (hy a w hO hN)) ⟨_, rfl, hG, Below.refl _ _, by rw [hT, hb]; rfl, fun h => by rw [hal] at h; cases h⟩
end Sb


namespace Sb
end Sb
namespace Sb
def ES (e1 e2 : xh) (w w' : World) : Prop := eu w w' ∨ ∃ (e : xh) (us cs : List Value), (e = e1 ∨ e = e2) ∧ fo w e.2.2 us ∧ w.heap[e.1]? = some (.cells cs.toArray e.2.1 (0, 0)) ∧ Ea cs ∧ us.length = cs.length ∧ w' = setM w e.1 0 us
theorem ES.refl (e1 e2 : xh) (w : World) : ES e1 e2 w w := .inl (Below.refl _ _)
theorem Ih {W : World} {b : Nat} {T : TypeId} {us cs : List Value} (h : W.heap[b]? = some (.cells cs.toArray T (0, 0))) (hl : us.length = cs.length) : (setM W b 0 us).heap[b]? = some (.cells us.toArray T (0, 0)) := by
 have := Qh (T := T) us cs [] [] W hl (by simpa using h)
 simpa using this
structure GS (w : World) (bs : List xh) (e1 e2 : xh) (W : World) : Prop where
 bel : Below w.heap.size w W
 box : ∀ b T ls, (b, T, ls) ∈ bs → w.heap.size ≤ b ∧ (yf W b T ls ∨ ∃ e : xh, (e = e1 ∨ e = e2) ∧ e.1 = b ∧ yf W b T e.2.2)
theorem GS.step {w : World} {bs : List xh} {e1 e2 : xh} : ∀ W W', GS w bs e1 e2 W → eu W W' → GS w bs e1 e2 W' := fun W W' h hb => ⟨bg h.bel hb, fun b T ls hm => by
 obtain ⟨h1, h2⟩ := h.box b T ls hm
 refine ⟨h1, ?_⟩
 rcases h2 with h2 | ⟨e, h3, h4, h5⟩
 ·
  exact .inl (h2.below hb)
 ·
  exact .inr ⟨e, h3, h4, h5.below hb⟩⟩
theorem GS.start {w V : World} {bs : List xh} {e1 e2 : xh} (h : Own w bs V) : GS w bs e1 e2 V.drew := ⟨(Own.step _ _ h (eu.drew V)).bel, fun b T ls hm => ⟨(h.box b T ls hm).1, .inl ((h.box b T ls hm).2.below (eu.drew V))⟩⟩
theorem GS.get {w W : World} {bs : List xh} {e1 e2 : xh} {b : Nat} {T : TypeId} {ls : List ji} (hm : (b, T, ls) ∈ bs) (h1 : e1.1 = b → e1.2.2 = ls) (h2 : e2.1 = b → e2.2.2 = ls) (h : GS w bs e1 e2 W) : yf W b T ls := by
 rcases (h.box b T ls hm).2 with g | ⟨e, rfl | rfl, g1, g2⟩
 ·
  exact g
 ·
  rwa [h1 g1] at g2
 ·
  rwa [h2 g1] at g2
end Sb

end Go.Proofs.YtfgeaakhlcaibaaGreatDoor
namespace Go.Proofs.YtfgeaakhlcaibaaGreatDoor
namespace Rg

def slB (l : List Oper) (n : Nat) (sl : Nat → Tmp) : Bool := (List.range n).all fun k => (ja l k).isSome || (List.range n).any fun j => waits l k j (sl k)
def Zq (P : Program) (Q : Exit → Act → World → Prop) (l : List Oper) (n : Nat) (sl : Nat → Tmp) (T : Nat → World → Value → Prop) (G : World → Prop) (E : World → World → Prop) (a0 : Act) (k : Nat) (o : Oper) : Prop :=
 o.guard = none ∧ ∀ (a : Act) (w : World), G w → (∀ t, Gd l n t = true → a.tmps.getD t undef = a0.tmps.getD t undef) → (∀ j d, waits l k j d = true → T j w (a.tmps.getD d undef)) →
  o.wp P a w (fun a' w' => ∃ v, a' = a.put o.dst v ∧ G w' ∧ E w w' ∧ T k w' v ∧ (o.dst = none → v = a.tmps.getD (sl k) undef)) Q
def Ko (P : Program) (Q : Exit → Act → World → Prop) (l : List Oper) (n : Nat) (sl : Nat → Tmp) (T : Nat → World → Value → Prop) (G : World → Prop) (E : World → World → Prop) (a0 : Act) : Nat → List Oper → Prop
 | _, [] => True
 | k, o :: r => Zq P Q l n sl T G E a0 k o ∧ Ko P Q l n sl T G E a0 (k + 1) r
section
variable {P : Program} {Q : Exit → Act → World → Prop} {l : List Oper} {n sz : Nat} {sl : Nat → Tmp} {T : Nat → World → Value → Prop} {G : World → Prop} {E : World → World → Prop} {a0 : Act}
theorem xy {k : Nat} {o : Oper} {r : List Oper} (h : Zq P Q l n sl T G E a0 k o) (hr : Ko P Q l n sl T G E a0 (k + 1) r) : Ko P Q l n sl T G E a0 k (o :: r) := ⟨h, hr⟩
theorem aku {k : Nat} : Ko P Q l n sl T G E a0 k [] := trivial
theorem Cw {k : Nat} {o : Oper} (hg : o.guard = none) (hd : o.dst.isSome = true) (h : Step P Q l n T G E [] a0 k o) : Zq P Q l n sl T G E a0 k o :=
 ⟨hg, fun a w hG hO hN => Oper.wp_mono (fun a' w' hK => by
  obtain ⟨v, h1, h2, h3, h4, _⟩ := hK
  exact ⟨v, h1, h2, h3, h4, fun e => by rw [e] at hd; cases hd⟩) (h a w hG hO hN)⟩
theorem Ko.get : ∀ {r : List Oper} {k : Nat}, Ko P Q l n sl T G E a0 k r → ∀ {i : Nat} {o : Oper}, r[i]? = some o → Zq P Q l n sl T G E a0 (k + i) o
 | [], _, _, i, o, h => by simp at h
 | o' :: r, k, hs, 0, o, h => by
  have : o' = o := by simpa using h
  subst this; exact hs.1
 | o' :: r, k, hs, i + 1, o, h => by
  have := Ko.get hs.2 (i := i) (o := o) (by simpa using h)
  rwa [show k + 1 + i = k + (i + 1) by omega] at this
structure TG (l : List Oper) (n : Nat) (sl : Nat → Tmp) (T : Nat → World → Value → Prop) (G : World → Prop) (a0 : Act) (S : Nat → Prop) (a : Act) (w : World) : Prop where
 defers : a.defers = a0.defers
 size : a.tmps.size = a0.tmps.size
 old : ∀ t, Gd l n t = true → a.tmps.getD t undef = a0.tmps.getD t undef
 new : ∀ k d, k < n → S k → ja l k = some d → T k w (a.tmps.getD d undef)
 nod : ∀ k, k < n → S k → ja l k = none → T k w (a.tmps.getD (sl k) undef)
 cl : ∀ k j d, k < n → S k → waits l k j d = true → S j
 good : G w
theorem TG.finish {a : Act} {w : World} (hsz : a0.tmps.size = sz) (hds : ∀ i j d, i < n → j < n → ja l i = some d → ja l j = some d → d < sz ∧ j = i)
  {S : Nat → Prop} (hall : ∀ k, k < n → S k) (inv : TG l n sl T G a0 S a w) : ∃ v : Nat → Value, a = puts v 0 (l.take n) a0 ∧ (∀ k, k < n → T k w (v k)) ∧ ∀ k j, k < n → j < n → ja l k = none → ja l j = some (sl k) → v k = v j := by
 have hv : ∃ v : Nat → Value, (∀ k d, ja l k = some d → v k = a.tmps.getD d undef) ∧ ∀ k, ja l k = none → v k = a.tmps.getD (sl k) undef :=
  ⟨fun k => match ja l k with | some d => a.tmps.getD d undef | none => a.tmps.getD (sl k) undef, fun k d h => by simp only [h], fun k h => by simp only [h]⟩
 obtain ⟨v, hv1, hv2⟩ := hv
 refine ⟨v, ?_, fun k hk => ?_, fun k j hk hj h1 h2 => by rw [hv2 k h1, hv1 j _ h2]⟩
 rotate_left
 ·
  cases hd : ja l k with
  | none => rw [hv2 k hd]; exact inv.nod k hk (hall k hk) hd
  | some d => rw [hv1 k d hd]; exact inv.new k d hk (hall k hk) hd
 refine aau (by rw [inv.defers, Jr]) (by rw [inv.size, Nn]) (fun t => ?_)
 by_cases ht : ∃ k, k < n ∧ ja l k = some t
 ·
  obtain ⟨k, hk, hkt⟩ := ht
  have hdt : ∀ j, ja (l.take n) j = some t → j = k := fun j hj => (hds k j t hk (Dy hj).1 hkt (Dy hj).2).2
  rw [Qo v t (l.take n) 0 k a0 (by unfold ja at hkt ⊢; rwa [List.getElem?_take_of_lt hk]) hdt (by rw [hsz]; exact (hds k k t hk hk hkt hkt).1), Nat.zero_add]
  exact (hv1 k t hkt).symm
 ·
  have hf : Gd l n t = true := List.all_eq_true.2 (fun o ho => by
   obtain ⟨k, hk⟩ := List.getElem?_of_mem ho
   have hkn : k < n := by
    rcases Nat.lt_or_ge k n with h | h
    ·
     exact h
    ·
     rw [List.getElem?_eq_none (by simp; omega)] at hk; cases hk
   rw [List.getElem?_take_of_lt hkn] at hk
   simp only [bne_iff_ne]
   intro h
   exact ht ⟨k, hkn, by unfold ja; rw [hk]; exact h⟩)
  rw [inv.old t hf, Mg v t (l.take n) 0 a0 (fun j hj => ht ⟨j, Dy hj⟩)]
theorem TG.step {a : Act} {w w2 : World} {S : Nat → Prop} {i : Nat} {o : Oper} {v : Value} (hsz : a0.tmps.size = sz) (hds : ∀ i j d, i < n → j < n → ja l i = some d → ja l j = some d → d < sz ∧ j = i)
  (hsl : ∀ k, k < n → ja l k = none → ∃ j, j < n ∧ waits l k j (sl k) = true) (hT : ∀ k w w' v, E w w' → T k w v → T k w' v) (inv : TG l n sl T G a0 S a w) (hin : i < n) (ho : l[i]? = some o) (Kl : ¬ S i) (hwt : ∀ j d, waits l i j d = true → S j) (hG : G w2) (hE : E w w2) (Gq : T i w2 v) (hno : o.dst = none → v = a.tmps.getD (sl i) undef) :
  TG l n sl T G a0 (fun k => k = i ∨ S k) (a.put o.dst v) w2 := by
 have hdi : ja l i = o.dst := by unfold ja; rw [ho]; rfl
 refine ⟨by rw [put_defers]; exact inv.defers, by rw [Qp]; exact inv.size, fun t ht => ?_, fun k d hk hl hd => ?_, fun k hk hl hd => ?_, fun k j d hk hl hw => ?_, hG⟩
 ·
  rw [Gb _ _ _ _ (agm ht hin ho)]; exact inv.old t ht
 ·
  by_cases hki : k = i
  ·
   subst hki
   rw [hdi] at hd
   rw [hd, Ox _ _ _ (by rw [inv.size, hsz]; exact (hds k k d hk hk (by rw [hdi]; exact hd) (by rw [hdi]; exact hd)).1)]
   exact Gq
  ·
   rw [Gb _ _ _ _ (fun h => hki ((hds i k d hin hk (by rw [hdi]; exact h) hd).2))]
   exact hT k w w2 _ hE (inv.new k d hk (hl.resolve_left hki) hd)
 ·
  by_cases hki : k = i
  ·
   subst hki
   have hon : o.dst = none := by rw [← hdi]; exact hd
   rw [hon, show (a.put none v) = a from rfl, ← hno hon]
   exact Gq
  ·
   have hSk := hl.resolve_left hki
   obtain ⟨j, hj, hw⟩ := hsl k hk hd
   have hSj := inv.cl k j _ hk hSk hw
   have hji : j ≠ i := fun e => Kl (e ▸ hSj)
   rw [Gb _ _ _ _ (fun h => hji ((hds i j _ hin hj (by rw [hdi]; exact h) (Dq hw)).2))]
   exact hT k w w2 _ hE (inv.nod k hk hSk hd)
 ·
  by_cases hki : k = i
  ·
   subst hki; exact .inr (hwt j d hw)
  ·
   exact .inr (inv.cl k j d hk (hl.resolve_left hki) hw)
theorem TG.mono {a : Act} {w : World} {S S' : Nat → Prop} (inv : TG l n sl T G a0 S a w) (h : ∀ k, k < n → (S' k ↔ S k)) (hb : ∀ k j d, k < n → waits l k j d = true → j < n) : TG l n sl T G a0 S' a w :=
 ⟨inv.defers, inv.size, inv.old, fun k d hk hs hd => inv.new k d hk ((h k hk).1 hs) hd, fun k hk hs hd => inv.nod k hk ((h k hk).1 hs) hd, fun k j d hk hs hw => (h j (hb k j d hk hw)).2 (inv.cl k j d hk ((h k hk).1 hs) hw), inv.good⟩
end
theorem bac {P : Program} {id : Nat} {Q : Exit → Act → World → Prop} {a : Act} {w : World} {l : List Oper} (n sz : Nat) (sl : Nat → Tmp) (T : Nat → World → Value → Prop) (G : World → Prop) (E : World → World → Prop)
  (hm : P.follows .mixedOrders = true) (hB : okB l n sz = true) (hS1 : slB l n sl = true) (hsz : a.tmps.size = sz)
  (hT : ∀ k w w' v, E w w' → T k w v → T k w' v) (hG : G w.drew)
  (hS : Ko P Q l n sl T G E a 0 (l.take n))
  (hend : ∀ (v : Nat → Value) (w' : World), G w' → (∀ k, k < n → T k w' (v k)) → (∀ k j, k < n → j < n → ja l k = none → ja l j = some (sl k) → v k = v j) → wpList P l.toArray Q (l.drop n) (puts v 0 (l.take n) a) w') :
  (Code.region id l.toArray true).wp P Q a w := by
 simp only [okB, Bool.and_eq_true, Bool.or_eq_true, decide_eq_true_eq] at hB
 obtain ⟨⟨⟨⟨hn, Zb⟩, hback⟩, Li⟩, hseq⟩ := hB
 have hget : ∀ k, k < n → ∃ o, l[k]? = some o := fun k hk => ⟨l[k]'(by omega), List.getElem?_eq_getElem om⟩
 have hbk := Lr hback
 have hds := Lm Li
 have hsl : ∀ k, k < n → ja l k = none → ∃ j, j < n ∧ waits l k j (sl k) = true := fun k hk hd => by
  have h1 := List.all_eq_true.1 hS1 k (List.mem_range.2 hk)
  simp only [hd, Option.isSome_none, Bool.false_or, List.any_eq_true, List.mem_range] at h1
  exact h1
 have hwb : ∀ k j d, k < n → waits l k j d = true → j < n := fun k j d hk hw => by
  simp only [waits, Bool.and_eq_true, beq_iff_eq] at hw
  obtain ⟨oj, hoj, e, he, hb, hon⟩ := Region.waitsFor_spec hw.1
  have := hbk k oj hk (by simpa using hoj) e he hb
  omega
 refine wp_region_any hm ?_
 have key : ∀ (f : Nat) (L : Array Bool) (a' : Act) (w' : World), HeadInv .any l.toArray n L → TG l n sl T G a (fun k => L.getD k false = true) a' w' → cnt L n = f → wpAny P .any l.toArray Q (f + (l.length - n)) L a' w' := by
  intro f
  induction f with
  | zero =>
   intro L a' w' head inv hc
   have hall := Mx hc
   have hL : L = full n (l.length - n) := by
    have hs := head.size
    refine Array.ext (by simp [full, hs]; omega) (fun i h1 h2 => ?_)
    by_cases hi : i < n
    ·
     have g := hall i hi
     simp [h1] at g
     simp [full, hi, g]
    ·
     have g := head.tail i om (by rw [← hs]; exact h1)
     simp [h1] at g
     simp [full, Array.getElem_append, hi, g]
   obtain ⟨v, he, hv, Fp⟩ := inv.finish hsz hds (fun k hk => by rw [hL]; simp [full, Array.getElem?_append, hk])
   rw [he, Nat.zero_add]
   have hlen : (l.drop n).length = l.length - n := by simp
   rw [← hlen]
   exact wpAny_of_seq (md := .any) (ops := l.toArray) (Q' := Q) (l.drop n) n L _ w' (fun j => by simp [List.getElem?_drop]) (by rw [hlen, hL]; exact hseq)
    (hend v w' inv.good hv Fp)
  | succ f ih =>
   intro L a' w' head inv hc
   obtain ⟨i0, hi0, Tt, hle0⟩ := Vi (L := L) (m := n) om
   have Wi : L.size = l.length := by rw [head.size]; simp
   rw [show f + 1 + (l.length - n) = (f + (l.length - n)) + 1 by omega]
   refine ⟨fun hr => ?_, fun i hi => ?_⟩
   ·
    exfalso
    obtain ⟨o, ho⟩ := hget i0 hi0
    have : i0 ∈ Region.ready .any l.toArray L := mem_ready.2 ⟨Tt, o, by simpa using ho, fun e he hb => by
     have hlt := hbk i0 o hi0 ho e he hb
     have h1 := hle0 e.on hlt
     simp [show e.on < L.size by rw [Wi]; omega] at h1
     simp [show e.on < L.size by rw [Wi]; omega, h1]⟩
    rw [hr] at this; cases this
   ·
    obtain ⟨hun, o, ho, Yz⟩ := mem_ready.1 hi
    have ho' : l[i]? = some o := by simpa using ho
    have hil : i < l.length := by
     have := (Array.getElem?_eq_some_iff.1 ho).1
     simpa using this
    have hin : i < n := by
     rcases Nat.lt_or_ge i n with h | h
     ·
      exact h
     ·
      exfalso
      rcases Zb with he | ⟨hs, hch⟩
      ·
       omega
      ·
       exact tail_waits hs hch (by simp only [List.size_toArray]; omega) head _ i0 rfl hi0 Tt i h hi
    have hst := hS.get (i := i) (o := o) (by rw [List.getElem?_take_of_lt hin]; exact ho')
    rw [Nat.zero_add] at hst
    have hdone : ∀ j d, waits l i j d = true → L.getD j false = true := fun j d hjd => by
     simp only [waits, Bool.and_eq_true, beq_iff_eq] at hjd
     obtain ⟨oj, hoj, e, he, hb, hon⟩ := Region.waitsFor_spec hjd.1
     have : oj = o := Option.some.inj (hoj.symm.trans ho)
     subst this
     have hlj := Yz e he hb
     rwa [hon] at hlj
    have hw := hst.2 a' w' inv.good inv.old (fun j d hjd => inv.new j d (hwb i j d hin hjd) (hdone j d hjd) (Dq hjd))
    have Kl : ¬ L.getD i false = true := fun h => by rw [getD_both hun] at h; cases h
    have go : ∀ v w2, G w2 → E w' w2 → T i w2 v → (o.dst = none → v = a'.tmps.getD (sl i) undef) → wpAny P .any l.toArray Q (f + (l.length - n)) (L.setIfInBounds i true) (a'.put o.dst v) w2 := by
     intro v w2 hg2 hE Gq hno
     refine ih (L.setIfInBounds i true) _ w2 (head.set hi hin) ((inv.step hsz hds hsl hT hin ho' Kl hdone hg2 hE Gq hno).mono (fun k hk => ?_) hwb) (by have := Vg hun (m := n) hin; omega)
     by_cases hki : k = i
     ·
      subst hki
      exact ⟨fun _ => .inl rfl, fun _ => by simp [show k < L.size by rw [Wi]; omega]⟩
     ·
      rw [getD_set_ne false (Ne.symm hki)]
      exact ⟨fun h => .inr h, fun h => h.resolve_left hki⟩
    unfold wpOp
    simp only [ho]
    split
    ·
     refine .inl (Oper.wp_mono (fun a2 w2 hK => ?_) hw)
     obtain ⟨v, rfl, hg2, hE, Gq, hno⟩ := hK
     exact go v w2 hg2 hE Gq hno
    ·
     rename_i hwd
     exact absurd (by simp [Region.wanted, hst.1]) hwd
 have h0 := key n (Array.replicate l.length false) a w.drew
  ⟨by simp, fun j oj _ hl => (by rw [getD_replicate_false] at hl; cases hl), fun t _ ht => getD_in (by simpa using ht) (getD_replicate_false _ _)⟩
  ⟨rfl, rfl, fun _ _ => rfl, fun k d _ hs _ => (by rw [getD_replicate_false] at hs; cases hs), fun k _ hs _ => (by rw [getD_replicate_false] at hs; cases hs), fun k j d _ hs _ => (by rw [getD_replicate_false] at hs; cases hs), hG⟩ (Vh _ hn)
 rw [show n + (l.length - n) = l.length by omega] at h0
 have hsz2 : l.toArray.size = l.length := by simp
 rw [hsz2]
 exact h0
end Rg
namespace Rg

def uv (l : List Oper) (sl : Nat → Tmp) (a : Act) (k : Nat) : Value := match ja l k with | some d => a.tmps.getD d undef | none => a.tmps.getD (sl k) undef
theorem Ux {l : List Oper} {sl : Nat → Tmp} {a : Act} {k : Nat} {d : Tmp} (h : ja l k = some d) : uv l sl a k = a.tmps.getD d undef := by unfold uv; rw [h]
def Od (P : Program) (Q : Exit → Act → World → Prop) (l : List Oper) (n : Nat) (sl : Nat → Tmp) (T : Nat → World → Value → Prop) (G : World → Prop) (E : World → World → Prop) (J : (Nat → Prop) → (Nat → Value) → World → Prop) (a0 : Act) (k : Nat) (o : Oper) : Prop :=
 o.guard = none ∧ ∀ (a : Act) (w : World), G w → (∀ t, Gd l n t = true → a.tmps.getD t undef = a0.tmps.getD t undef) → (∀ j d, waits l k j d = true → T j w (a.tmps.getD d undef)) → (∃ S u, J S u w ∧ ¬ S k ∧ ∀ j d, waits l k j d = true → S j ∧ u j = a.tmps.getD d undef) →
  o.wp P a w (fun a' w' => ∃ v, a' = a.put o.dst v ∧ G w' ∧ E w w' ∧ T k w' v ∧ (o.dst = none → v = a.tmps.getD (sl k) undef) ∧
   (∀ S u u', J S u w → (∀ j, j < n → S j → u' j = u j) → (o.dst ≠ none → u' k = v) → ¬ S k → (∀ j d, waits l k j d = true → S j ∧ u j = a.tmps.getD d undef) → J (fun j => j = k ∨ S j) u' w')) Q
def Kn (P : Program) (Q : Exit → Act → World → Prop) (l : List Oper) (n : Nat) (sl : Nat → Tmp) (T : Nat → World → Value → Prop) (G : World → Prop) (E : World → World → Prop) (J : (Nat → Prop) → (Nat → Value) → World → Prop) (a0 : Act) : Nat → List Oper → Prop
 | _, [] => True
 | k, o :: r => Od P Q l n sl T G E J a0 k o ∧ Kn P Q l n sl T G E J a0 (k + 1) r
section
variable {P : Program} {Q : Exit → Act → World → Prop} {l : List Oper} {n sz : Nat} {sl : Nat → Tmp} {T : Nat → World → Value → Prop} {G : World → Prop} {E : World → World → Prop} {J : (Nat → Prop) → (Nat → Value) → World → Prop} {a0 : Act}
theorem jo {k : Nat} {o : Oper} {r : List Oper} (h : Od P Q l n sl T G E J a0 k o) (hr : Kn P Q l n sl T G E J a0 (k + 1) r) : Kn P Q l n sl T G E J a0 k (o :: r) := ⟨h, hr⟩
theorem Qf {k : Nat} : Kn P Q l n sl T G E J a0 k [] := trivial
theorem Kn.get : ∀ {r : List Oper} {k : Nat}, Kn P Q l n sl T G E J a0 k r → ∀ {i : Nat} {o : Oper}, r[i]? = some o → Od P Q l n sl T G E J a0 (k + i) o
 | [], _, _, i, o, h => by simp at h
 | o' :: r, k, hs, 0, o, h => by
  have : o' = o := by simpa using h
  subst this; exact hs.1
 | o' :: r, k, hs, i + 1, o, h => by
  have := Kn.get hs.2 (i := i) (o := o) (by simpa using h)
  rwa [show k + 1 + i = k + (i + 1) by omega] at this
theorem bca {a : Act} {i : Nat} {o : Oper} {v : Value} (hsz : a0.tmps.size = sz) (has : a.tmps.size = a0.tmps.size) (hds : ∀ i j d, i < n → j < n → ja l i = some d → ja l j = some d → d < sz ∧ j = i) (hin : i < n) (ho : l[i]? = some o) (hd : o.dst ≠ none) : uv l sl (a.put o.dst v) i = v := by
 have hdi : ja l i = o.dst := by unfold ja; rw [ho]; rfl
 obtain ⟨d, hd'⟩ := Option.ne_none_iff_exists'.1 hd
 rw [Ux (hdi.trans hd'), hd', Ox _ _ _ (by rw [has, hsz]; exact (hds i i d hin hin (hdi.trans hd') (hdi.trans hd')).1)]
theorem TG.bbz {a : Act} {w : World} {S : Nat → Prop} {i j : Nat} {o : Oper} {v : Value} (hds : ∀ i j d, i < n → j < n → ja l i = some d → ja l j = some d → d < sz ∧ j = i)
  (hsl : ∀ k, k < n → ja l k = none → ∃ j, j < n ∧ waits l k j (sl k) = true) (inv : TG l n sl T G a0 S a w) (hin : i < n) (ho : l[i]? = some o) (Kl : ¬ S i) (hj : j < n) (hSj : S j) : uv l sl (a.put o.dst v) j = uv l sl a j := by
 have hdi : ja l i = o.dst := by unfold ja; rw [ho]; rfl
 have hji : j ≠ i := fun e => Kl (e ▸ hSj)
 unfold uv
 cases hd : ja l j with
 | some d => exact Gb _ _ _ _ (fun h => hji ((hds i j d hin hj (by rw [hdi]; exact h) hd).2))
 | none =>
  obtain ⟨m, hm, hw⟩ := hsl j hj hd
  have hSm := inv.cl j m _ hj hSj hw
  have hmi : m ≠ i := fun e => Kl (e ▸ hSm)
  exact Gb _ _ _ _ (fun h => hmi ((hds i m _ hin hm (by rw [hdi]; exact h) (Dq hw)).2))
theorem TG.baw {a : Act} {w : World} (hsz : a0.tmps.size = sz) (hds : ∀ i j d, i < n → j < n → ja l i = some d → ja l j = some d → d < sz ∧ j = i)
  {S : Nat → Prop} (hall : ∀ k, k < n → S k) (inv : TG l n sl T G a0 S a w) : ∃ v : Nat → Value, a = puts v 0 (l.take n) a0 ∧ (∀ k, k < n → T k w (v k)) ∧ (∀ k j, k < n → j < n → ja l k = none → ja l j = some (sl k) → v k = v j) ∧ v = uv l sl a := by
 have hv1 : ∀ k d, ja l k = some d → uv l sl a k = a.tmps.getD d undef := fun k d h => Ux h
 have hv2 : ∀ k, ja l k = none → uv l sl a k = a.tmps.getD (sl k) undef := fun k h => by unfold uv; rw [h]
 refine ⟨uv l sl a, ?_, fun k hk => ?_, fun k j hk hj h1 h2 => by rw [hv2 k h1, hv1 j _ h2], rfl⟩
 rotate_left
 ·
  cases hd : ja l k with
  | none => rw [hv2 k hd]; exact inv.nod k hk (hall k hk) hd
  | some d => rw [hv1 k d hd]; exact inv.new k d hk (hall k hk) hd
 refine aau (by rw [inv.defers, Jr]) (by rw [inv.size, Nn]) (fun t => ?_)
 by_cases ht : ∃ k, k < n ∧ ja l k = some t
 ·
  obtain ⟨k, hk, hkt⟩ := ht
  have hdt : ∀ j, ja (l.take n) j = some t → j = k := fun j hj => (hds k j t hk (Dy hj).1 hkt (Dy hj).2).2
  rw [Qo (uv l sl a) t (l.take n) 0 k a0 (by unfold ja at hkt ⊢; rwa [List.getElem?_take_of_lt hk]) hdt (by rw [hsz]; exact (hds k k t hk hk hkt hkt).1), Nat.zero_add]
  exact (hv1 k t hkt).symm
 ·
  have hf : Gd l n t = true := List.all_eq_true.2 (fun o ho => by
   obtain ⟨k, hk⟩ := List.getElem?_of_mem ho
   have hkn : k < n := by
    rcases Nat.lt_or_ge k n with h | h
    ·
     exact h
    ·
     rw [List.getElem?_eq_none (by simp; omega)] at hk; cases hk
   rw [List.getElem?_take_of_lt hkn] at hk
   simp only [bne_iff_ne]
   intro h
   exact ht ⟨k, hkn, by unfold ja; rw [hk]; exact h⟩)
  rw [inv.old t hf, Mg (uv l sl a) t (l.take n) 0 a0 (fun j hj => ht ⟨j, Dy hj⟩)]
end
theorem aag {P : Program} {id : Nat} {Q : Exit → Act → World → Prop} {a : Act} {w : World} {l : List Oper} (n sz : Nat) (sl : Nat → Tmp) (T : Nat → World → Value → Prop) (G : World → Prop) (E : World → World → Prop) (J : (Nat → Prop) → (Nat → Value) → World → Prop)
  (hm : P.follows .mixedOrders = true) (hB : okB l n sz = true) (hS1 : slB l n sl = true) (hsz : a.tmps.size = sz)
  (hT : ∀ k w w' v, E w w' → T k w v → T k w' v) (hG : G w.drew) (hJ : ∀ u, J (fun _ => False) u w.drew) (hJc : ∀ S S' u w, (∀ k, k < n → (S' k ↔ S k)) → J S u w → J S' u w)
  (hS : Kn P Q l n sl T G E J a 0 (l.take n))
  (hend : ∀ (v : Nat → Value) (w' : World), G w' → J (fun _ => True) v w' → (∀ k, k < n → T k w' (v k)) → (∀ k j, k < n → j < n → ja l k = none → ja l j = some (sl k) → v k = v j) → wpList P l.toArray Q (l.drop n) (puts v 0 (l.take n) a) w') :
  (Code.region id l.toArray true).wp P Q a w := by
 simp only [okB, Bool.and_eq_true, Bool.or_eq_true, decide_eq_true_eq] at hB
 obtain ⟨⟨⟨⟨hn, Zb⟩, hback⟩, Li⟩, hseq⟩ := hB
 have hget : ∀ k, k < n → ∃ o, l[k]? = some o := fun k hk => ⟨l[k]'(by omega), List.getElem?_eq_getElem om⟩
 have hbk := Lr hback
 have hds := Lm Li
 have hsl : ∀ k, k < n → ja l k = none → ∃ j, j < n ∧ waits l k j (sl k) = true := fun k hk hd => by
  have h1 := List.all_eq_true.1 hS1 k (List.mem_range.2 hk)
  simp only [hd, Option.isSome_none, Bool.false_or, List.any_eq_true, List.mem_range] at h1
  exact h1
 have hwb : ∀ k j d, k < n → waits l k j d = true → j < n := fun k j d hk hw => by
  simp only [waits, Bool.and_eq_true, beq_iff_eq] at hw
  obtain ⟨oj, hoj, e, he, hb, hon⟩ := Region.waitsFor_spec hw.1
  have := hbk k oj hk (by simpa using hoj) e he hb
  omega
 refine wp_region_any hm ?_
 have key : ∀ (f : Nat) (L : Array Bool) (a' : Act) (w' : World), HeadInv .any l.toArray n L → TG l n sl T G a (fun k => L.getD k false = true) a' w' → J (fun k => L.getD k false = true) (uv l sl a') w' → cnt L n = f → wpAny P .any l.toArray Q (f + (l.length - n)) L a' w' := by
  intro f
  induction f with
  | zero =>
   intro L a' w' head inv jv hc
   have hall := Mx hc
   have hL : L = full n (l.length - n) := by
    have hs := head.size
    refine Array.ext (by simp [full, hs]; omega) (fun i h1 h2 => ?_)
    by_cases hi : i < n
    ·
     have g := hall i hi
     simp [h1] at g
     simp [full, hi, g]
    ·
     have g := head.tail i om (by rw [← hs]; exact h1)
     simp [h1] at g
     simp [full, Array.getElem_append, hi, g]
   obtain ⟨v, he, hv, Fp, hvu⟩ := inv.baw hsz hds (fun k hk => by rw [hL]; simp [full, Array.getElem?_append, hk])
   rw [he, Nat.zero_add]
   have hlen : (l.drop n).length = l.length - n := by simp
   rw [← hlen]
   exact wpAny_of_seq (md := .any) (ops := l.toArray) (Q' := Q) (l.drop n) n L _ w' (fun j => by simp [List.getElem?_drop]) (by rw [hlen, hL]; exact hseq)
    (hend v w' inv.good (hvu ▸ hJc _ _ _ _ (fun k hk => by rw [hL]; simp [full, Array.getElem?_append, hk]) jv) hv Fp)
  | succ f ih =>
   intro L a' w' head inv jv hc
   obtain ⟨i0, hi0, Tt, hle0⟩ := Vi (L := L) (m := n) om
   have Wi : L.size = l.length := by rw [head.size]; simp
   rw [show f + 1 + (l.length - n) = (f + (l.length - n)) + 1 by omega]
   refine ⟨fun hr => ?_, fun i hi => ?_⟩
   ·
    exfalso
    obtain ⟨o, ho⟩ := hget i0 hi0
    have : i0 ∈ Region.ready .any l.toArray L := mem_ready.2 ⟨Tt, o, by simpa using ho, fun e he hb => by
     have hlt := hbk i0 o hi0 ho e he hb
     have h1 := hle0 e.on hlt
     simp [show e.on < L.size by rw [Wi]; omega] at h1
     simp [show e.on < L.size by rw [Wi]; omega, h1]⟩
    rw [hr] at this; cases this
   ·
    obtain ⟨hun, o, ho, Yz⟩ := mem_ready.1 hi
    have ho' : l[i]? = some o := by simpa using ho
    have hil : i < l.length := by
     have := (Array.getElem?_eq_some_iff.1 ho).1
     simpa using this
    have hin : i < n := by
     rcases Nat.lt_or_ge i n with h | h
     ·
      exact h
     ·
      exfalso
      rcases Zb with he | ⟨hs, hch⟩
      ·
       omega
      ·
       exact tail_waits hs hch (by simp only [List.size_toArray]; omega) head _ i0 rfl hi0 Tt i h hi
    have hst := hS.get (i := i) (o := o) (by rw [List.getElem?_take_of_lt hin]; exact ho')
    rw [Nat.zero_add] at hst
    have hdone : ∀ j d, waits l i j d = true → L.getD j false = true := fun j d hjd => by
     simp only [waits, Bool.and_eq_true, beq_iff_eq] at hjd
     obtain ⟨oj, hoj, e, he, hb, hon⟩ := Region.waitsFor_spec hjd.1
     have : oj = o := Option.some.inj (hoj.symm.trans ho)
     subst this
     have hlj := Yz e he hb
     rwa [hon] at hlj
    have Kl : ¬ L.getD i false = true := fun h => by rw [getD_both hun] at h; cases h
    have hw := hst.2 a' w' inv.good inv.old (fun j d hjd => inv.new j d (hwb i j d hin hjd) (hdone j d hjd) (Dq hjd)) ⟨_, _, jv, Kl, fun j d hjd => ⟨hdone j d hjd, Ux (Dq hjd)⟩⟩
    have go : ∀ v w2, G w2 → E w' w2 → T i w2 v → (o.dst = none → v = a'.tmps.getD (sl i) undef) → (∀ S u u', J S u w' → (∀ j, j < n → S j → u' j = u j) → (o.dst ≠ none → u' i = v) → ¬ S i → (∀ j d, waits l i j d = true → S j ∧ u j = a'.tmps.getD d undef) → J (fun k => k = i ∨ S k) u' w2) → wpAny P .any l.toArray Q (f + (l.length - n)) (L.setIfInBounds i true) (a'.put o.dst v) w2 := by
     intro v w2 hg2 hE Gq hno hj
     have hiff : ∀ k, k < n → ((L.setIfInBounds i true).getD k false = true ↔ (k = i ∨ L.getD k false = true)) := fun k hk => ?_
     refine ih (L.setIfInBounds i true) _ w2 (head.set hi hin) ((inv.step hsz hds hsl hT hin ho' Kl hdone hg2 hE Gq hno).mono hiff hwb) (hJc _ _ _ _ hiff (hj _ (uv l sl a') _ jv (fun j hj hSj => inv.bbz hds hsl hin ho' Kl hj hSj) (fun hd => bca hsz inv.size hds hin ho' hd) Kl (fun j d hjd => ⟨hdone j d hjd, Ux (Dq hjd)⟩))) (by have := Vg hun (m := n) hin; omega)
     by_cases hki : k = i
     ·
      subst hki
      exact ⟨fun _ => .inl rfl, fun _ => by simp [show k < L.size by rw [Wi]; omega]⟩
     ·
      rw [getD_set_ne false (Ne.symm hki)]
      exact ⟨fun h => .inr h, fun h => h.resolve_left hki⟩
    unfold wpOp
    simp only [ho]
    split
    ·
     refine .inl (Oper.wp_mono (fun a2 w2 hK => ?_) hw)
     obtain ⟨v, rfl, hg2, hE, Gq, hno, hj⟩ := hK
     exact go v w2 hg2 hE Gq hno hj
    ·
     rename_i hwd
     exact absurd (by simp [Region.wanted, hst.1]) hwd
 have h0 := key n (Array.replicate l.length false) a w.drew
  ⟨by simp, fun j oj _ hl => (by rw [getD_replicate_false] at hl; cases hl), fun t _ ht => getD_in (by simpa using ht) (getD_replicate_false _ _)⟩
  ⟨rfl, rfl, fun _ _ => rfl, fun k d _ hs _ => (by rw [getD_replicate_false] at hs; cases hs), fun k _ hs _ => (by rw [getD_replicate_false] at hs; cases hs), fun k j d _ hs _ => (by rw [getD_replicate_false] at hs; cases hs), hG⟩ (hJc _ _ _ _ (fun k _ => ⟨fun h => (by rw [getD_replicate_false] at h; cases h), fun h => h.elim⟩) (hJ _)) (Vh _ hn)
 rw [show n + (l.length - n) = l.length by omega] at h0
 have hsz2 : l.toArray.size = l.length := by simp
 rw [hsz2]
 exact h0
end Rg
end Go.Proofs.YtfgeaakhlcaibaaGreatDoor
namespace Go.Proofs.YtfgeaakhlcaibaaGreatDoor
open Go.RowKit

namespace Sb
def EN (B : Nat) (TB : TypeId) (new : List ji) (w w' : World) : Prop := eu w w' ∨ ∃ (b : Nat) (us cs : List Value), B ≤ b ∧ fo w new us ∧ w.heap[b]? = some (.cells cs.toArray TB (0, 0)) ∧ Ea cs ∧ us.length = cs.length ∧ w' = setM w b 0 us
theorem ady {B : Nat} {TB : TypeId} {new : List ji} (c : Value) : Rg.Fu (EN B TB new) (Rg.au c) := fun _ _ _ _ h => h
theorem Fb {B : Nat} {TB : TypeId} {new : List ji} (ls : List ji) : Rg.Fu (EN B TB new) (ax ls) := by
 rintro w w' v (hb | ⟨b, us, cs, _, h1, h2, h3, h4, rfl⟩) h
 ·
  exact az ls _ _ _ hb h
 ·
  obtain ⟨ds, rfl, h⟩ := h
  exact ⟨ds, rfl, h.upto h2 h3 (yh b us 0 w w (qo _ _))⟩
def Ip (T : TypeId) (m : Nat) (B : Nat) : World → Value → Prop := fun W v => ∃ b, v = .pointer (some ⟨b, 0, none⟩) ∧ B ≤ b ∧ ∃ cs : List Value, W.heap[b]? = some (.cells cs.toArray T (0, 0)) ∧ Ea cs ∧ cs.length = m
theorem akv {B B' m : Nat} {TB T : TypeId} {new : List ji} : Rg.Fu (EN B TB new) (Ip T m B') := by
 rintro w w' v (hb | ⟨b, us, cs, _, h1, h2, h3, h4, rfl⟩) ⟨c, rfl, h5, ds, h6, h7, h8⟩
 ·
  exact ⟨c, rfl, h5, ds, (hb.block _ (lt_of_block h6)).trans h6, h7, h8⟩
 ·
  refine ⟨c, rfl, h5, ?_⟩
  by_cases hbc : c = b
  ·
   subst hbc
   rw [h6] at h2
   have h9 := Option.some.inj h2
   injection h9 with e1 e2 e3
   subst e2
   have e4 : ds = cs := by simpa using e1
   subst e4
   exact ⟨us, Ih h6 h4, h1.noW, by rw [h4, h8]⟩
  ·
   exact ⟨ds, ((yh b us 0 w w (qo _ _)).block c (lt_of_block h6) (fun x => hbc (by injection x))).trans h6, h7, h8⟩
def Jo (TB : TypeId) (new : List ji) (B : Nat) : World → Value → Prop := fun W v => ∃ b, v = .pointer (some ⟨b, 0, none⟩) ∧ B ≤ b ∧ yf W b TB new
theorem aog {B B' : Nat} {TB : TypeId} {new : List ji} : Rg.Fu (EN B TB new) (Jo TB new B') := by
 rintro w w' v (hb | ⟨b, us, cs, _, h1, h2, h3, h4, rfl⟩) ⟨c, rfl, h5, ds, h6, h7⟩
 ·
  exact ⟨c, rfl, h5, yf.below ⟨ds, h6, h7⟩ hb⟩
 ·
  refine ⟨c, rfl, h5, ?_⟩
  have hg := yh b us 0 w w (qo _ _)
  by_cases hbc : c = b
  ·
   subst hbc
   exact ⟨us, Ih h2 h4, h1.upto h2 h3 hg⟩
  ·
   exact ⟨ds, (hg.block c (lt_of_block h6) (fun x => hbc (by injection x))).trans h6, h7.upto h2 h3 hg⟩
theorem Aj {P : Program} {Q : Exit → Act → World → Prop} {l : List Oper} {n : Nat} {T : Nat → World → Value → Prop} {G : World → Prop} {B : Nat} {TB : TypeId} {new : List ji} {al : List Nat} {a0 : Act} {k : Nat} {o : Oper} (h : Rg.Step P Q l n T G eu al a0 k o) : Rg.Step P Q l n T G (EN B TB new) al a0 k o := by
 intro a w hG hO hN
 refine Oper.wp_mono (fun a' w' hK => ?_) (h a w hG hO hN)
 obtain ⟨v, h1, h2, h3, h4, h5⟩ := hK
 exact ⟨v, h1, h2, .inl h3, h4, h5⟩
theorem asx {P : Program} {Q : Exit → Act → World → Prop} {l : List Oper} {n : Nat} {T : Nat → World → Value → Prop} {G : World → Prop} {a0 : Act} {k d B m : Nat} {TL : TypeId} {cs : List Value} {ty : TypeId} {pos : String} {af : Array Edge} {gd : Option (Nat × Bool)} (hN : Gz P TL cs) (hw : cs.all okV = true) (hm : cs.length = m)
  (Ms : ∀ W W', G W → eu W W' → G W') (hB : ∀ W, G W → B ≤ W.heap.size) (hT : T k = Ip TL m B) :
  Rg.Step P Q l n T G eu [] a0 k { dst := some d, op := .alloc TL, type := ty, pos := pos, after := af, guard := gd } := by
 refine awq (N := Ip TL m) (B := B) ?_ Ms hB hT (fun j W u h => by simp at h)
 intro a w
 exact ⟨_, (Below.refl _ _).alloc (Nat.le_refl _) _, fun hB => ⟨w.heap.size, rfl, hB, cs, heap_alloc_new w _, (fo.vs w cs hw).noW, hm⟩, hN a.eval w (some d) ty pos af gd⟩
theorem asu {P : Program} {Q : Exit → Act → World → Prop} {l : List Oper} {n : Nat} {sl : Nat → Tmp} {T : Nat → World → Value → Prop} {w0 V : World} {bs : List xh} {a0 : Act} {k m t : Nat} {TL TB : TypeId} {x : Operand} {new : List ji} {ty : TypeId} {pos : String} {af : Array Edge}
  (hO : Own w0 bs V) (hS : Ai P TL m) (hp : Rg.ig l n T a0 k (.tmp t) (Ip TB m V.heap.size)) (hx : Rg.ig l n T a0 k x (ax new)) (hn : qd new = m) (hsl : sl k = t) (hT : T k = Jo TB new V.heap.size) :
  Rg.Zq P Q l n sl T (ay w0 bs V) (EN V.heap.size TB new) a0 k { dst := none, op := .store TL (.tmp t) x, type := ty, pos := pos, after := af, guard := none } := by
 refine ⟨rfl, fun a w hG hA hN => ?_⟩
 obtain ⟨us, ex, hu⟩ := hx a w hA hN
 obtain ⟨b, ep, hge, cs, hb, hnw, hlen⟩ := hp a w hA hN
 have hl : us.length = cs.length := by rw [hu.len, hn, hlen]
 have hr := hS a.eval w none (.tmp t) x b 0 cs TB us ty pos af none (by rw [hu.len, hn]) (fun u h => (hu.noW u h).2.1) hb (by rw [hlen]; omega) ep ex
 unfold Oper.wp
 rw [hr]
 have hg := yh b us 0 w w (qo _ _)
 have hbel : eu V (setM w b 0 us) := hG.2.grown hg hG.2.size (fun k hk => by injection hk with hk; omega)
 exact ⟨a.tmps.getD (sl k) undef, rfl, ⟨Own.step _ _ hO hbel, hbel⟩, .inr ⟨b, us, cs, hge, hu, hb, hnw, hl, rfl⟩, by rw [hT, hsl]; exact ⟨b, ep, hge, us, Ih hb hl, hu.upto hb hnw hg⟩, fun _ => rfl⟩
end Sb


namespace Sb
def EX (B : Nat) (TB : TypeId) (w w' : World) : Prop := eu w w' ∨ ∃ (b : Nat) (us cs : List Value), B ≤ b ∧ w.heap[b]? = some (.cells cs.toArray TB (0, 0)) ∧ Ea cs ∧ us.length = cs.length ∧ w' = setM w b 0 us
theorem Jc {B : Nat} {TB : TypeId} (c : Value) : Rg.Fu (EX B TB) (Rg.au c) := fun _ _ _ _ h => h
theorem zt {B : Nat} {TB : TypeId} : Rg.Fu (EX B TB) (fun _ _ => True) := fun _ _ _ _ _ => trivial
theorem uj {B : Nat} {TB : TypeId} (ls : List ji) : Rg.Fu (EX B TB) (ax ls) := by
 rintro w w' v (hb | ⟨b, us, cs, _, h2, h3, h4, rfl⟩) h
 ·
  exact az ls _ _ _ hb h
 ·
  obtain ⟨ds, rfl, h⟩ := h
  exact ⟨ds, rfl, h.upto h2 h3 (yh b us 0 w w (qo _ _))⟩
def J2 (TB : TypeId) (m B k5 k6 s1 s2 : Nat) (Cg Cz : List ji) (S : Nat → Prop) (u : Nat → Value) (w : World) : Prop :=
 (S k5 → Ip TB m B w (u k5)) ∧ (S k6 → Ip TB m B w (u k6)) ∧ (S k5 → S k6 → u k5 ≠ u k6) ∧ (S s1 → S k5 ∧ Jo TB Cg B w (u k5)) ∧ (S s2 → S k6 ∧ Jo TB Cz B w (u k6))
section
variable {TB : TypeId} {m B k5 k6 s1 s2 n : Nat} {Cg Cz : List ji} {S S' : Nat → Prop} {u u' : Nat → Value} {w w' : World}
theorem akd : J2 TB m B k5 k6 s1 s2 Cg Cz = J2 TB m B k6 k5 s2 s1 Cz Cg := by
 funext S u w
 exact propext ⟨fun ⟨a, b, c, d, e⟩ => ⟨b, a, fun x y h => c y x h.symm, e, d⟩, fun ⟨a, b, c, d, e⟩ => ⟨b, a, fun x y h => c y x h.symm, e, d⟩⟩
theorem J2.start : J2 TB m B k5 k6 s1 s2 Cg Cz (fun _ => False) u w := ⟨False.elim, False.elim, fun h => h.elim, False.elim, False.elim⟩
theorem J2.congr (hl : k5 < n ∧ k6 < n ∧ s1 < n ∧ s2 < n) (hS : ∀ k, k < n → (S' k ↔ S k)) (h : J2 TB m B k5 k6 s1 s2 Cg Cz S u w) : J2 TB m B k5 k6 s1 s2 Cg Cz S' u w := by
 unfold J2 at h ⊢
 rw [hS k5 hl.1, hS k6 hl.2.1, hS s1 hl.2.2.1, hS s2 hl.2.2.2]
 exact h
theorem Ip.bel {v : Value} (hb : eu w w') (h : Ip TB m B w v) : Ip TB m B w' v := by
 obtain ⟨c, rfl, h5, ds, h6, h7, h8⟩ := h
 exact ⟨c, rfl, h5, ds, (hb.block _ (lt_of_block h6)).trans h6, h7, h8⟩
theorem Jo.bel {new : List ji} {v : Value} (hb : eu w w') (h : Jo TB new B w v) : Jo TB new B w' v := by
 obtain ⟨c, rfl, h5, h6⟩ := h
 exact ⟨c, rfl, h5, h6.below hb⟩
theorem J2.same {k : Nat} (hl : k5 < n ∧ k6 < n) (hne : k ≠ k5 ∧ k ≠ k6 ∧ k ≠ s1 ∧ k ≠ s2) (h : J2 TB m B k5 k6 s1 s2 Cg Cz S u w) (hb : eu w w') (hu : ∀ j, j < n → S j → u' j = u j) : J2 TB m B k5 k6 s1 s2 Cg Cz (fun j => j = k ∨ S j) u' w' := by
 obtain ⟨a, b, c, d, e⟩ := h
 have r5 : (k5 = k ∨ S k5) → S k5 := fun h => h.resolve_left (Ne.symm hne.1)
 have r6 : (k6 = k ∨ S k6) → S k6 := fun h => h.resolve_left (Ne.symm hne.2.1)
 refine ⟨fun h => ?_, fun h => ?_, fun h h' => ?_, fun h => ?_, fun h => ?_⟩
 ·
  rw [hu _ hl.1 (r5 h)]; exact (a (r5 h)).bel hb
 ·
  rw [hu _ hl.2 (r6 h)]; exact (b (r6 h)).bel hb
 ·
  rw [hu _ hl.1 (r5 h), hu _ hl.2 (r6 h')]; exact c (r5 h) (r6 h')
 ·
  have q := d (h.resolve_left (Ne.symm hne.2.2.1))
  rw [hu _ hl.1 q.1]; exact ⟨.inr q.1, q.2.bel hb⟩
 ·
  have q := e (h.resolve_left (Ne.symm hne.2.2.2))
  rw [hu _ hl.2 q.1]; exact ⟨.inr q.1, q.2.bel hb⟩
theorem J2.alloc (hl : k5 < n ∧ k6 < n) (hne : k5 ≠ k6 ∧ k5 ≠ s1 ∧ k5 ≠ s2) (h : J2 TB m B k5 k6 s1 s2 Cg Cz S u w) (hb : eu w w') (hu : ∀ j, j < n → S j → u' j = u j) (Kl : ¬ S k5) (hv : u' k5 = .pointer (some ⟨w.heap.size, 0, none⟩)) (hN : Ip TB m B w' (u' k5)) :
  J2 TB m B k5 k6 s1 s2 Cg Cz (fun j => j = k5 ∨ S j) u' w' := by
 obtain ⟨a, b, c, d, e⟩ := h
 have r6 : (k6 = k5 ∨ S k6) → S k6 := fun h => h.resolve_left (Ne.symm hne.1)
 refine ⟨fun _ => hN, fun h => ?_, fun _ h' => ?_, fun h => ?_, fun h => ?_⟩
 ·
  rw [hu _ hl.2 (r6 h)]; exact (b (r6 h)).bel hb
 ·
  obtain ⟨g, e1, _, ds, h6, _⟩ := b (r6 h')
  rw [hv, hu _ hl.2 (r6 h'), e1]
  intro x
  have := lt_of_block h6
  injection x with x
  injection x with x
  injection x with x
  omega
 ·
  exact absurd (d (h.resolve_left (Ne.symm hne.2.1))).1 Kl
 ·
  have q := e (h.resolve_left (Ne.symm hne.2.2))
  rw [hu _ hl.2 q.1]; exact ⟨.inr q.1, q.2.bel hb⟩
theorem Ip.set {b : Nat} {us cs : List Value} {v : Value} (h2 : w.heap[b]? = some (.cells cs.toArray TB (0, 0))) (h3 : Ea us) (h4 : us.length = cs.length) (h : Ip TB m B w v) : Ip TB m B (setM w b 0 us) v := by
 obtain ⟨c, rfl, h5, ds, h6, h7, h8⟩ := h
 refine ⟨c, rfl, h5, ?_⟩
 by_cases hbc : c = b
 ·
  subst hbc
  rw [h6] at h2
  have h9 := Option.some.inj h2
  injection h9 with e1 e2 e3
  have e4 : ds = cs := by simpa using e1
  subst e4
  exact ⟨us, Ih h6 h4, h3, by rw [h4, h8]⟩
 ·
  exact ⟨ds, ((yh b us 0 w w (qo _ _)).block c (lt_of_block h6) (fun x => hbc (by injection x))).trans h6, h7, h8⟩
theorem Jo.set {b : Nat} {us cs : List Value} {new : List ji} {v : Value} (h2 : w.heap[b]? = some (.cells cs.toArray TB (0, 0))) (h3 : Ea cs) (hv : v ≠ .pointer (some ⟨b, 0, none⟩)) (h : Jo TB new B w v) : Jo TB new B (setM w b 0 us) v := by
 obtain ⟨c, rfl, h5, ds, h6, h7⟩ := h
 have hg := yh b us 0 w w (qo _ _)
 have hbc : c ≠ b := fun x => hv (by rw [x])
 exact ⟨c, rfl, h5, ds, (hg.block c (lt_of_block h6) (fun x => hbc (by injection x))).trans h6, h7.upto h2 h3 hg⟩
theorem J2.store {b : Nat} {us cs : List Value} (hl : k5 < n ∧ k6 < n) (hne : s1 ≠ k5 ∧ s1 ≠ k6 ∧ s1 ≠ s2) (h : J2 TB m B k5 k6 s1 s2 Cg Cz S u w) (hu : ∀ j, j < n → S j → u' j = u j) (hS : S k5) (hv : u k5 = .pointer (some ⟨b, 0, none⟩))
  (h2 : w.heap[b]? = some (.cells cs.toArray TB (0, 0))) (h3 : Ea cs) (h4 : us.length = cs.length) (h5 : Ea us) (hF : Jo TB Cg B (setM w b 0 us) (.pointer (some ⟨b, 0, none⟩))) :
  J2 TB m B k5 k6 s1 s2 Cg Cz (fun j => j = s1 ∨ S j) u' (setM w b 0 us) := by
 obtain ⟨a, b', c, d, e⟩ := h
 have r6 : (k6 = s1 ∨ S k6) → S k6 := fun h => h.resolve_left (Ne.symm hne.2.1)
 refine ⟨fun _ => ?_, fun h => ?_, fun _ h' => ?_, fun _ => ?_, fun h => ?_⟩
 ·
  rw [hu _ hl.1 hS]; exact (a hS).set h2 h5 h4
 ·
  rw [hu _ hl.2 (r6 h)]; exact (b' (r6 h)).set h2 h5 h4
 ·
  rw [hu _ hl.1 hS, hu _ hl.2 (r6 h')]; exact c hS (r6 h')
 ·
  rw [hu _ hl.1 hS, hv]; exact ⟨.inr hS, hF⟩
 ·
  have q := e (h.resolve_left (Ne.symm hne.2.2))
  rw [hu _ hl.2 q.1]
  exact ⟨.inr q.1, q.2.set h2 h3 (fun x => c hS q.1 (by rw [hv, x]))⟩
end
section
variable {P : Program} {Q : Exit → Act → World → Prop} {l : List Oper} {n : Nat} {sl : Nat → Tmp} {T : Nat → World → Value → Prop} {w0 V : World} {bs : List xh} {a0 : Act} {TB : TypeId} {m k5 k6 s1 s2 : Nat} {Cg Cz : List ji} {ty : TypeId} {pos : String} {af : Array Edge}
theorem Cf {k : Nat} {o : Oper} (h : Rg.Step P Q l n T (ay w0 bs V) eu [] a0 k o) (hg : o.guard = none := by rfl) (hd : o.dst.isSome = true := by rfl) (hl : k5 < n ∧ k6 < n := by decide) (hne : k ≠ k5 ∧ k ≠ k6 ∧ k ≠ s1 ∧ k ≠ s2 := by decide) :
  Rg.Od P Q l n sl T (ay w0 bs V) (EX V.heap.size TB) (J2 TB m V.heap.size k5 k6 s1 s2 Cg Cz) a0 k o :=
 ⟨hg, fun a w hG hO hN _ => Oper.wp_mono (fun a' w' hK => by
  obtain ⟨v, h1, h2, h3, h4, _⟩ := hK
  exact ⟨v, h1, h2, .inl h3, h4, fun e => by rw [e] at hd; (cases hd), fun S u u' hJ hu _ _ _ => hJ.same hl hne h3 hu⟩) (h a w hG hO hN)⟩
theorem Uw {d : Tmp} {cs : List Value} (hN : Gz P TB cs) (hw : cs.all okV = true) (hm : cs.length = m) (hT : T k5 = fun _ _ => True) (hl : k5 < n ∧ k6 < n := by decide) (hne : k5 ≠ k6 ∧ k5 ≠ s1 ∧ k5 ≠ s2 := by decide) :
  Rg.Od P Q l n sl T (ay w0 bs V) (EX V.heap.size TB) (J2 TB m V.heap.size k5 k6 s1 s2 Cg Cz) a0 k5 { dst := some d, op := .alloc TB, type := ty, pos := pos, after := af, guard := none } :=
 ⟨rfl, fun a w hG hO _ _ => by
  have hb : eu w (w.alloc (.cells cs.toArray TB)) := (Below.refl _ _).alloc (Nat.le_refl _) _
  refine je (P := P) (hN a.eval w (some d) ty pos af none) ⟨_, rfl, ay.step _ _ hG hb, .inl hb, by rw [hT]; trivial, fun e => by (cases e), fun S u u' hJ hu hv Kl _ => ?_⟩
  have hv' := hv (by simp)
  exact hJ.alloc hl hne hb hu Kl hv' (by rw [hv']; exact ⟨w.heap.size, rfl, hG.2.size, cs, heap_alloc_new w _, (fo.vs w cs hw).noW, hm⟩)⟩
theorem Uv {x : Operand} {t : Tmp} (hO : Own w0 bs V) (hS : Ai P TB m) (hw : Rg.waits l s1 k5 t = true) (hx : Rg.ig l n T a0 s1 x (ax Cg)) (hn : qd Cg = m) (hsl : sl s1 = t) (hT : T s1 = fun _ _ => True) (hl : k5 < n ∧ k6 < n := by decide) (hne : s1 ≠ k5 ∧ s1 ≠ k6 ∧ s1 ≠ s2 := by decide) :
  Rg.Od P Q l n sl T (ay w0 bs V) (EX V.heap.size TB) (J2 TB m V.heap.size k5 k6 s1 s2 Cg Cz) a0 s1 { dst := none, op := .store TB (.tmp t) x, type := ty, pos := pos, after := af, guard := none } := by
 refine ⟨rfl, fun a w hG hA hN hE => ?_⟩
 obtain ⟨us, ex, hu⟩ := hx a w hA hN
 obtain ⟨S0, u0, hJ0, _, hw0⟩ := hE
 obtain ⟨b, ep, hge, cs, hb, hnw, hlen⟩ := hJ0.1 (hw0 k5 t hw).1
 rw [(hw0 k5 t hw).2] at ep
 have hle : us.length = cs.length := by rw [hu.len, hn, hlen]
 have hr := hS a.eval w none (.tmp t) x b 0 cs TB us ty pos af none (by rw [hu.len, hn]) (fun u h => (hu.noW u h).2.1) hb (by rw [hlen]; omega) ep ex
 unfold Oper.wp
 rw [hr]
 have hg := yh b us 0 w w (qo _ _)
 have hbel : eu V (setM w b 0 us) := hG.2.grown hg hG.2.size (fun k hk => by injection hk with hk; omega)
 refine ⟨a.tmps.getD (sl s1) undef, rfl, ⟨Own.step _ _ hO hbel, hbel⟩, .inr ⟨b, us, cs, hge, hb, hnw, hle, rfl⟩, by rw [hT]; trivial, fun _ => rfl, fun S u u' hJ hu' _ Kl hwt => ?_⟩
 exact hJ.store hl hne hu' (hwt k5 t hw).1 ((hwt k5 t hw).2.trans ep) hb hnw hle hu.noW ⟨b, rfl, hge, us, Ih hb hle, hu.upto hb hnw hg⟩
theorem Wn {d : Tmp} {cs : List Value} (hN : Gz P TB cs) (hw : cs.all okV = true) (hm : cs.length = m) (hT : T k6 = fun _ _ => True) (hl : k6 < n ∧ k5 < n := by decide) (hne : k6 ≠ k5 ∧ k6 ≠ s2 ∧ k6 ≠ s1 := by decide) :
  Rg.Od P Q l n sl T (ay w0 bs V) (EX V.heap.size TB) (J2 TB m V.heap.size k5 k6 s1 s2 Cg Cz) a0 k6 { dst := some d, op := .alloc TB, type := ty, pos := pos, after := af, guard := none } := by
 rw [akd]
 exact Uw hN hw hm hT hl hne
theorem Wm {x : Operand} {t : Tmp} (hO : Own w0 bs V) (hS : Ai P TB m) (hw : Rg.waits l s2 k6 t = true) (hx : Rg.ig l n T a0 s2 x (ax Cz)) (hn : qd Cz = m) (hsl : sl s2 = t) (hT : T s2 = fun _ _ => True) (hl : k6 < n ∧ k5 < n := by decide) (hne : s2 ≠ k6 ∧ s2 ≠ k5 ∧ s2 ≠ s1 := by decide) :
  Rg.Od P Q l n sl T (ay w0 bs V) (EX V.heap.size TB) (J2 TB m V.heap.size k5 k6 s1 s2 Cg Cz) a0 s2 { dst := none, op := .store TB (.tmp t) x, type := ty, pos := pos, after := af, guard := none } := by
 rw [akd]
 exact Uv hO hS hw hx hn hsl hT hl hne
end
theorem aar : Ut Tryz.prog 79 3 3 := by
 intro ρ w d x y us vs ty pos af gd h1 h2 e1 e2
 match us, h1, vs, h2 with
 | [u0, u1, u2], _, [v0, v1, v2], _ =>
 simp only [execOp]
 simp [go_sem, e1, e2]
 try rfl
end Sb


namespace Sb
abbrev L7 (f : Nat → Int) : List Int := [f 0, f 1, f 2, f 3, f 4, f 5, f 6]
theorem axk {f g : Nat → Int} (h : ∀ j, j < 7 → f j = g j) : L7 f = L7 g := by
 simp only [L7, h 0 om, h 1 om, h 2 om, h 3 om, h 4 om, h 5 om, h 6 om]
theorem aqd (f : Nat → Int) {k : Nat} (h : k < 7) : (L7 f)[k]? = some (f k) := by
 match k, h with
 | 0, _ => rfl
 | 1, _ => rfl
 | 2, _ => rfl
 | 3, _ => rfl
 | 4, _ => rfl
 | 5, _ => rfl
 | 6, _ => rfl
 | k + 7, h => omega
theorem bdp (f : Nat → Int) {k : Nat} (h : k < 7) (v : Int) : (L7 f).set k v = L7 (fun j => if j = k then v else f j) := by
 match k, h with
 | 0, _ => rfl
 | 1, _ => rfl
 | 2, _ => rfl
 | 3, _ => rfl
 | 4, _ => rfl
 | 5, _ => rfl
 | 6, _ => rfl
 | k + 7, h => omega
def eKL (l : List Int) : Kind where
 size := 7
 ok := fun _ c => c = l.map (fun n => .int .i64 n) ∧ l.length = 7
 noW := by
  rintro W c ⟨rfl, _⟩ u hu
  obtain ⟨n, _, rfl⟩ := List.mem_map.1 hu
  exact kg n
 below := fun _ h => h
 upto := fun _ _ _ h => h
 len := by rintro W c ⟨rfl, h⟩; rw [List.length_map, h]
def eK (f : Nat → Int) : Kind := eKL (L7 f)
theorem bfq {f g : Nat → Int} (h : ∀ j, j < 7 → f j = g j) : eK f = eK g := congrArg eKL (axk h)
def He (f h : Nat → Int) (k : Nat) : Nat → Int := fun j => if j < k then h j else f j
theorem aba (f h : Nat → Int) : He f h 0 = f := by funext j; simp [He]
theorem aix (f h : Nat → Int) (k : Nat) : He f h k k = f k := if_neg (Nat.lt_irrefl k)
theorem ado (f h : Nat → Int) : eK (He f h 7) = eK h := bfq fun j hj => if_pos hj
theorem abb (f h : Nat → Int) (k : Nat) : ∀ j, j < 7 → (if j = k then h k else He f h k j) = He f h (k + 1) j := fun j _ => by
 unfold He
 by_cases e : j = k
 ·
  subst e; rw [if_pos rfl, if_pos (Nat.lt_succ_self j)]
 ·
  rw [if_neg e]
  by_cases e2 : j < k
  ·
   rw [if_pos e2, if_pos om]
  ·
   rw [if_neg e2, if_neg om]
theorem fo.e {W : World} {f : Nat → Int} {ls : List ji} {cs : List Value} (h : fo W ls cs) : fo W (.k (eK f) :: ls) (.int .i64 (f 0) :: .int .i64 (f 1) :: .int .i64 (f 2) :: .int .i64 (f 3) :: .int .i64 (f 4) :: .int .i64 (f 5) :: .int .i64 (f 6) :: cs) := ⟨[_, _, _, _, _, _, _], cs, rfl, ⟨rfl, rfl⟩, h⟩
theorem fo.ade {W : World} {f : Nat → Int} {ls : List ji} {cs : List Value} (h : fo W (.k (eK f) :: ls) cs) : ∃ r, cs = .int .i64 (f 0) :: .int .i64 (f 1) :: .int .i64 (f 2) :: .int .i64 (f 3) :: .int .i64 (f 4) :: .int .i64 (f 5) :: .int .i64 (f 6) :: r ∧ fo W ls r := by
 obtain ⟨c, r, rfl, h1, h⟩ := h
 have h1' : c = (L7 f).map (fun n => .int .i64 n) := h1.1
 subst h1'
 exact ⟨r, rfl, h⟩
theorem bis {W : World} {f : Nat → Int} {v : Value} (h : ax [.k (eK f)] W v) : v = .agg #[.int .i64 (f 0), .int .i64 (f 1), .int .i64 (f 2), .int .i64 (f 3), .int .i64 (f 4), .int .i64 (f 5), .int .i64 (f 6)] := by
 obtain ⟨cs, rfl, h⟩ := h
 obtain ⟨r0, rfl, k⟩ := h.ade
 clear h
 cases k; rfl
theorem Ah {W : World} {f : Nat → Int} {a b v : Value} (h : ax [.k (eK f), .v a, .v b] W v) : v = .agg #[.int .i64 (f 0), .int .i64 (f 1), .int .i64 (f 2), .int .i64 (f 3), .int .i64 (f 4), .int .i64 (f 5), .int .i64 (f 6), a, b] := by
 obtain ⟨cs, rfl, h⟩ := h
 obtain ⟨r0, rfl, k⟩ := h.ade
 clear h
 obtain ⟨r1, rfl, _, k1⟩ := k.Ev
 obtain ⟨r2, rfl, _, k2⟩ := k1.Ev
 cases k2; rfl
theorem Vk {W : World} {f : Nat → Int} {x : Rat} {v : Value} (h : ax [.k (eK f), .q x] W v) : ∃ s1 n1 A1 c1 l1 s2 n2 A2 c2 l2, v = .agg #[.int .i64 (f 0), .int .i64 (f 1), .int .i64 (f 2), .int .i64 (f 3), .int .i64 (f 4), .int .i64 (f 5), .int .i64 (f 6), .int .i64 s1, .bool n1, .slice A1 (List.length l1) c1, .int .i64 s2, .bool n2, .slice A2 (List.length l2) c2] ∧ fq W s1 n1 A1 c1 l1 x.num ∧ fq W s2 n2 A2 c2 l2 (x.den : Int) := by
 obtain ⟨cs, rfl, h⟩ := h
 obtain ⟨r0, rfl, k⟩ := h.ade
 clear h
 obtain ⟨s1, n1, A1, c1, l1, s2, n2, A2, c2, l2, r, rfl, h1, h2, k1⟩ := k.aww
 cases k1
 exact ⟨_, _, _, _, _, _, _, _, _, _, rfl, h1, h2⟩
theorem yf.amw {W : World} {b : Nat} {T : TypeId} {pre post : List ji} {f : Nat → Int} (h : yf W b T (pre ++ (.k (eK f) :: post))) {k : Nat} (hk : k < 7) : W.cell? ⟨b, qd pre + k, none⟩ = some (.int .i64 (f k)) := by
 obtain ⟨cs, h1, h2⟩ := h
 obtain ⟨c, cd, rfl, k1, k2⟩ := h2.cut
 obtain ⟨c1, r, rfl, h3, k4⟩ := k2
 have h3' : c1 = (L7 f).map (fun n => .int .i64 n) := h3.1
 have := Nz h1 k (by rw [h3']; simpa using hk)
 rw [← k1.len, this, h3', List.getElem?_map, aqd f hk]; rfl
end Sb
end Go.Proofs.YtfgeaakhlcaibaaGreatDoor
