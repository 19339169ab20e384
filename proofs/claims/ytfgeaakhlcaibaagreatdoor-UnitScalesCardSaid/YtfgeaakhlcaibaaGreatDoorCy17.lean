/- Texts beneath a law of layer 1. -/
import Derived.Test.YtfgeaakhlcaibaaGreatDoorCy16
import Derived.Lib.ItoaNum
set_option maxRecDepth 100000
set_option maxHeartbeats 16000000
namespace Go.Proofs.YtfgeaakhlcaibaaGreatDoor
open Go.RowKit

namespace Sb
theorem bdo : Em Tryz.prog 181 2 := by
 intro ρ w d x b off us ty pos af gd hl hc hx
 match us, hl with
 | [u0, u1], _ =>
 have k0 : w.cell? ⟨b, off, none⟩ = some u0 := hc 0 om
 have k1 : w.cell? ⟨b, off + 1, none⟩ = some u1 := hc 1 om
 clear hc
 simp only [execOp, hx]
 simp [go_sem, k0, k1]
theorem azf : Ai Tryz.prog 181 2 := by
 intro ρ w d p x b off cs TB us ty pos af gd hl hu hb ho hp hx
 match us, hl with
 | [u0, u1], _ =>
 have o0 := hu u0 (by simp)
 have o1 := hu u1 (by simp)
 have f0 : w.frozen? ⟨b, off, none⟩ = false := ai hb _
 have f1 : w.frozen? ⟨b, off + 1, none⟩ = false := ai hb _
 obtain ⟨c0, k0⟩ : ∃ c, w.cell? ⟨b, off, none⟩ = some c := jm hb om
 obtain ⟨c1, k1⟩ : ∃ c, w.cell? ⟨b, off + 1, none⟩ = some c := jm hb om
 have hlt := lt_of_block hb
 clear hb ho hu
 simp only [execOp, hp, hx, setM]
 simp [go_sem, hlt, run_store _ _ _ _ _ o0, o0, run_store _ _ _ _ _ o1, o1, k0, k1, f0, f1]
theorem bhy : Gz Tryz.prog 181 [.string ⟨#[]⟩, .int .i64 0] := by
 intro ρ w d ty pos af gd
 simp only [execOp]
 simp [go_sem]
theorem bbu : Fy Tryz.prog (fun x => .fieldAddr 181 x 0) 0 := by
 intro a w d x b off ty pos af gd hx
 have hc : ∀ v, a.eval (.const v) = v := fun _ => rfl
 simp only [execOp, hx, hc]
 simp [go_sem]
theorem aot {Q : Exit → Act → World → Prop} {l : List Oper} {n : Nat} {T : Nat → World → Value → Prop} {G : World → Prop} {al : List Nat} {a0 : Act} {k d : Nat} {ty : TypeId} {pos : String} {af : Array Edge} {gd : Option (Nat × Bool)} {b off off' : Nat} {x : Operand} (hal : al.contains k = false) (hx : Rg.ig l n T a0 k x (Rg.au (.pointer (some ⟨b, off, none⟩)))) (ho : off + 0 = off') (hT : T k = Rg.au (.pointer (some ⟨b, off', none⟩))) :
  Rg.Step Tryz.prog Q l n T G eu al a0 k { dst := some d, op := .fieldAddr 181 x 0, type := ty, pos := pos, after := af, guard := gd } := by
 exact Gm (P := Tryz.prog) (o := fun x => .fieldAddr 181 x 0) bbu hal hx ho hT
theorem bbt : Fy Tryz.prog (fun x => .fieldAddr 181 x 1) 1 := by
 intro a w d x b off ty pos af gd hx
 have hc : ∀ v, a.eval (.const v) = v := fun _ => rfl
 simp only [execOp, hx, hc]
 simp [go_sem]
theorem aos {Q : Exit → Act → World → Prop} {l : List Oper} {n : Nat} {T : Nat → World → Value → Prop} {G : World → Prop} {al : List Nat} {a0 : Act} {k d : Nat} {ty : TypeId} {pos : String} {af : Array Edge} {gd : Option (Nat × Bool)} {b off off' : Nat} {x : Operand} (hal : al.contains k = false) (hx : Rg.ig l n T a0 k x (Rg.au (.pointer (some ⟨b, off, none⟩)))) (ho : off + 1 = off') (hT : T k = Rg.au (.pointer (some ⟨b, off', none⟩))) :
  Rg.Step Tryz.prog Q l n T G eu al a0 k { dst := some d, op := .fieldAddr 181 x 1, type := ty, pos := pos, after := af, guard := gd } := by
 exact Gm (P := Tryz.prog) (o := fun x => .fieldAddr 181 x 1) bbt hal hx ho hT
theorem ale {ρ : Operand → Value} {w : World} {d : Option Tmp} {x y : Operand} {p q : Int} {ty : TypeId} {pos : String} {af : Array Edge} {gd : Option (Nat × Bool)} (h1 : ρ x = .int .i64 p) (h2 : ρ y = .int .i64 q) :
  (execOp ρ { dst := d, op := .build 23 #[(0, x), (1, y)], type := ty, pos := pos, after := af, guard := gd }).run Tryz.prog w = .ok (.value (.agg #[.int .i64 p, .int .i64 q])) w := by
 simp only [execOp]
 simp [go_sem, h1, h2]
 try rfl
theorem aei {Q : Exit → Act → World → Prop} {l : List Oper} {n : Nat} {T : Nat → World → Value → Prop} {G : World → Prop} {al : List Nat} {a0 : Act} {k d : Nat} {ty : TypeId} {pos : String} {af : Array Edge} {gd : Option (Nat × Bool)} {x y : Operand} {p q : Int} (hal : al.contains k = false) (hx : Rg.ig l n T a0 k x (Rg.au (.int .i64 p))) (hy : Rg.ig l n T a0 k y (Rg.au (.int .i64 q))) (hT : T k = ax [.v (.int .i64 p), .v (.int .i64 q)]) :
  Rg.Step Tryz.prog Q l n T G eu al a0 k { dst := some d, op := .build 23 #[(0, x), (1, y)], type := ty, pos := pos, after := af, guard := gd } := by
 intro a w hG hO hN
 exact je (P := Tryz.prog) (ale (hx a w hO hN) (hy a w hO hN)) ⟨_, rfl, hG, Below.refl _ _, by rw [hT]; exact Ba _ _ _, fun h => by rw [hal] at h; cases h⟩
abbrev zF : List ji := [.v (.string ⟨#[]⟩), iv 0]
theorem bat : adh Tryz.prog 9 := by
 intro ρ w d x b off u ty pos af gd hc hx
 simp only [execOp, hx]
 simp [go_sem, hc]
theorem bct {Q : Exit → Act → World → Prop} {l : List Oper} {n : Nat} {T : Nat → World → Value → Prop} {G : World → Prop} {al : List Nat} {a0 : Act} {k d : Nat} {ty : TypeId} {pos : String} {af : Array Edge} {gd : Option (Nat × Bool)} {x : Operand} {A : Option Addr} {m c : Nat} (hal : al.contains k = false) (hx : Rg.ig l n T a0 k x (Rg.au (.slice A m c))) (hT : T k = Rg.au (.int .i64 m)) :
  Rg.Step Tryz.prog Q l n T G eu al a0 k { dst := some d, op := .call { callee := .builtin .len, args := #[x], argTypes := #[127] }, type := ty, pos := pos, after := af, guard := gd } := by
 intro a w hG hO hN
 have h : a.eval x = .slice A m c := hx a w hO hN
 have hr : (execOp a.eval { dst := some d, op := .call { callee := .builtin .len, args := #[x], argTypes := #[127] }, type := ty, pos := pos, after := af, guard := gd }).run Tryz.prog w = .ok (.value (.int .i64 m)) w := by
  simp only [execOp, resolve, invoke, h, List.map_toArray, List.map_cons, List.map_nil]
  simp [go_sem, h, Builtin.len_]
 exact je (P := Tryz.prog) hr ⟨_, rfl, hG, Below.refl _ _, by rw [hT]; rfl, fun h => by rw [hal] at h; cases h⟩
theorem bcu {Q : Exit → Act → World → Prop} {l : List Oper} {n : Nat} {T : Nat → World → Value → Prop} {G : World → Prop} {al : List Nat} {a0 : Act} {k d : Nat} {ty : TypeId} {pos : String} {af : Array Edge} {gd : Option (Nat × Bool)} {b i m c : Nat} {x y : Operand} (hal : al.contains k = false) (hx : Rg.ig l n T a0 k x (Rg.au (.slice (some ⟨b, 0, none⟩) m c))) (hy : Rg.ig l n T a0 k y (Rg.au (.int .i64 (i : Int)))) (hi : i < m) (hT : T k = Rg.au (.pointer (some ⟨b, 2 * i, none⟩))) :
  Rg.Step Tryz.prog Q l n T G eu al a0 k { dst := some d, op := .indexAddr 127 x y, type := ty, pos := pos, after := af, guard := gd } := by
 intro a w hG hO hN
 have h1 : a.eval x = .slice (some ⟨b, 0, none⟩) m c := hx a w hO hN
 have h2 : a.eval y = .int .i64 (i : Int) := hy a w hO hN
 have hr : (execOp a.eval { dst := some d, op := .indexAddr 127 x y, type := ty, pos := pos, after := af, guard := gd }).run Tryz.prog w = .ok (.value (.pointer (some ⟨b, 2 * i, none⟩))) w := by
  simp only [execOp, h1, h2]
  simp [go_sem, hi, Nat.mul_comm]
 exact je (P := Tryz.prog) hr ⟨_, rfl, hG, Below.refl _ _, by rw [hT]; rfl, fun h => by rw [hal] at h; cases h⟩
theorem azl {Q : Exit → Act → World → Prop} {l : List Oper} {n : Nat} {T : Nat → World → Value → Prop} {G : World → Prop} {al : List Nat} {a0 : Act} {k d : Nat} {ty : TypeId} {pos : String} {af : Array Edge} {gd : Option (Nat × Bool)} {b i : Nat} {x : Operand} {nm : ByteArray} {p : Int} (hb : ∀ W, G W → Lt W b i nm p) (hal : al.contains k = false) (hx : Rg.ig l n T a0 k x (Rg.au (.pointer (some ⟨b, 2 * i, none⟩)))) (hT : T k = ax [.v (.string nm), iv p]) :
  Rg.Step Tryz.prog Q l n T G eu al a0 k { dst := some d, op := .load 181 x, type := ty, pos := pos, after := af, guard := gd } := by
 intro a w hG hO hN
 obtain ⟨h1, h2⟩ := hb w hG
 have hr := bdo a.eval w (some d) x b (2 * i) [.string nm, .int .i64 p] ty pos af gd rfl (fun j hj => by
  have hc : j = 0 ∨ j = 1 := by omega
  rcases hc with rfl | rfl
  ·
   exact h1
  ·
   exact h2) (hx a w hO hN)
 exact je (P := Tryz.prog) hr ⟨_, rfl, hG, Below.refl _ _, by rw [hT]; exact ⟨_, rfl, fo.v (aes _) (fo.v (kg _) rfl)⟩, fun h => by rw [hal] at h; cases h⟩
theorem ze.setM {W : World} {r b off : Nat} {T : TypeId} {ls : List ji} {us : List Value} {L : List (ByteArray × Value)} (h : ze W r L) (hb : yf W b T ls) : ze (setM W b off us) r L := by
 obtain ⟨cs, h1, _⟩ := hb
 have hne : some r ≠ some b := fun e => by
  injection e with e
  subst e
  have h2 : W.heap[r]? = _ := h
  rw [h1] at h2
  cases h2
 exact ((yh b us off W W (qo _ _)).block r (lt_of_block h) hne).trans h
theorem aoa {P : Program} {ops : Array Oper} {Q : Exit → Act → World → Prop} {rest : List Oper} {a : Act} {w0 w : World} {TL TB : TypeId} {p x : Operand} {m b off : Nat} {xs ys : List xh} {pre old new post : List ji} {ty : TypeId} {pos : String} {af : Array Edge}
  (hS : Ai P TL m) (hp : a.eval p = .pointer (some ⟨b, off, none⟩)) (hv : ax new w (a.eval x)) (hO : Own w0 (xs ++ (b, TB, pre ++ (old ++ post)) :: ys) w) (hm : qd new = m) (hl : qd new = qd old) (ho : off = qd pre)
  (hk : ∀ w', Own w0 (xs ++ (b, TB, pre ++ (new ++ post)) :: ys) w' → (∀ ks u, ax ks w u → ax ks w' u) → (∀ r L, ze w r L → ze w' r L) → wpList P ops Q rest a w') :
  wpList P ops Q ({ dst := none, op := .store TL p x, type := ty, pos := pos, after := af, guard := none } :: rest) a w := by
 obtain ⟨us, e, hu⟩ := hv
 have hbx := hO.box b TB _ (List.mem_append_right _ List.mem_cons_self)
 obtain ⟨hge, cs, hb, hls⟩ := hbx
 have hr := hS a.eval w none p x b off cs TB us ty pos af none (by rw [hu.len, hm]) (fun u h => (hu.noW u h).2.1) hb (by
  have h1 := hls.len
  obtain ⟨c, cd, rfl, k1, k2⟩ := hls.cut
  obtain ⟨o, d, rfl, k3, k4⟩ := k2.cut
  have e1 := k1.len
  have e3 := k3.len
  simp only [List.length_append]
  omega) hp e
 unfold wpList
 rw [if_pos (by simp [Region.wanted])]
 refine .inl ?_
 unfold Oper.wp
 rw [hr]
 exact hk _ (hO.set hu hl ho) (fun ks u h => aas ⟨cs, hb, hls⟩ h) (fun r L h => h.setM ⟨cs, hb, hls⟩)
theorem Sw {P : Program} {ops : Array Oper} {Q : Exit → Act → World → Prop} {rest : List Oper} {a : Act} {w0 w : World} {TL TB : TypeId} {p x : Operand} {m b off : Nat} {bs : List xh} {ty : TypeId} {pos : String} {af : Array Edge} (hO : Own w0 bs w) (i : Nat) (pre old new post : List ji)
  (hi : bs[i]? = some (b, TB, pre ++ (old ++ post))) (hS : Ai P TL m) (hp : a.eval p = .pointer (some ⟨b, off, none⟩)) (hv : ax new w (a.eval x)) (hm : qd new = m) (hl : qd new = qd old) (ho : off = qd pre)
  (hk : ∀ w', Own w0 (bs.set i (b, TB, pre ++ (new ++ post))) w' → (∀ ks u, ax ks w u → ax ks w' u) → (∀ r L, ze w r L → ze w' r L) → wpList P ops Q rest a w') :
  wpList P ops Q ({ dst := none, op := .store TL p x, type := ty, pos := pos, after := af, guard := none } :: rest) a w := by
 obtain ⟨hlt, he⟩ := List.getElem?_eq_some_iff.1 hi
 have hbs : bs = bs.take i ++ (b, TB, pre ++ (old ++ post)) :: bs.drop (i + 1) := by
  rw [← he, ← List.drop_eq_getElem_cons hlt, List.take_append_drop]
 have hset : bs.set i (b, TB, pre ++ (new ++ post)) = bs.take i ++ (b, TB, pre ++ (new ++ post)) :: bs.drop (i + 1) := List.set_eq_take_append_cons_drop .. |>.trans (if_pos hlt)
 rw [hset] at hk
 rw [hbs] at hO
 exact aoa hS hp hv hO hm hl ho hk
theorem Own.tl {w W : World} {e : xh} {bs : List xh} (h : Own w (e :: bs) W) : Own w bs W := ⟨h.bel, (List.nodup_cons.1 (by simpa using h.nd)).2, fun b T ls hm => h.box b T ls (List.mem_cons_of_mem _ hm)⟩
structure ayk (w : World) (g k : Nat) (nm : ByteArray) (p : Int) (f : Nat → Int) (x : Rat) (u : Nat → Int) (y : Rat) (q : Nat → Int) (z : Rat) (f' : Nat → Int) (x' : Rat) : Prop where
 at_ : Lt w g k nm p
 find : ∀ W r, qm W → ze W r Df → Calls Tryz.prog 121 #[.map (some r), .string nm] W (ib (kz [ax [.k (eK u), .q y], Rg.au (.bool true)]) W)
 pow : ∀ W v0, qm W → ax [.k (eK u), .q y] W v0 → Calls Tryz.prog 104 #[v0, .int .i64 p] W (ib (ax [.k (eK q), .q z]) W)
 tim : ∀ W v0 v1, qm W → ax [.k (eK f), .q x] W v0 → ax [.k (eK q), .q z] W v1 → Calls Tryz.prog 119 #[v0, v1] W (ib (ax [.k (eK f'), .q x']) W)
def Vl (w : World) (g k : Nat) (nm : ByteArray) (p : Int) (f : Nat → Int) (x : Rat) (f' : Nat → Int) (x' : Rat) : Prop := ∃ u y q z, ayk w g k nm p f x u y q z f' x'
theorem Vl.parts {w : World} {g k : Nat} {nm : ByteArray} {p : Int} {f : Nat → Int} {x : Rat} {f' : Nat → Int} {x' : Rat} (h : Hid (Vl w g k nm p f x f' x')) : ∃ u y q z, Hid (ayk w g k nm p f x u y q z f' x') := by
 obtain ⟨u, y, q, z, h⟩ := aa h
 exact ⟨u, y, q, z, hide h⟩
theorem aqa {g n c : Nat} {F : Nat → Nat → Int} {X : Nat → Rat} (w : World) (hT : qm w) (hn : n ≤ 1000000) (hF0 : F 0 = z7) (hX0 : Wd.qR 1 1 = X 0) (ok : Wd.oo 1 1)
  (hh : ∀ k, k < n → ∃ nm p, Vl w g k nm p (F k) (X k) (F (k + 1)) (X (k + 1))) :
  Calls Tryz.prog 117 #[.slice (some ⟨g, 0, none⟩) n c] w (ib (kz [ax [.k (eK (F n)), .q (X n)], Rg.au (.bool true)]) w) := by
 have HT := hide hT
 have HN := hide hn
 have HF0 := hide hF0
 have HX0 := hide hX0
 have xx := hide ok
 have HH := hide hh
 clear hT hn hF0 hX0 ok hh
 go_enter Tryz.func117, Tryz.ntmps117
 go_upto_region 1 with fail
 have hO := (Own.push (T := 118) (ls := zM) (Own.nil w) (fo.vs w [.int .i64 0, .int .i64 0, .int .i64 0, .int .i64 0, .int .i64 0, .int .i64 0, .int .i64 0, .int .i64 0, .bool false, .slice none 0 0, .int .i64 0, .bool false, .slice none 0 0] rfl) (w.heap.size) rfl)
 generalize w.alloc (.cells #[.int .i64 0, .int .i64 0, .int .i64 0, .int .i64 0, .int .i64 0, .int .i64 0, .int .i64 0, .int .i64 0, .bool false, .slice none 0 0, .int .i64 0, .bool false, .slice none 0 0] 118) = W0 at *
 have HO := hide hO
 clear hO
 go_upto_region 1 with fail
 refine Rg.dh 2 37 (Rg.pick [aaw Df, aaw Df]) (ay w _ W0) eu [] kr rfl (Rg.dw.pick ⟨Wx, Wx, trivial⟩) (ay.begin (aa HO))
  (ah (Hu Tryz.func120 kr rfl ay.step  (fun W  hG  => ahd W))
  (ah (jk rfl (aT 0))
  Rg.bf)) ?_
 intro v1 V1 hG1 hv1 hne1
 simp only [Rg.puts, Act.put, tA]
 obtain ⟨mr, em, hm⟩ := (show aaw Df V1 (v1 1) from hv1 1 de)
 simp only [em]
 have Aq := hide hm
 clear hm
 have hO := hG1.1
 clear HO
 have HO := hide hO
 clear hO hG1 hv1 hne1
 go_upto_region 2 with fail
 refine Rg.dh 3 37 (Rg.pick [ax [iv 1, iv 1], ax [.k (eK z7), .q (X 0)], nk 118 zM V1.heap.size]) (ay w _ V1) eu [2] kr rfl (Rg.dw.pick ⟨az _, az _, ny _ _ _, trivial⟩) (ay.begin (aa HO))
  (ah (aei rfl (Rg.iy _) (Rg.iy _) rfl)
  (ah (sc1 Tryz.func118 (aT 0) (fun W v0 hG h0 => (aa HX0) ▸ ahg (aa xx) W _ h0))
  (ah (oq ada rfl ay.step ay.size rfl (qp (by intro j hj; simp at hj; (repeat' (first | (rcases hj with rfl | hj))) <;> first | (subst hj; exact ⟨_, _, _, rfl⟩) | exact ⟨_, _, _, rfl⟩)))
  Rg.bf))) ?_
 intro v2 V2 hG2 hv2 hne2
 simp only [Rg.puts, Act.put, tA]
 obtain ⟨bnq, e2, Tz, hz2⟩ := (show nk 118 zM V1.heap.size V2 (v2 2) from hv2 2 de)
 simp only [e2]
 have hO := hG2.1
 replace Aq := hide ((aa Aq).below hG2.2)
 replace hO := Own.add (aa HO) hG2.2 Tz hz2
 clear Tz hz2
 refine Sw hO 0 [] zM [.k (eK z7), .q (X 0)] [] rfl Bn rfl (show ax [.k (eK z7), .q (X 0)] V2 (v2 1) from hv2 1 de) rfl rfl rfl ?_
 intro Et gm hk0 hm0
 replace Aq := hide (hm0 _ _ (aa Aq))
 clear hm0
 replace hO := gm
 clear gm
 clear HO
 have HO := hide hO
 clear hO hG2 hv2 hne2 hk0
 try clear e2
 go_upto_region 3 with fail
 refine Rg.dh 3 37 (Rg.pick [Rg.au (.slice (some ⟨g, 0, none⟩) n c), Rg.au (.int .i64 n), Rg.au (.int .i64 0)]) (ay w _ Et) eu [] kr rfl (Rg.dw.pick ⟨Rg.ae _, Rg.ae _, Rg.ae _, trivial⟩) (ay.begin (aa HO))
  (ah (di rfl aF)
  (ah (bct rfl (aT 0) rfl)
  (ah (di rfl (Rg.iy _))
  Rg.bf))) ?_
 intro v3 V3 hG3 hv3 ma
 simp only [Rg.puts, Act.put, tA]
 have e0 : v3 0 = .slice (some ⟨g, 0, none⟩) n c := hv3 0 de
 have e1 : v3 1 = .int .i64 n := hv3 1 de
 have e2 : v3 2 = .int .i64 0 := hv3 2 de
 simp only [e0, e1, e2]
 have hO := hG3.1
 replace Aq := hide ((aa Aq).below hG3.2)
 clear HO
 have HO := hide hO
 clear hO hG3 hv3 ma
 try clear e0 e1 e2
 have HOM := hide (And.intro (aa HO) (aa Aq))
 clear HO Aq
 go_wp2_with fail
 go_loopw [15] (fun vk wr => ∃ k : Nat, k ≤ n ∧ vk = .int .i64 ((k : Nat) : Int) ∧ Hid (Own w [(bnq, 118, [.k (eK (F k)), .q (X k)]), (w.heap.size, 118, zM)] wr ∧ ze wr mr Df)) (fun vk _ => n - (intOf vk).toNat)
 case atStart => exact ⟨0, by omega, rfl, by rw [aa HF0]; exact HOM⟩
 case round =>
  clear HOM
  obtain ⟨k, hk, rfl, HOM⟩ := hrel
  have HK := hide hk
  clear hk
  have HO := hide (aa HOM).1
  have Aq := hide (aa HOM).2
  clear HOM
  by_cases g1 : (k : Int) < (n : Int)
  ·
   have d1 : decide ((k : Int) < (n : Int)) = true := decide_eq_true g1
   have qb := hide (show k < n by omega)
   obtain ⟨nm, p, HS⟩ : ∃ nm p, Hid (Vl w g k nm p (F k) (X k) (F (k + 1)) (X (k + 1))) := by
    obtain ⟨nm, p, h⟩ := (aa HH) k (aa qb)
    exact ⟨nm, p, hide h⟩
   obtain ⟨u, y, q, z, HS⟩ := Vl.parts HS
   go_upto_region 4 with fail
   refine Rg.dh 1 37 (Rg.pick [Rg.au (.bool true)]) (ay w _ wr) eu [] kr rfl (Rg.dw.pick ⟨Rg.ae _, trivial⟩) (ay.begin (aa HO))
    (ah (rz rfl aF aF rfl d1)
    Rg.bf) ?_
   intro v4 V4 hG4 hv4 sw
   simp only [Rg.puts, Act.put, tA]
   have e0 : v4 0 = .bool true := hv4 0 de
   simp only [e0]
   have hO := hG4.1
   replace Aq := hide ((aa Aq).below hG4.2)
   clear HO
   have HO := hide hO
   clear hO hG4 hv4 sw
   try clear e0
   clear d1 g1
   go_upto_region 5 with fail
   refine Rg.dh 3 37 (Rg.pick [Rg.au (.pointer (some ⟨g, 2 * k, none⟩)), ax [.v (.string nm), iv p], nk 181 zF V4.heap.size]) (ay w _ V4) eu [2] kr rfl (Rg.dw.pick ⟨Rg.ae _, az _, ny _ _ _, trivial⟩) (ay.begin (aa HO))
    (ah (bcu (i := k) (m := n) (c := c) rfl aF aF (aa qb) rfl)
    (ah (azl (i := k) (fun W h => (aa HS).at_.below h.1.bel (aa HS).at_.lt) rfl (aT 0) rfl)
    (ah (oq bhy rfl ay.step ay.size rfl (qp (by intro j hj; simp at hj; (repeat' (first | (rcases hj with rfl | hj))) <;> first | (subst hj; exact ⟨_, _, _, rfl⟩) | exact ⟨_, _, _, rfl⟩)))
    Rg.bf))) ?_
   intro v5 V5 uk hv5 hne5
   simp only [Rg.puts, Act.put, tA]
   obtain ⟨ahj, e2, Tz, hz2⟩ := (show nk 181 zF V4.heap.size V5 (v5 2) from hv5 2 de)
   simp only [e2]
   have hO := uk.1
   replace Aq := hide ((aa Aq).below uk.2)
   replace hO := Own.add (aa HO) uk.2 Tz hz2
   clear Tz hz2
   refine Sw hO 0 [] zF [.v (.string nm), iv p] [] rfl azf rfl (show ax [.v (.string nm), iv p] V5 (v5 1) from hv5 1 de) rfl rfl rfl ?_
   intro Da gm hk0 hm0
   replace Aq := hide (hm0 _ _ (aa Aq))
   clear hm0
   replace hO := gm
   clear gm
   clear HO
   have HO := hide hO
   clear hO uk hv5 hne5 hk0
   try clear e2
   go_upto_region 6 with fail
   refine Rg.dh 8 37 (Rg.pick [Rg.au (.map (some mr)), Rg.au (.pointer (some ⟨ahj, 0, none⟩)), Rg.au (.string nm), kz [ax [.k (eK u), .q y], Rg.au (.bool true)], kz [ax [.k (eK u), .q y], Rg.au (.bool true)], ax [.k (eK u), .q y], Rg.au (.bool true), nk 118 zM Da.heap.size]) (ay w _ Da) eu [7] kr rfl (Rg.dw.pick ⟨Rg.ae _, Rg.ae _, Rg.ae _, jf ⟨(az _), (Rg.ae _), trivial⟩, jf ⟨(az _), (Rg.ae _), trivial⟩, az _, Rg.ae _, ny _ _ _, trivial⟩) (ay.begin (aa HO))
    (ah (di rfl aF)
    (ah (aot (b := ahj) (off := 0) rfl aF rfl rfl)
    (ah (Lg bat me0 (aT 1) [] [iv p] rfl)
    (ah (sc2 Tryz.func121 (aT 0) (aT 2) (fun W v0 v1 hG h0 h1 => by cases h0; cases h1; exact (aa HS).find W mr ((aa HT).below hG.bel) ((aa Aq).below hG.2)))
    (ah (di rfl (aT 3))
    (ah (ky (ts := [ax [.k (eK u), .q y], Rg.au (.bool true)]) rfl (aT 4) (of_decide_eq_true rfl) rfl)
    (ah (ky (ts := [ax [.k (eK u), .q y], Rg.au (.bool true)]) rfl (aT 4) (of_decide_eq_true rfl) rfl)
    (ah (oq ada rfl ay.step ay.size rfl (qp (by intro j hj; simp at hj; (repeat' (first | (rcases hj with rfl | hj))) <;> first | (subst hj; exact ⟨_, _, _, rfl⟩) | exact ⟨_, _, _, rfl⟩)))
    Rg.bf)))))))) ?_
   intro v6 V6 Ap hv6 Dx
   simp only [Rg.puts, Act.put, tA]
   have e6 : v6 6 = .bool true := hv6 6 de
   obtain ⟨btw, e7, Ty, hz7⟩ := (show nk 118 zM Da.heap.size V6 (v6 7) from hv6 7 de)
   simp only [e6, e7]
   have hO := Ap.1
   replace Aq := hide ((aa Aq).below Ap.2)
   replace hO := Own.add (aa HO) Ap.2 Ty hz7
   clear Ty hz7
   refine Sw hO 0 [] zM [.k (eK u), .q y] [] rfl Bn rfl (show ax [.k (eK u), .q y] V6 (v6 5) from hv6 5 de) rfl rfl rfl ?_
   intro Kv gm hk0 hm0
   replace Aq := hide (hm0 _ _ (aa Aq))
   clear hm0
   replace hO := gm
   clear gm
   clear HO
   have HO := hide hO
   clear hO Ap hv6 Dx hk0
   try clear e6 e7
   go_upto_region 7 with fail
   refine Rg.dh 2 37 (Rg.pick [Rg.au (.bool true), Rg.au (.bool false)]) (ay w _ Kv) eu [] kr rfl (Rg.dw.pick ⟨Rg.ae _, Rg.ae _, trivial⟩) (ay.begin (aa HO))
    (ah (di rfl aF)
    (ah (zb rfl (aT 0) rfl rfl)
    Rg.bf)) ?_
   intro v7 V7 yw hv7 Ag
   simp only [Rg.puts, Act.put, tA]
   have e1 : v7 1 = .bool false := hv7 1 de
   simp only [e1]
   have hO := yw.1
   replace Aq := hide ((aa Aq).below yw.2)
   clear HO
   have HO := hide hO
   clear hO yw hv7 Ag
   try clear e1
   go_upto_region 9 with fail
   refine Rg.region 6 37 (Rg.pick [ax [.k (eK (F k)), .q (X k)], ax [.k (eK u), .q y], Rg.au (.pointer (some ⟨ahj, 1, none⟩)), Rg.au (.int .i64 p), ax [.k (eK q), .q z], ax [.k (eK (F (k + 1))), .q (X (k + 1))]]) (ay w _ V7) eu [] kr kr rfl (Rg.dw.pick ⟨az _, az _, Rg.ae _, Rg.ae _, az _, az _, trivial⟩) (ay.start (aa HO))
    (ah (ic Oz Bv aF [] [.k (eK (F k)), .q (X k)] [])
    (ah (ic Oz me0 aF [] [.k (eK u), .q y] [])
    (ah (aos (b := ahj) (off := 0) rfl aF rfl rfl)
    (ah (Lg Di qg (aT 2) [.v (.string nm)] [] rfl)
    (ah (sc2 Tryz.func104 (aT 1) (aT 3) (fun W v0 v1 hG h0 h1 => by cases h1; exact (aa HS).pow W _ ((aa HT).below hG.bel) h0))
    (ah (sc2 Tryz.func119 (aT 0) (aT 4) (fun W v0 v1 hG h0 h1 => (aa HS).tim W _ _ ((aa HT).below hG.bel) h0 h1))
    Rg.bf)))))) ?_
   intro v8 V8 zn wz Az
   simp only [Rg.puts, Act.put, tA]
   have hO := zn.1
   replace Aq := hide ((aa Aq).below zn.2)
   refine Sw hO 2 [] [.k (eK (F k)), .q (X k)] [.k (eK (F (k + 1))), .q (X (k + 1))] [] rfl Bn rfl (show ax [.k (eK (F (k + 1))), .q (X (k + 1))] V8 (v8 5) from wz 5 de) rfl rfl rfl ?_
   intro bgf gm hk0 hm0
   replace Aq := hide (hm0 _ _ (aa Aq))
   clear hm0
   replace hO := gm
   clear gm
   clear HO
   have HO := hide hO
   clear hO zn wz Az hk0
   go_wp2_with fail
   go_roundw
   case rel =>
    exact ⟨k + 1, by have := aa qb; omega, Ld (aa qb) (aa HN), hide ⟨(aa HO).tl.tl, aa Aq⟩⟩
   case measure =>
    have h1 := aa qb
    have h2 := aa HN
    clear HO Aq
    rw [Jp h1 h2]
    exact measS h1
  ·
   have d1 : decide ((k : Int) < (n : Int)) = false := decide_eq_false g1
   obtain rfl : k = n := by have := aa HK; omega
   go_upto_region 4 with fail
   refine Rg.dh 1 37 (Rg.pick [Rg.au (.bool false)]) (ay w _ wr) eu [] kr rfl (Rg.dw.pick ⟨Rg.ae _, trivial⟩) (ay.begin (aa HO))
    (ah (rz rfl aF aF rfl d1)
    Rg.bf) ?_
   intro v4 V4 hG4 hv4 sw
   simp only [Rg.puts, Act.put, tA]
   have e0 : v4 0 = .bool false := hv4 0 de
   simp only [e0]
   have hO := hG4.1
   replace Aq := hide ((aa Aq).below hG4.2)
   clear HO
   have HO := hide hO
   clear hO hG4 hv4 sw
   try clear e0
   clear d1 g1
   go_upto_region 11 with fail
   refine Rg.dh 1 37 (Rg.pick [ax [.k (eK (F k)), .q (X k)]]) (ay w _ V4) eu [] kr rfl (Rg.dw.pick ⟨az _, trivial⟩) (ay.begin (aa HO))
    (ah (ic Oz me0 aF [] [.k (eK (F k)), .q (X k)] [])
    Rg.bf) ?_
   intro v5 V5 uk hv5 hne5
   simp only [Rg.puts, Act.put, tA]
   have hO := uk.1
   replace Aq := hide ((aa Aq).below uk.2)
   refine Sw hO 1 [] zM [.k (eK (F k)), .q (X k)] [] rfl Bn rfl (show ax [.k (eK (F k)), .q (X k)] V5 (v5 0) from hv5 0 de) rfl rfl rfl ?_
   intro Da gm hk0 hm0
   replace Aq := hide (hm0 _ _ (aa Aq))
   clear hm0
   replace hO := gm
   clear gm
   clear HO
   have HO := hide hO
   clear hO uk hv5 hne5 hk0
   go_wp2_with fail
   exact uo Tryz.results117 Ia rfl rfl (aa HO) qg rfl rfl
end Sb


namespace Sb
theorem bcs {Q : Exit → Act → World → Prop} {l : List Oper} {n : Nat} {T : Nat → World → Value → Prop} {G : World → Prop} {al : List Nat} {a0 : Act} {k d : Nat} {ty : TypeId} {pos : String} {af : Array Edge} {gd : Option (Nat × Bool)} {x : Operand} {s : ByteArray} (hal : al.contains k = false) (hx : Rg.ig l n T a0 k x (Rg.au (.string s))) (hT : T k = Rg.au (.int .i64 (s.size : Int))) :
  Rg.Step Tryz.prog Q l n T G eu al a0 k { dst := some d, op := .call { callee := .builtin .len, args := #[x], argTypes := #[9] }, type := ty, pos := pos, after := af, guard := gd } := by
 intro a w hG hO hN
 have h : a.eval x = .string s := hx a w hO hN
 have hr : (execOp a.eval { dst := some d, op := .call { callee := .builtin .len, args := #[x], argTypes := #[9] }, type := ty, pos := pos, after := af, guard := gd }).run Tryz.prog w = .ok (.value (.int .i64 (s.size : Int))) w := by
  simp only [execOp, resolve, invoke, h, List.map_toArray, List.map_cons, List.map_nil]
  simp [go_sem, h, Builtin.len_]
 exact je (P := Tryz.prog) hr ⟨_, rfl, hG, Below.refl _ _, by rw [hT]; rfl, fun h => by rw [hal] at h; cases h⟩
def Gh : Nat → Int := fun j => if j = 0 then 2 else if j = 1 then 1 else if j = 2 then -4 else 0
theorem bma {Q : Exit → Act → World → Prop} {l : List Oper} {n : Nat} {T : Nat → World → Value → Prop} {G : World → Prop} {al : List Nat} {a0 : Act} {k d : Nat} {ty : TypeId} {pos : String} {af : Array Edge} {gd : Option (Nat × Bool)} (hal : al.contains k = false) (hT : T k = ax [.k (eK Gh)]) :
  Rg.Step Tryz.prog Q l n T G eu al a0 k { dst := some d, op := .build 42 #[(0, .const (.int .i64 2)), (1, .const (.int .i64 1)), (2, .const (.int .i64 (-4)))], type := ty, pos := pos, after := af, guard := gd } := by
 intro a w hG hO hN
 have hr : (execOp a.eval { dst := some d, op := .build 42 #[(0, .const (.int .i64 2)), (1, .const (.int .i64 1)), (2, .const (.int .i64 (-4)))], type := ty, pos := pos, after := af, guard := gd }).run Tryz.prog w = .ok (.value (.agg #[.int .i64 2, .int .i64 1, .int .i64 (-4), .int .i64 0, .int .i64 0, .int .i64 0, .int .i64 0])) w := by
  have hc : ∀ v, a.eval (.const v) = v := fun _ => rfl
  simp only [execOp, hc]
  simp [go_sem, hc]
  try rfl
 exact je (P := Tryz.prog) hr ⟨_, rfl, hG, Below.refl _ _, by rw [hT]; exact ⟨_, rfl, fo.e (f := Gh) rfl⟩, fun h => by rw [hal] at h; cases h⟩
theorem Lh {s a b : ByteArray} {n d : Int} {fs : List (ByteArray × Int)} {F F' : Nat → Int} {X X' : Rat} (w : World) (hT : qm w) (hz : decide ((s.size : Int) > 600) = false) (ok : Wd.oo n d) (hpos : decide (n > 0) = true)
  (hsp : ∀ W, Calls Tryz.prog 114 #[.string s] W (ib (kz [Rg.au (.string a), Rg.au (.string b)]) W))
  (hrp : ∀ W, qm W → Calls Tryz.prog 24 #[.string a] W (ib (kz [ax [iv n, iv d], Rg.au (.int .i64 0)]) W))
  (hq : ∀ W, Calls Tryz.prog 115 #[.string b] W (ib (kz [Kw fs, Rg.au (.bool true)]) W))
  (hmul : ∀ W g c, qm W → Px W g fs → Calls Tryz.prog 117 #[.slice (some ⟨g, 0, none⟩) fs.length c] W (ib (kz [ax [.k (eK F), .q X], Rg.au (.bool true)]) W))
  (bdx : ∀ W v0 v1, qm W → ax [.k (eK z7), .q (Wd.qR n d)] W v0 → ax [.k (eK F), .q X] W v1 → Calls Tryz.prog 119 #[v0, v1] W (ib (ax [.k (eK F'), .q X']) W)) :
  Calls Tryz.prog 49 #[.string s] w (ib (Zo (ni F' X')) w) := by
 have HT := hide hT
 have HZ := hide hz
 have xx := hide ok
 have HPO := hide hpos
 have HSP := hide hsp
 have HRP := hide hrp
 have HQ := hide hq
 have HMU := hide hmul
 have HTM := hide bdx
 clear hT hz ok hpos hsp hrp hq hmul bdx
 go_enter Tryz.func49, Tryz.ntmps49
 go_upto_region 1 with fail
 have hO := (Own.push (T := 44) (ls := zU) (Own.nil w) (fo.vs w [.int .i64 0, .int .i64 0, .int .i64 0, .int .i64 0, .int .i64 0, .int .i64 0, .int .i64 0, .int .i64 0, .int .i64 0] rfl) (w.heap.size) rfl)
 generalize w.alloc (.cells #[.int .i64 0, .int .i64 0, .int .i64 0, .int .i64 0, .int .i64 0, .int .i64 0, .int .i64 0, .int .i64 0, .int .i64 0] 44) = W0 at *
 have HO := hide hO
 clear hO
 go_upto_region 1 with fail
 refine Rg.dh 3 59 (Rg.pick [Rg.au (.string s), Rg.au (.int .i64 (s.size : Int)), Rg.au (.bool false)]) (ay w _ W0) eu [] kr rfl (Rg.dw.pick ⟨Rg.ae _, Rg.ae _, Rg.ae _, trivial⟩) (ay.begin (aa HO))
  (ah (di rfl aF)
  (ah (bcs rfl (aT 0) rfl)
  (ah (Va rfl (aT 1) (Rg.iy _) rfl (aa HZ))
  Rg.bf))) ?_
 intro v1 V1 hG1 hv1 hne1
 simp only [Rg.puts, Act.put, tA]
 have e2 : v1 2 = .bool false := hv1 2 de
 simp only [e2]
 have hO := hG1.1
 clear HO
 have HO := hide hO
 clear hO hG1 hv1 hne1
 try clear e2
 go_upto_region 3 with fail
 refine Rg.dh 7 59 (Rg.pick [Rg.au (.string s), kz [Rg.au (.string a), Rg.au (.string b)], kz [Rg.au (.string a), Rg.au (.string b)], Rg.au (.string a), Rg.au (.string b), Rg.au (.string a), Rg.au (.string b)]) (ay w _ V1) eu [] kr rfl (Rg.dw.pick ⟨Rg.ae _, jf ⟨(Rg.ae _), (Rg.ae _), trivial⟩, jf ⟨(Rg.ae _), (Rg.ae _), trivial⟩, Rg.ae _, Rg.ae _, Rg.ae _, Rg.ae _, trivial⟩) (ay.begin (aa HO))
  (ah (di rfl aF)
  (ah (sc1 Tryz.func114 (aT 0) (fun W v0 hG h0 => by cases h0; exact (aa HSP) W))
  (ah (di rfl (aT 1))
  (ah (ky (ts := [Rg.au (.string a), Rg.au (.string b)]) rfl (aT 2) (of_decide_eq_true rfl) rfl)
  (ah (ky (ts := [Rg.au (.string a), Rg.au (.string b)]) rfl (aT 2) (of_decide_eq_true rfl) rfl)
  (ah (jk rfl (aT 3))
  (ah (jk rfl (aT 4))
  Rg.bf))))))) ?_
 intro v2 V2 hG2 hv2 hne2
 simp only [Rg.puts, Act.put, tA]
 have e3 : v2 3 = .string a := hv2 3 de
 have e4 : v2 4 = .string b := hv2 4 de
 have e5 : v2 5 = .string a := hv2 5 de
 have e6 : v2 6 = .string b := hv2 6 de
 simp only [e3, e4, e5, e6]
 have hO := hG2.1
 clear HO
 have HO := hide hO
 clear hO hG2 hv2 hne2
 try clear e3 e4 e5 e6
 go_upto_region 4 with fail
 refine Rg.dh 6 59 (Rg.pick [Rg.au (.string a), kz [ax [iv n, iv d], Rg.au (.int .i64 0)], kz [ax [iv n, iv d], Rg.au (.int .i64 0)], ax [iv n, iv d], Rg.au (.int .i64 0), nk 23 zR V2.heap.size]) (ay w _ V2) eu [5] kr rfl (Rg.dw.pick ⟨Rg.ae _, jf ⟨(az _), (Rg.ae _), trivial⟩, jf ⟨(az _), (Rg.ae _), trivial⟩, az _, Rg.ae _, ny _ _ _, trivial⟩) (ay.begin (aa HO))
  (ah (di rfl aF)
  (ah (sc1 Tryz.func24 (aT 0) (fun W v0 hG h0 => by cases h0; exact (aa HRP) W ((aa HT).below hG.bel)))
  (ah (di rfl (aT 1))
  (ah (ky (ts := [ax [iv n, iv d], Rg.au (.int .i64 0)]) rfl (aT 2) (of_decide_eq_true rfl) rfl)
  (ah (ky (ts := [ax [iv n, iv d], Rg.au (.int .i64 0)]) rfl (aT 2) (of_decide_eq_true rfl) rfl)
  (ah (oq Gc rfl ay.step ay.size rfl (qp (by intro j hj; simp at hj; (repeat' (first | (rcases hj with rfl | hj))) <;> first | (subst hj; exact ⟨_, _, _, rfl⟩) | exact ⟨_, _, _, rfl⟩)))
  Rg.bf)))))) ?_
 intro v3 V3 hG3 hv3 ma
 simp only [Rg.puts, Act.put, tA]
 have e4 : v3 4 = .int .i64 0 := hv3 4 de
 obtain ⟨buc, e5, Fq, Ki⟩ := (show nk 23 zR V2.heap.size V3 (v3 5) from hv3 5 de)
 simp only [e4, e5]
 have hO := hG3.1
 replace hO := Own.add (aa HO) hG3.2 Fq Ki
 clear Fq Ki
 refine jq hO 0 [] zR [iv n, iv d] [] rfl qz rfl (show ax [iv n, iv d] V3 (v3 3) from hv3 3 de) rfl rfl rfl ?_
 intro Gl gm hk0
 replace hO := gm
 clear gm
 clear HO
 have HO := hide hO
 clear hO hG3 hv3 ma hk0
 try clear e4 e5
 go_upto_region 5 with fail
 refine Rg.dh 7 59 (Rg.pick [Rg.au (.string b), kz [Kw fs, Rg.au (.bool true)], kz [Kw fs, Rg.au (.bool true)], Kw fs, Rg.au (.bool true), Kw fs, Rg.au (.bool true)]) (ay w _ Gl) eu [] kr rfl (Rg.dw.pick ⟨Rg.ae _, jf ⟨(Qg _), (Rg.ae _), trivial⟩, jf ⟨(Qg _), (Rg.ae _), trivial⟩, Qg _, Rg.ae _, Qg _, Rg.ae _, trivial⟩) (ay.begin (aa HO))
  (ah (di rfl aF)
  (ah (sc1 Tryz.func115 (aT 0) (fun W v0 hG h0 => by cases h0; exact (aa HQ) W))
  (ah (di rfl (aT 1))
  (ah (ky (ts := [Kw fs, Rg.au (.bool true)]) rfl (aT 2) (of_decide_eq_true rfl) rfl)
  (ah (ky (ts := [Kw fs, Rg.au (.bool true)]) rfl (aT 2) (of_decide_eq_true rfl) rfl)
  (ah (jk rfl (aT 3))
  (ah (jk rfl (aT 4))
  Rg.bf))))))) ?_
 intro v4 V4 hG4 hv4 sw
 simp only [Rg.puts, Act.put, tA]
 have e4 : v4 4 = .bool true := hv4 4 de
 have e6 : v4 6 = .bool true := hv4 6 de
 simp only [e4, e6]
 obtain ⟨g, c, em, hfa⟩ := (show Kw fs V4 (v4 5) from hv4 5 de)
 simp only [em]
 have HFA := hide hfa
 clear hfa
 have hO := hG4.1
 clear HO
 have HO := hide hO
 clear hO hG4 hv4 sw
 try clear e4 e6
 go_upto_region 6 with fail
 refine Rg.dh 9 59 (Rg.pick [Rg.au (.bool true), Rg.au (.bool false), Rg.au (.bool false), Rg.au (.string a), ax [iv n, iv d], Rg.au (.int .i64 0), Rg.au (.bool true), Rg.au (.bool false), Rg.au (.bool false)]) (ay w _ V4) eu [] kr rfl (Rg.dw.pick ⟨Rg.ae _, Rg.ae _, Rg.ae _, Rg.ae _, az _, Rg.ae _, Rg.ae _, Rg.ae _, Rg.ae _, trivial⟩) (ay.begin (aa HO))
  (ah (di rfl aF)
  (ah (zb rfl (aT 0) rfl rfl)
  (ah (di rfl (aT 1))
  (Rg.df (Rg.fu (d := 32) rfl kr rfl (di rfl aF))
  (Rg.df (Rg.fu (d := 32) rfl kr rfl (ic uf me0 aF [] [iv n, iv d] []))
  (Rg.df (Rg.fu (d := 32) rfl kr rfl (di rfl aF))
  (Rg.df (Rg.fu (d := 32) rfl kr rfl (aje Tryz.func116 kr rfl ay.step (aT 3) (aT 4) (aT 5) (fun W v0 v1 v2 hG h0 h1 h2 => by cases h0; cases h2; exact bde W _ h1 (aa HPO))))
  (Rg.df (Rg.fu (d := 32) rfl kr rfl (zb rfl (aT 6) rfl rfl))
  (ah (pg rfl (aT 2) (aT 7))
  Rg.bf))))))))) ?_
 intro v5 V5 uk hv5 hne5
 simp only [Rg.puts, Act.put, tA]
 have e8 : v5 8 = .bool false := hv5 8 de
 simp only [e8]
 have hO := uk.1
 replace HFA := hide ((aa HFA).below uk.2)
 clear HO
 have HO := hide hO
 clear hO uk hv5 hne5
 try clear e8
 go_upto_region 8 with fail
 refine Rg.dh 6 59 (Rg.pick [Rg.au (.slice (some ⟨g, 0, none⟩) (List.length fs) c), kz [ax [.k (eK F), .q X], Rg.au (.bool true)], kz [ax [.k (eK F), .q X], Rg.au (.bool true)], ax [.k (eK F), .q X], Rg.au (.bool true), nk 118 zM V5.heap.size]) (ay w _ V5) eu [5] kr rfl (Rg.dw.pick ⟨Rg.ae _, jf ⟨(az _), (Rg.ae _), trivial⟩, jf ⟨(az _), (Rg.ae _), trivial⟩, az _, Rg.ae _, ny _ _ _, trivial⟩) (ay.begin (aa HO))
  (ah (di rfl aF)
  (ah (sc1 Tryz.func117 (aT 0) (fun W v0 hG h0 => by cases h0; exact (aa HMU) W g c ((aa HT).below hG.bel) ((aa HFA).below hG.2)))
  (ah (di rfl (aT 1))
  (ah (ky (ts := [ax [.k (eK F), .q X], Rg.au (.bool true)]) rfl (aT 2) (of_decide_eq_true rfl) rfl)
  (ah (ky (ts := [ax [.k (eK F), .q X], Rg.au (.bool true)]) rfl (aT 2) (of_decide_eq_true rfl) rfl)
  (ah (oq ada rfl ay.step ay.size rfl (qp (by intro j hj; simp at hj; (repeat' (first | (rcases hj with rfl | hj))) <;> first | (subst hj; exact ⟨_, _, _, rfl⟩) | exact ⟨_, _, _, rfl⟩)))
  Rg.bf)))))) ?_
 intro v6 V6 Ap hv6 Dx
 simp only [Rg.puts, Act.put, tA]
 have e4 : v6 4 = .bool true := hv6 4 de
 obtain ⟨bty, e5, Fq, Ki⟩ := (show nk 118 zM V5.heap.size V6 (v6 5) from hv6 5 de)
 simp only [e4, e5]
 have hO := Ap.1
 replace hO := Own.add (aa HO) Ap.2 Fq Ki
 clear Fq Ki
 refine jq hO 0 [] zM [.k (eK F), .q X] [] rfl Bn rfl (show ax [.k (eK F), .q X] V6 (v6 3) from hv6 3 de) rfl rfl rfl ?_
 intro Kv gm hk0
 replace hO := gm
 clear gm
 clear HO
 have HO := hide hO
 clear hO Ap hv6 Dx hk0
 try clear e4 e5
 go_upto_region 9 with fail
 refine Rg.dh 2 59 (Rg.pick [Rg.au (.bool true), Rg.au (.bool false)]) (ay w _ Kv) eu [] kr rfl (Rg.dw.pick ⟨Rg.ae _, Rg.ae _, trivial⟩) (ay.begin (aa HO))
  (ah (di rfl aF)
  (ah (zb rfl (aT 0) rfl rfl)
  Rg.bf)) ?_
 intro v7 V7 yw hv7 Ag
 simp only [Rg.puts, Act.put, tA]
 have e1 : v7 1 = .bool false := hv7 1 de
 simp only [e1]
 have hO := yw.1
 clear HO
 have HO := hide hO
 clear hO yw hv7 Ag
 try clear e1
 go_upto_region 11 with fail
 refine Rg.dh 2 59 (Rg.pick [Rg.au (.int .i64 0), Rg.au (.bool false)]) (ay w _ V7) eu [] kr rfl (Rg.dw.pick ⟨Rg.ae _, Rg.ae _, trivial⟩) (ay.begin (aa HO))
  (ah (di rfl aF)
  (ah (qy rfl (aT 0) (Rg.iy _) rfl rfl)
  Rg.bf)) ?_
 intro v8 V8 zn wz Az
 simp only [Rg.puts, Act.put, tA]
 have e1 : v8 1 = .bool false := wz 1 de
 simp only [e1]
 have hO := zn.1
 clear HO
 have HO := hide hO
 clear hO zn wz Az
 try clear e1
 go_upto_region 13 with fail
 refine Rg.region 7 59 (Rg.pick [ax [iv n, iv d], ax [.k (eK z7), .q (Wd.qR n d)], ax [.k (eK F), .q X], ax [.k (eK F'), .q X'], kz [ax [.k (eK (ni F' X').f), iv (ni F' X').n, iv (ni F' X').d], Rg.au (.int .i64 (ni F' X').e)], ax [.k (eK (ni F' X').f), iv (ni F' X').n, iv (ni F' X').d], Rg.au (.int .i64 (ni F' X').e)]) (ay w _ V8) eu [] kr kr rfl (Rg.dw.pick ⟨az _, az _, az _, az _, jf ⟨(az _), (Rg.ae _), trivial⟩, az _, Rg.ae _, trivial⟩) (ay.start (aa HO))
  (ah (ic uf qg aF [] [iv n, iv d] [])
  (ah (sc1 Tryz.func118 (aT 0) (fun W v0 hG h0 => ahg (aa xx) W _ h0))
  (ah (ic Oz me0 aF [] [.k (eK F), .q X] [])
  (ah (sc2 Tryz.func119 (aT 1) (aT 2) (fun W v0 v1 hG h0 h1 => (aa HTM) W _ _ ((aa HT).below hG.bel) h0 h1))
  (ah (sc1 Tryz.func105 (aT 3) (fun W v0 hG h0 => ajw W _ h0))
  (ah (ky (ts := [ax [.k (eK (ni F' X').f), iv (ni F' X').n, iv (ni F' X').d], Rg.au (.int .i64 (ni F' X').e)]) rfl (aT 4) (of_decide_eq_true rfl) rfl)
  (ah (ky (ts := [ax [.k (eK (ni F' X').f), iv (ni F' X').n, iv (ni F' X').d], Rg.au (.int .i64 (ni F' X').e)]) rfl (aT 4) (of_decide_eq_true rfl) rfl)
  Rg.bf))))))) ?_
 intro v9 V9 Mt Il Re
 simp only [Rg.puts, Act.put, tA]
 have e6 : v9 6 = .int .i64 (ni F' X').e := Il 6 de
 simp only [e6]
 have hO := Mt.1
 refine jq hO 2 [] zU [.k (eK (ni F' X').f), iv (ni F' X').n, iv (ni F' X').d] [] rfl zo rfl (show ax [.k (eK (ni F' X').f), iv (ni F' X').n, iv (ni F' X').d] V9 (v9 5) from Il 5 de) rfl rfl rfl ?_
 intro aav gm hk0
 replace hO := gm
 clear gm
 clear HO
 have HO := hide hO
 clear hO Mt Il Re hk0
 try clear e6
 go_wp2_with fail
 exact uo Tryz.results49 Hz rfl rfl (aa HO) Bv rfl rfl
theorem aly (w : World) (hT : qm w) (hp : ∀ W, qm W → Calls Tryz.prog 49 #[.string ⟨#[107, 78, 46, 109, 47, 115, 50]⟩] W (ib (Zo ⟨Gh, 1000, 1, 0⟩) W)) :
  Calls Tryz.prog 43 #[] w (ib (Rg.au (.bool true)) w) := by
 have HT := hide hT
 have HP := hide hp
 clear hT hp
 go_enter Tryz.func43, Tryz.ntmps43
 go_upto_region 1 with fail
 have hO := (Own.nil w)
 have HO := hide hO
 clear hO
 go_upto_region 1 with fail
 refine Rg.dh 5 26 (Rg.pick [kz [ax [.k (eK Gh), iv 1000, iv 1], Rg.au (.int .i64 0)], kz [ax [.k (eK Gh), iv 1000, iv 1], Rg.au (.int .i64 0)], ax [.k (eK Gh), iv 1000, iv 1], Rg.au (.int .i64 0), nk 44 zU w.heap.size]) (ay w _ w) eu [4] kr rfl (Rg.dw.pick ⟨jf ⟨(az _), (Rg.ae _), trivial⟩, jf ⟨(az _), (Rg.ae _), trivial⟩, az _, Rg.ae _, ny _ _ _, trivial⟩) (ay.begin (aa HO))
  (ah (sc1 Tryz.func49 (Rg.iy _) (fun W v0 hG h0 => by cases h0; exact (aa HP) W ((aa HT).below hG.bel)))
  (ah (di rfl (aT 0))
  (ah (ky (ts := [ax [.k (eK Gh), iv 1000, iv 1], Rg.au (.int .i64 0)]) rfl (aT 1) (of_decide_eq_true rfl) rfl)
  (ah (ky (ts := [ax [.k (eK Gh), iv 1000, iv 1], Rg.au (.int .i64 0)]) rfl (aT 1) (of_decide_eq_true rfl) rfl)
  (ah (oq Ns rfl ay.step ay.size rfl (qp (by intro j hj; simp at hj; (repeat' (first | (rcases hj with rfl | hj))) <;> first | (subst hj; exact ⟨_, _, _, rfl⟩) | exact ⟨_, _, _, rfl⟩)))
  Rg.bf))))) ?_
 intro v1 V1 hG1 hv1 hne1
 simp only [Rg.puts, Act.put, tA]
 have e3 : v1 3 = .int .i64 0 := hv1 3 de
 obtain ⟨bns, e4, hge4, hz4⟩ := (show nk 44 zU w.heap.size V1 (v1 4) from hv1 4 de)
 simp only [e3, e4]
 have hO := hG1.1
 replace hO := Own.add (aa HO) hG1.2 hge4 hz4
 clear hge4 hz4
 refine jq hO 0 [] zU [.k (eK Gh), iv 1000, iv 1] [] rfl zo rfl (show ax [.k (eK Gh), iv 1000, iv 1] V1 (v1 2) from hv1 2 de) rfl rfl rfl ?_
 intro za gm hk0
 replace hO := gm
 clear gm
 clear HO
 have HO := hide hO
 clear hO hG1 hv1 hne1 hk0
 try clear e3 e4
 go_upto_region 2 with fail
 refine Rg.dh 5 26 (Rg.pick [kz [ax [.k (eK z7), iv 0, iv 0], Rg.au (.int .i64 4)], kz [ax [.k (eK z7), iv 0, iv 0], Rg.au (.int .i64 4)], ax [.k (eK z7), iv 0, iv 0], Rg.au (.int .i64 4), nk 44 zU za.heap.size]) (ay w _ za) eu [4] kr rfl (Rg.dw.pick ⟨jf ⟨(az _), (Rg.ae _), trivial⟩, jf ⟨(az _), (Rg.ae _), trivial⟩, az _, Rg.ae _, ny _ _ _, trivial⟩) (ay.begin (aa HO))
  (ah (sc1 Tryz.func50 (Rg.iy _) (fun W v0 hG h0 => by cases h0; exact apz W))
  (ah (di rfl (aT 0))
  (ah (ky (ts := [ax [.k (eK z7), iv 0, iv 0], Rg.au (.int .i64 4)]) rfl (aT 1) (of_decide_eq_true rfl) rfl)
  (ah (ky (ts := [ax [.k (eK z7), iv 0, iv 0], Rg.au (.int .i64 4)]) rfl (aT 1) (of_decide_eq_true rfl) rfl)
  (ah (oq Ns rfl ay.step ay.size rfl (qp (by intro j hj; simp at hj; (repeat' (first | (rcases hj with rfl | hj))) <;> first | (subst hj; exact ⟨_, _, _, rfl⟩) | exact ⟨_, _, _, rfl⟩)))
  Rg.bf))))) ?_
 intro v2 V2 hG2 hv2 hne2
 simp only [Rg.puts, Act.put, tA]
 have e3 : v2 3 = .int .i64 4 := hv2 3 de
 obtain ⟨bug, e4, hge4, hz4⟩ := (show nk 44 zU za.heap.size V2 (v2 4) from hv2 4 de)
 simp only [e3, e4]
 have hO := hG2.1
 replace hO := Own.add (aa HO) hG2.2 hge4 hz4
 clear hge4 hz4
 refine jq hO 0 [] zU [.k (eK z7), iv 0, iv 0] [] rfl zo rfl (show ax [.k (eK z7), iv 0, iv 0] V2 (v2 2) from hv2 2 de) rfl rfl rfl ?_
 intro Et gm hk0
 replace hO := gm
 clear gm
 clear HO
 have HO := hide hO
 clear hO hG2 hv2 hne2 hk0
 try clear e3 e4
 go_upto_region 3 with fail
 refine Rg.dh 14 26 (Rg.pick [ax [.k (eK Gh), iv 1000, iv 1], ax [.k (eK Gh)], ax [iv 1000, iv 1], ax [.k (eK Gh), iv 1000, iv 1], Rg.au (.bool true), Rg.au (.bool true), Rg.au (.int .i64 0), Rg.au (.bool true), Rg.au (.bool true), Rg.au (.bool true), Rg.au (.int .i64 4), Rg.au (.bool true), Rg.au (.bool true), Rg.au (.bool true)]) (ay w _ Et) eu [] kr rfl (Rg.dw.pick ⟨az _, az _, az _, az _, Rg.ae _, Rg.ae _, Rg.ae _, Rg.ae _, Rg.ae _, Rg.ae _, Rg.ae _, Rg.ae _, Rg.ae _, Rg.ae _, trivial⟩) (ay.begin (aa HO))
  (ah (ic wy qg aF [] [.k (eK Gh), iv 1000, iv 1] [])
  (ah (bma rfl rfl)
  (ah (aei rfl (Rg.iy _) (Rg.iy _) rfl)
  (ah (Hf ajz rfl (aT 1) (aT 2) rfl rfl rfl)
  (ah (azm rfl (aT 0) (aT 3) rfl)
  (ah (di rfl (aT 4))
  (Rg.df (Rg.fu (d := 18) rfl kr rfl (di rfl aF))
  (Rg.df (Rg.fu (d := 18) rfl kr rfl (aeg rfl (aT 6) (Rg.iy _) rfl (beq_self_eq_true _)))
  (ah (vg rfl (aT 5) (aT 7))
  (ah (di rfl (aT 8))
  (Rg.df (Rg.fu (d := 22) rfl kr rfl (di rfl aF))
  (Rg.df (Rg.fu (d := 22) rfl kr rfl (aeg rfl (aT 10) (Rg.iy _) rfl (beq_self_eq_true _)))
  (ah (vg rfl (aT 9) (aT 11))
  (ah (jk rfl (aT 12))
  Rg.bf)))))))))))))) ?_
 intro v3 V3 hG3 hv3 ma
 simp only [Rg.puts, Act.put, tA]
 have e12 : v3 12 = .bool true := hv3 12 de
 have e13 : v3 13 = .bool true := hv3 13 de
 simp only [e12, e13]
 have hO := hG3.1
 clear HO
 have HO := hide hO
 clear hO hG3 hv3 ma
 try clear e12 e13
 go_wp2_with fail
 exact xw Tryz.results43 rfl (aa HO).bel rfl
end Sb


namespace Sb
theorem bcz (s : ByteArray) (m : Nat) (c : UInt8) (p : Int) (hm : 0 < m) (hlm : m < s.size) (hs : s.size = m + 1) (hl : ∀ j (h : j < s.size), j < m → Ji (s[j].toNat : Int) = true) (hc : s[m] = c) (hcl : Ji (c.toNat : Int) = false) (h1 : 49 ≤ c.toNat) (h2 : c.toNat ≤ 57) (hp : p = (c.toNat : Int) - 48) (hz : s.size ≤ 1000000) (w : World) :
  Calls Tryz.prog 209 #[.string s] w (ib (Xw (s.extract 0 m) p true) w) := by
 have HL := hide (fun W b => Yo b W)
 have HH := hide hl
 obtain ⟨r, hr⟩ : ∃ r, r = s.extract m s.size := ⟨_, rfl⟩
 have hrs : r.size = 1 := by rw [hr, ByteArray.size_extract]; omega
 have hr0 : r[0]'(by omega) = c := by
  rw [← hc]
  subst hr
  rw [ByteArray.getElem_extract]
  simp only [Nat.add_zero]
 have hcp := (fun W => ajv r (by
  have h3 : r.data.toList.head? = some (r[0]'(by omega)) := by
   have h1 : 0 < r.data.toList.length := by rw [ry]; omega
   rw [List.head?_eq_getElem?, List.getElem?_eq_getElem h1]; rfl
  rw [h3, hr0]
  intro h
  have h4 : c = 45 := Option.some.inj h
  rw [h4] at h1
  exact absurd h1 de) W)
 have HC : Hid (∀ W, Calls Tryz.prog 85 #[.string (s.extract m s.size), .string ⟨#[45]⟩] W fun e w' => e = .returned (.tuple #[.string r, .bool false]) ∧ w' = W) := hide (fun W => by rw [← hr]; exact hcp W)
 clear hl hcp
 have HZ := hide (And.intro hs hz)
 have z0 : ((m : Int) == 0) = false := beq_eq_false_iff_ne.2 om
 have z1 : ((m : Int) == (s.size : Int)) = false := beq_eq_false_iff_ne.2 om
 have hms : m ≤ s.size := by omega
 have hd : Ji (s[m].toNat : Int) = false := by rw [hc]; exact hcl
 clear hs hz hc hcl
 go_enter Tryz.func209, Tryz.ntmps209
 go_wp2_with fail
 go_loop [4] (fun i => ∃ k : Nat, k ≤ m ∧ i = .int .i64 k) (fun i => m - (intOf i).toNat)
 case atStart => exact ⟨0, Nat.zero_le _, rfl⟩
 case round =>
  obtain ⟨k, hk, rfl⟩ := hrel
  by_cases g : k < m
  ·
   have hlt : k < s.size := by omega
   have e1 := (aa HH) k hlt g
   have HG := hide g
   have hz2 := (aa HZ).2
   clear hd hr0 hp h1 h2
   go_wp2_with (go_at_call 235; refine ((aa HL) _ _).mono ?_; rintro e w' ⟨rfl, rfl⟩; rw [e1])
   go_round
   case rel => exact ⟨k + 1, by have := aa HG; omega, by go_num⟩
   case measure => have := aa HG; simp [intOf]; omega
  ·
   obtain rfl : k = m := by omega
   go_wp2_with (go_at_call 235; refine ((aa HL) _ _).mono ?_; rintro e w' ⟨rfl, rfl⟩; rw [hd])
   refine ((aa HC) _).mono ?_
   rintro e w' ⟨rfl, rfl⟩
   dsimp only
   have hq : ((r.size : Int) != 1) = false := by rw [hrs]; rfl
   have hr1 : 0 < r.size := by omega
   have hr9 : r[0]'hr1 = c := hr0
   rw [← hr9] at h1 h2 hp
   have e4 : decide ((r[0].toNat : Int) < 49) = false := decide_eq_false om
   have e5 : decide ((57 : Int) < (r[0].toNat : Int)) = false := decide_eq_false om
   have e6 : IntKind.u8.wrap ((r[0].toNat : Int) - 48) = p := by rw [hp]; exact wrap_u8 om om
   have e7 : IntKind.i64.wrap p = p := IntWalk.i64_in _ om
   have e8 : wrap64 p = p := IntWalk.wrap64_in _ om
   clear h1 h2 hp hr9 hr0 hrs hr hd
   go_wp2_with fail
   exact bodyPost_ret (v := .tuple #[.agg #[.string (s.extract 0 k), .int .i64 p], .bool true]) (by simp [results, Tryz.results209, go_sem]) rfl ⟨_, rfl, gy (Below.refl _ _) _, aju⟩
end Sb
end Go.Proofs.YtfgeaakhlcaibaaGreatDoor
namespace Go.Proofs.YtfgeaakhlcaibaaGreatDoor
namespace Wd
open Go.Lib

theorem Vj {k : Nat} (h : k < 10) : (UInt8.ofNat (48 + k)).toNat = 48 + k := by
 rw [UInt8.toNat_ofNat']; omega
theorem Zg (u : Nat) : uy (decDigits u) = u := by
 induction u using Nat.strongRecOn with
 | _ u ih =>
  by_cases h : u < 10
  ·
   rw [decDigits_one h]
   show 0 * 10 + ((UInt8.ofNat (48 + u)).toNat - 48) = u
   rw [Vj h]; omega
  ·
   rw [decDigits, dif_neg h, Sn, ih (u / 10) om, Vj om]; omega
theorem afm {k : Nat} (h : k < 10) : Ac (UInt8.ofNat (48 + k)) = true := by
 unfold Ac
 rw [Vj h, decide_eq_true (show 48 ≤ ((48 + k : Nat) : Int) by omega), decide_eq_true (show ((48 + k : Nat) : Int) ≤ 57 by omega)]; rfl
theorem aqz (u : Nat) : (decDigits u).all Ac = true := by
 induction u using Nat.strongRecOn with
 | _ u ih =>
  by_cases h : u < 10
  ·
   rw [decDigits_one h, List.all_cons, afm h]; rfl
  ·
   rw [decDigits, dif_neg h, List.all_append, ih (u / 10) om, List.all_cons, afm om]; rfl
theorem aqy : ∀ (k u : Nat), 1 ≤ k → u < 10 ^ k → (decDigits u).length ≤ k
 | 0, _, h, _ => absurd h om
 | k + 1, u, _, h => by
  by_cases h1 : u < 10
  ·
   rw [decDigits_one h1]; simp
  ·
   rw [decDigits, dif_neg h1, List.length_append]
   rcases Nat.eq_zero_or_pos k with rfl | hk
   ·
    rw [Nat.zero_add, Nat.pow_one] at h; omega
   ·
    have := aqy k (u / 10) hk (by rw [Nat.pow_succ] at h; omega)
    simp only [List.length_cons, List.length_nil]; omega
theorem agy (u : Nat) : 1 ≤ (decDigits u).length := by
 by_cases h : u < 10
 ·
  rw [decDigits_one h]; simp
 ·
  rw [decDigits, dif_neg h, List.length_append]; simp
theorem baz (u : Nat) (h0 : 1 ≤ u) : (decDigits u).head? ≠ some 48 := by
 induction u using Nat.strongRecOn with
 | _ u ih =>
  by_cases h : u < 10
  ·
   rw [decDigits_one h]
   intro e
   have e2 : UInt8.ofNat (48 + u) = 48 := Option.some.inj e
   have e3 := Vj h
   rw [e2] at e3
   have : (48 : UInt8).toNat = 48 := rfl
   omega
  ·
   rw [decDigits, dif_neg h]
   have h1 := agy (u / 10)
   have h2 := ih (u / 10) om om
   cases hl : decDigits (u / 10) with
   | nil => rw [hl] at h1; exact absurd h1 de
   | cons c l => rw [hl] at h2; exact h2
theorem agz {u : Nat} (h : u ≤ 1000000000000) : Bt (decDigits u) = true := by
 refine zx.2 ⟨wh.2 ⟨agy u, ?_, aqz u⟩, ?_⟩
 ·
  have := aqy 20 u om (Nat.lt_of_le_of_lt h de); omega
 ·
  rcases Nat.eq_zero_or_pos u with rfl | h0
  ·
   exact .inl (by rw [decDigits_one om]; rfl)
  ·
   exact .inr (baz u h0)
theorem Zh (u : Nat) {c : UInt8} (hc : c.toNat < 48) : c ∉ decDigits u := fun h => by
 have := adf (aqz u) h; omega
theorem bfr {u : Nat} (h : 1 ≤ u) : ¬ decDigits u = [48] := fun e => by
 have h1 := Zg u
 rw [e] at h1
 have : uy [48] = 0 := rfl
 omega
def Wt (n d : Int) : List UInt8 := if d = 1 then itoa n else itoa n ++ 47 :: itoa d
theorem aqg {d : Int} (h : 0 ≤ d) : itoa d = decDigits d.natAbs := by
 unfold itoa; rw [if_neg om, show d.toNat = d.natAbs by omega]
theorem bah (u d : Nat) (hu : u ≤ 1000000000000) (hd : d ≤ 1000000000000) (h1 : 1 ≤ d) :
  Ar (if d = 1 then decDigits u else decDigits u ++ 47 :: decDigits d) = some (Rat.divInt u d) := by
 by_cases h : d = 1
 ·
  rw [if_pos h, Qq (Zh u de) (Zh u de), if_pos (agz hu), Zg, h]; rfl
 ·
  rw [if_neg h, Ij rfl (Zh u de), agz hu, agz hd, beq_eq_false_iff_ne.2 (bfr h1), Zg, Zg]; rfl
theorem apu {n d : Int} (ok : oo n d) : Td (Wt n d) = ⟨n, d, 0⟩ := by
 obtain ⟨h1, h2, h3, h4, _⟩ := id ok
 have hp := bah n.natAbs d.natAbs om om om
 rw [show ((d.natAbs : Nat) : Int) = d by omega] at hp
 have hdd : (if d.natAbs = 1 then decDigits n.natAbs else decDigits n.natAbs ++ 47 :: decDigits d.natAbs) = (if d = 1 then decDigits n.natAbs else decDigits n.natAbs ++ 47 :: itoa d) := by
  rw [aqg om]
  by_cases h : d = 1
  ·
   rw [if_pos h, if_pos om]
  ·
   rw [if_neg h, if_neg om]
 rw [hdd] at hp
 unfold Td
 by_cases hn : n < 0
 ·
  have e : Wt n d = 45 :: (if d = 1 then decDigits n.natAbs else decDigits n.natAbs ++ 47 :: itoa d) := by
   unfold Wt
   have e1 : itoa n = 45 :: decDigits n.natAbs := by unfold itoa; rw [if_pos hn]
   rw [e1]
   by_cases h : d = 1
   ·
    rw [if_pos h, if_pos h]
   ·
    rw [if_neg h, if_neg h]; rfl
  rw [e, List.head?_cons, if_pos rfl, List.tail_cons, hp]
  have hq : -Rat.divInt (n.natAbs : Int) d = qR n d := by unfold qR; rw [Rat.neg_divInt, show -(n.natAbs : Int) = n by omega]
  have h0 : ¬ Rat.divInt (n.natAbs : Int) d = 0 := fun hz => by
   rw [hz] at hq
   have := (baf ok).1 (by rw [← hq]; rfl)
   omega
  dsimp only
  rw [if_neg h0, hq, Qc ok]
 ·
  have e : Wt n d = (if d = 1 then decDigits n.natAbs else decDigits n.natAbs ++ 47 :: itoa d) := by
   unfold Wt
   rw [aqg (d := n) om]
  have hh : ¬ (Wt n d).head? = some 45 := by
   have hdp := agy n.natAbs
   have hno : (45 : UInt8) ∉ decDigits n.natAbs := Zh _ de
   rw [e]
   cases hl : decDigits n.natAbs with
   | nil => rw [hl] at hdp; exact absurd hdp de
   | cons c l =>
    rw [hl] at hno
    have hc : ¬ c = 45 := fun e => hno (by rw [e]; exact List.mem_cons_self)
    split
    ·
     intro h; exact hc (Option.some.inj h)
    ·
     intro h; exact hc (Option.some.inj h)
  rw [if_neg hh, e, hp]
  dsimp only
  rw [show ((n.natAbs : Nat) : Int) = n by omega]
  exact Qc ok
end Wd
end Go.Proofs.YtfgeaakhlcaibaaGreatDoor
namespace Go.Proofs.YtfgeaakhlcaibaaGreatDoor
open Go.RowKit

namespace Sb
theorem bba {s a b : ByteArray} {c : UInt8} (h : s.data.toList = a.data.toList ++ c :: b.data.toList) (hn : c ∉ a.data.toList) (hs : s.size ≤ 1000) (W : World) :
  Calls Tryz.prog 155 #[.string s, .string ⟨#[c]⟩] W fun e w' => e = .returned (.tuple #[.string a, .string b, .bool true]) ∧ Below W.heap.size W w' := by
 refine (Nk s ⟨#[c]⟩ c rfl W om).mono ?_
 rintro e w' ⟨x, y, f, rfl, hb, ⟨rfl, h1, h2⟩ | ⟨rfl, rfl, h1, h2⟩⟩
 ·
  have e1 := Wd.Km c _ y.data.toList h2
  rw [← h1, h, Wd.Km c _ _ hn] at e1
  simp only [Option.some.injEq, Prod.mk.injEq] at e1
  obtain rfl : a = x := by rw [← Zf a, e1.1, Zf]
  obtain rfl : b = y := by rw [← Zf b, e1.2, Zf]
  exact ⟨rfl, hb⟩
 ·
  exact absurd (by rw [h]; exact List.mem_append_right _ List.mem_cons_self) h2
theorem ast {s : ByteArray} (hn : (32 : UInt8) ∉ s.data.toList) (hs : s.size ≤ 600) (w : World) :
  Calls Tryz.prog 114 #[.string s] w (ib (kz [Rg.au (.string ⟨#[49]⟩), Rg.au (.string s)]) w) := by
 have HC := hide (fun W => Nk s ⟨#[32]⟩ 32 rfl W om)
 have HN := hide hn
 clear hn hs
 go_enter Tryz.func114, Tryz.ntmps114
 go_wp2_with fail
 refine ((aa HC) _).mono ?_
 rintro e W1 ⟨x, y, f, rfl, hb, ⟨_, h, _⟩ | ⟨rfl, rfl, h1, h2⟩⟩
 ·
  exact absurd (by rw [h]; exact List.mem_append_right _ List.mem_cons_self) (aa HN)
 clear h1 h2
 dsimp only
 go_wp2_with fail
 go_ret2
 exact ⟨_, rfl, hb, [_, _], rfl, _, _, rfl, rfl, _, _, rfl, rfl, rfl⟩
theorem Ik : Wd.oo 1 1 := by unfold Wd.oo; decide
theorem Mh : Wd.oo 1000 1 := by unfold Wd.oo; decide
theorem alg (w : World) (hT : qm w) : Calls Tryz.prog 24 #[.string ⟨#[49]⟩] w (ib (kz [ax [iv 1, iv 1], Rg.au (.int .i64 0)]) w) := by
 have e1 := Wd.apu (n := 1) (d := 1) Ik
 rw [show Wd.Wt 1 1 = [49] by kernel_rfl] at e1
 refine (apv ⟨#[49]⟩ w hT de).mono ?_
 rintro e w' ⟨rfl, hb⟩
 rw [show (⟨#[49]⟩ : ByteArray).data.toList = [49] from rfl, e1]
 exact ⟨_, rfl, hb, [_, _], rfl, _, _, rfl, Ba _ _ _, _, _, rfl, rfl, rfl⟩
theorem Ug {p q : Nat → Int} (h : ([0, 1, 2, 3, 4, 5, 6].all fun j => p j == q j) = true) : ∀ j, j < 7 → p j = q j := fun j hj => by
 have := List.all_eq_true.1 h j (by
  have hc : j = 0 ∨ j = 1 ∨ j = 2 ∨ j = 3 ∨ j = 4 ∨ j = 5 ∨ j = 6 := by omega
  rcases hc with rfl | rfl | rfl | rfl | rfl | rfl | rfl <;> decide)
 exact eq_of_beq this
theorem bdd {F : Nat} {vs : Array Value} {W : World} {f : Nat → Int} {a b : Rat} {v : Value} (e : a = b) (h : Calls Tryz.prog F vs W (ib (kz [ax [.k (eK f), .q a], Rg.au v]) W)) : Calls Tryz.prog F vs W (ib (kz [ax [.k (eK f), .q b], Rg.au v]) W) := e ▸ h
theorem aah {F : Nat} {vs : Array Value} {W : World} {a b : Rat} (e : a = b) (h : Calls Tryz.prog F vs W (ib (ax [.q a]) W)) : Calls Tryz.prog F vs W (ib (ax [.q b]) W) := e ▸ h
theorem adx {w : World} {g k : Nat} {nm : ByteArray} {p : Int} {f u q f' : Nat → Int} {n d n' d' a b a' b' : Int} (hat : Lt w g k nm p)
  (hfind : ∀ W r, qm W → ze W r Df → Calls Tryz.prog 121 #[.map (some r), .string nm] W (ib (kz [ax [.k (eK u), .q (Wd.qR n d)], Rg.au (.bool true)]) W))
  (okx : Wd.oo a b) (oky : Wd.oo n d) (okz : Wd.oo n' d') (hp : -((9 : Nat) : Int) ≤ p ∧ p ≤ (9 : Nat)) (hq : ∀ j, j < 7 → wrap64 (u j * p) = q j) (Ub : (Wd.qR n d).num ≠ 0) (hz : xk (Wd.qR n d) p = Wd.qR n' d')
  (hf : ∀ j, j < 7 → wrap64 (f j + q j) = f' j) (hx : Wd.qR a b * Wd.qR n' d' = Wd.qR a' b') : Vl w g k nm p f (Wd.qR a b) f' (Wd.qR a' b') :=
 ⟨u, Wd.qR n d, q, Wd.qR n' d', hat, hfind, fun W v0 hT h0 => abh W v0 h0 hq (fun W' v0' hb h => aah hz (ahf (K := 1) (b := 9) (Dg oky) Ub hp om om W' _ h)),
  fun W v0 v1 hT h0 h1 => Nj W v0 h0 v1 h1 hf (fun W' x y hb g0 g1 => aah hx (Rm (hT.below hb) (Dg okx) (Dg okz) g0 g1))⟩
theorem bia : Wd.qR 1 1 * Wd.qR 1 1 = Wd.qR 1 1 := by kernel_rfl
theorem axg : Wd.qR 1 1 * Wd.qR 1000 1 = Wd.qR 1000 1 := by kernel_rfl
theorem alv : Wd.qR 1000 1 * Wd.qR 1 1 = Wd.qR 1000 1 := by kernel_rfl
theorem bhs : xk (Wd.qR 1000 1) 1 = Wd.qR 1000 1 := by kernel_rfl
theorem bhu : xk (Wd.qR 1 1) 1 = Wd.qR 1 1 := by kernel_rfl
theorem bht : xk (Wd.qR 1 1) (-2) = Wd.qR 1 1 := by kernel_rfl
theorem bdi : (Wd.qR 1 1).num ≠ 0 := by decide
theorem bme : (Wd.qR 1000 1).num ≠ 0 := by decide
def kF (k : Nat) : Nat → Int := if k = 0 then z7 else if k = 1 then (fun j => if j = 0 then 1 else if j = 1 then 1 else if j = 2 then -2 else 0) else if k = 2 then (fun j => if j = 0 then 2 else if j = 1 then 1 else if j = 2 then -2 else 0) else Gh
def kX (k : Nat) : Rat := if k = 0 then Wd.qR 1 1 else Wd.qR 1000 1
def kN' : Nat → Int := fun j => if j = 0 then 1 else if j = 1 then 1 else if j = 2 then -2 else 0
def km' : Nat → Int := fun j => if j = 0 then 1 else 0
def ks' : Nat → Int := fun j => if j = 2 then 1 else 0
def ks2 : Nat → Int := fun j => if j = 2 then -2 else 0
def kFs : List (ByteArray × Int) := [(⟨#[107, 78]⟩, 1), (⟨#[109]⟩, 1), (⟨#[115]⟩, -2)]
theorem bax (W : World) (r : Nat) (hT : qm W) (hm : ze W r Df) : Calls Tryz.prog 121 #[.map (some r), .string ⟨#[107, 78]⟩] W (ib (kz [ax [.k (eK kN'), .q (Wd.qR 1000 1)], Rg.au (.bool true)]) W) :=
 bdd alv (avd (b := 107) (ls := [78]) (f := kN') (n := 1) (d := 1) (p := 1000) (q := 1) W hm rfl kr kr kr kr hT Mh Ik (Ug (p := fun j => wrap64 (z7 j + kN' j)) kr))
theorem bfn (W : World) (r : Nat) (hm : ze W r Df) : Calls Tryz.prog 121 #[.map (some r), .string ⟨#[109]⟩] W (ib (kz [ax [.k (eK km'), .q (Wd.qR 1 1)], Rg.au (.bool true)]) W) :=
 agn (f := km') (n := 1) (d := 1) W hm kr Ik
theorem bfm (W : World) (r : Nat) (hm : ze W r Df) : Calls Tryz.prog 121 #[.map (some r), .string ⟨#[115]⟩] W (ib (kz [ax [.k (eK ks'), .q (Wd.qR 1 1)], Rg.au (.bool true)]) W) :=
 agn (f := ks') (n := 1) (d := 1) W hm kr Ik
theorem als (W : World) (g c : Nat) (hT : qm W) (hf : Px W g kFs) :
  Calls Tryz.prog 117 #[.slice (some ⟨g, 0, none⟩) kFs.length c] W (ib (kz [ax [.k (eK Gh), .q (Wd.qR 1000 1)], Rg.au (.bool true)]) W) := by
 refine aqa (F := kF) (X := kX) (n := 3) W hT om rfl rfl Ik (fun k hk => ?_)
 have hc : k = 0 ∨ k = 1 ∨ k = 2 := by omega
 rcases hc with rfl | rfl | rfl
 ·
  exact ⟨_, _, adx (hf 0 _ rfl) bax Ik Mh Mh de (q := kN') (Ug (p := fun j => wrap64 (kN' j * 1)) kr) bme bhs (Ug (p := fun j => wrap64 (kF 0 j + kN' j)) (q := kF 1) kr) axg⟩
 ·
  exact ⟨_, _, adx (hf 1 _ rfl) (fun W r _ hm => bfn W r hm) Mh Ik Ik de (q := km') (Ug (p := fun j => wrap64 (km' j * 1)) kr) bdi bhu (Ug (p := fun j => wrap64 (kF 1 j + km' j)) (q := kF 2) kr) alv⟩
 ·
  exact ⟨_, _, adx (hf 2 _ rfl) (fun W r _ hm => bfm W r hm) Mh Ik Ik de (q := ks2) (Ug (p := fun j => wrap64 (ks' j * (-2))) kr) bdi bht (Ug (p := fun j => wrap64 (kF 2 j + ks2 j)) (q := kF 3) kr) alv⟩
abbrev tkN : ByteArray := ⟨#[107, 78]⟩
abbrev tm : ByteArray := ⟨#[109]⟩
abbrev ts : ByteArray := ⟨#[115]⟩
abbrev ts2 : ByteArray := ⟨#[115, 50]⟩
abbrev bcf : ByteArray := ⟨#[107, 78, 46, 109]⟩
abbrev akt : ByteArray := ⟨#[107, 78, 46, 109, 47, 115, 50]⟩
def l1k : List (ByteArray × Int) := [(tkN, 1), (tm, 1)]
theorem bcy (k : Nat) (p : ByteArray) (f : ByteArray × Int) (hp : [tkN, tm][k]? = some p) (hf : l1k[k]? = some f) (W : World) : Calls Tryz.prog 209 #[.string p] W (ib (Xw f.1 f.2 true) W) := by
 match k, hp, hf with
 | 0, hp, hf =>
  cases hp
  cases hf
  exact ajf tkN (fun j h => by
   have hc : j = 0 ∨ j = 1 := by
    have h2 : j < 2 := h
    omega
   rcases hc with rfl | rfl <;> rfl) de de W
 | 1, hp, hf =>
  cases hp
  cases hf
  exact ajf tm (fun j h => by
   have hc : j = 0 := by
    have h2 : j < 1 := h
    omega
   subst hc
   rfl) de de W
 | k + 2, hp, _ => cases hp
theorem bii : ts2.extract 0 1 = ts := by kernel_rfl
theorem bda (k : Nat) (p : ByteArray) (f : ByteArray × Int) (hp : [ts2][k]? = some p) (hf : [(ts, (2 : Int))][k]? = some f) (W : World) : Calls Tryz.prog 209 #[.string p] W (ib (Xw f.1 f.2 true) W) := by
 match k, hp, hf with
 | 0, hp, hf =>
  cases hp
  cases hf
  have h := bcz ts2 1 50 2 de de rfl (fun j h hj => by
   have hc : j = 0 := by omega
   subst hc
   rfl) rfl rfl de de de de W
  rw [bii] at h
  exact h
 | k + 1, hp, _ => cases hp
theorem alk (w : World) : Calls Tryz.prog 115 #[.string akt] w (ib (kz [Kw kFs, Rg.au (.bool true)]) w) := by
 refine bae akt bcf ts2 l1k kFs w (fun W => bba (c := 47) rfl de de W) kr (fun w0 W v hf hb => ?_) (fun w0 W v hf hb => ?_) (by simp [kFs])
 ·
  have h := ajh bcf [tkN, tm] l1k [] 1 v w0 W kr de rfl de bcy hf hb
  rw [show [] ++ l1k.map (fun (f : ByteArray × Int) => (f.1, wrap64 (f.2 * 1))) = l1k by kernel_rfl] at h
  exact h
 ·
  have h := ajh ts2 [ts2] [(ts, 2)] l1k (-1) v w0 W kr de rfl de bda hf hb
  rw [show l1k ++ [(ts, (2 : Int))].map (fun (f : ByteArray × Int) => (f.1, wrap64 (f.2 * (-1)))) = kFs by kernel_rfl] at h
  exact h
theorem bih : Ad Gh := fun j hj => by
 have hc : j = 0 ∨ j = 1 ∨ j = 2 ∨ j = 3 ∨ j = 4 ∨ j = 5 ∨ j = 6 := by omega
 rcases hc with rfl | rfl | rfl | rfl | rfl | rfl | rfl <;> decide
theorem bci : ni Gh (Wd.qR 1000 1) = ⟨Gh, 1000, 1, 0⟩ := by
 unfold ni
 rw [if_pos bih, Wd.Qc Mh]
 rfl
theorem aii (w : World) (hT : qm w) : Calls Tryz.prog 49 #[.string akt] w (ib (Zo ⟨Gh, 1000, 1, 0⟩) w) := by
 rw [← bci]
 exact Lh (a := ⟨#[49]⟩) (b := akt) (n := 1) (d := 1) (fs := kFs) (F := Gh) (X := Wd.qR 1000 1) w hT de Ik de (fun W => ast de de W) (fun W h => alg W h) alk (fun W g c h hf => als W g c h hf)
  (fun W v0 v1 h h0 h1 => Nj W v0 h0 v1 h1 (Ug (p := fun j => wrap64 (z7 j + Gh j)) kr) (fun W' x y hb g0 g1 => aah axg (Rm (h.below hb) (Dg Ik) (Dg Mh) g0 g1)))
theorem Kh (w : World) (hT : qm w) : Calls Tryz.prog 43 #[] w (ib (Rg.au (.bool true)) w) := aly w hT fun W h => aii W h
end Sb

def gi (l : List Int) (i : Nat) : Int := l.getD i 0
def Zs (w : World) (B : Nat) (A : Option Addr) (l : List Int) : Prop := 0 < l.length → ∃ b off, A = some ⟨b, off, none⟩ ∧ b < B ∧ ∀ j, j < l.length → w.cell? ⟨b, off + j, none⟩ = some (.int .i64 (gi l j))
theorem Zs.below {w w' : World} {A : Option Addr} {l : List Int} (h : Zs w w.heap.size A l) (hb : Below w.heap.size w w') : Zs w' w'.heap.size A l := fun hl => by
 obtain ⟨b, off, rfl, h1, h2⟩ := h hl
 exact ⟨b, off, rfl, Nat.lt_of_lt_of_le h1 hb.size, fun j hj => (hb.cell (p := ⟨b, off + j, none⟩) h1).trans (h2 j hj)⟩




def rn (l : List (Int × Int)) (i : Nat) : Int := (l.getD i (0, 0)).1
def rd (l : List (Int × Int)) (i : Nat) : Int := (l.getD i (0, 0)).2
def Rs (w : World) (B : Nat) (A : Option Addr) (l : List (Int × Int)) : Prop := 0 < l.length → ∃ b off, A = some ⟨b, off, none⟩ ∧ b < B ∧ ∀ j, j < l.length → w.cell? ⟨b, off + j * 2, none⟩ = some (.int .i64 (rn l j)) ∧ w.cell? ⟨b, off + j * 2 + 1, none⟩ = some (.int .i64 (rd l j))
theorem Rs.below {w w' : World} {A : Option Addr} {l : List (Int × Int)} {B : Nat} (h : Rs w B A l) (hb : Below B w w') : Rs w' B A l := fun hl => by
 obtain ⟨b, off, rfl, h1, h2⟩ := h hl
 exact ⟨b, off, rfl, h1, fun j hj => ⟨(hb.cell (p := ⟨b, off + j * 2, none⟩) h1).trans (h2 j hj).1, (hb.cell (p := ⟨b, off + j * 2 + 1, none⟩) h1).trans (h2 j hj).2⟩⟩
theorem Rs.up {w : World} {A : Option Addr} {l : List (Int × Int)} {B C : Nat} (h : Rs w B A l) (hb : B ≤ C) : Rs w C A l := fun hl => by
 obtain ⟨b, off, rfl, h1, h2⟩ := h hl
 exact ⟨b, off, rfl, Nat.lt_of_lt_of_le h1 hb, h2⟩
def Uj (l : List (Int × Int)) : Prop := ∀ i, i < l.length → Wd.oo (rn l i) (rd l i)
noncomputable instance (l : List (Int × Int)) : Decidable (Uj l) := Classical.propDecidable _

namespace Wd
theorem Ww {B K : Nat} {n d : Int} (hd : d ≠ 0) (hn : Sz B K n) (hdd : Sz B K d) : yx B K (Rat.divInt n d) := by
 obtain ⟨h1, h2⟩ := Io n d hd
 exact ⟨by rw [h1]; exact hn.tdiv _, by rw [h2]; exact hdd.tdiv _⟩
end Wd

theorem aod (A : Option Addr) (cap : Nat) (l : List (Int × Int)) (w : World) (h : Rs w w.heap.size A l) (hc : l.length ≤ cap) (hm : cap ≤ 9223372036854775807) :
  Calls Tryz.prog 111 #[.slice A l.length cap] w fun e w' => e = .returned (.bool (decide (Uj l))) ∧ Below w.heap.size w w' := by
 obtain ⟨r, hr⟩ : ∃ r, r = decide (Uj l) := ⟨_, rfl⟩
 rw [← hr]
 have HR := Lib.hid hr
 clear hr
 by_cases h0 : l.length = 0
 ·
  have hr : r = true := by rw [HR.out]; exact decide_eq_true (fun i hi => by omega)
  subst hr
  rw [h0]
  clear HR h h0 hc
  go_enter Tryz.func111, Tryz.ntmps111
  go_wp2_with fail
  go_loopw [3] (fun iv wr => iv = .int .i64 0 ∧ Below w.heap.size w wr) (fun iv _ => 0)
  case atStart => exact ⟨rfl, Below.refl _ _⟩
  case round =>
   obtain ⟨rfl, hb⟩ := hrel
   go_wp2_with fail
   go_ret
   exact ⟨rfl, hb⟩
 ·
  obtain ⟨b, off, rfl, hbb, hcell⟩ := h om
  have HC := hide hcell
  obtain ⟨m, hmm⟩ : ∃ m, m = l.length := ⟨_, rfl⟩
  have HV := hide (fun i W => aiz (rn l i) (rd l i) W)
  have HM := Lib.hid hmm
  rw [← hmm] at hc h0 ⊢
  clear hcell hmm
  go_enter Tryz.func111, Tryz.ntmps111
  go_wp2_with fail
  go_loopw [3] (fun iv wr => ∃ i : Nat, i ≤ m ∧ iv = .int .i64 ((i : Nat) : Int) ∧ Hid (∀ j, j < i → Wd.oo (rn l j) (rd l j)) ∧ Below w.heap.size w wr) (fun iv _ => m - (intOf iv).toNat)
  case atStart => exact ⟨0, by omega, rfl, fun j hj => by omega, Below.refl _ _⟩
  case round =>
   obtain ⟨i, hi, rfl, hall, hb⟩ := hrel
   by_cases hlt : i < m
   ·
    have d1 : decide ((i : Int) < (m : Int)) = true := decide_eq_true om
    have d2 : decide (i < m) = true := decide_eq_true hlt
    have kc := (aa HC) i (by rw [← HM.out]; exact hlt)
    have k0 := (hb.cell (p := ⟨b, off + i * 2, none⟩) hbb).trans kc.1
    have k1 := (hb.cell (p := ⟨b, off + i * 2 + 1, none⟩) hbb).trans kc.2
    have HVi := hide ((aa HV) i)
    by_cases ok : Wd.oo (rn l i) (rd l i)
    ·
     rw [decide_eq_true ok] at HVi
     have HN : Hid (∀ j, j < i + 1 → Wd.oo (rn l j) (rd l j)) := fun j hj => by
      by_cases hji : j = i
      ·
       subst hji; exact ok
      ·
       exact hall.out j om
     clear ok kc hall
     go_wp2_with fail
     refine ((aa HVi) _).mono ?_
     rintro e w' ⟨rfl, hb2⟩
     have hb3 : Below w.heap.size w w' := bg hb hb2
     go_wp2_with fail
     go_roundw
     case rel => exact ⟨i + 1, by omega, by go_num, HN, hb3⟩
     case measure => simp [intOf] <;> omega
    ·
     rw [decide_eq_false ok] at HVi
     have hr : r = false := by rw [HR.out]; exact decide_eq_false (fun h => ok (h i (by rw [← HM.out]; exact hlt)))
     subst hr
     clear ok kc hall
     go_wp2_with fail
     refine ((aa HVi) _).mono ?_
     rintro e w' ⟨rfl, hb2⟩
     have hb3 : Below w.heap.size w w' := bg hb hb2
     go_wp2_with fail
     go_ret
     exact ⟨rfl, hb3⟩
   ·
    obtain rfl : i = m := by omega
    have hr : r = true := by rw [HR.out]; exact decide_eq_true (fun j hj => hall.out j (by rw [HM.out]; exact hj))
    subst hr
    have d1 : decide ((i : Int) < (i : Int)) = false := decide_eq_false om
    clear hall
    go_wp2_with fail
    go_ret
    exact ⟨rfl, hb⟩

end Go.Proofs.YtfgeaakhlcaibaaGreatDoor
