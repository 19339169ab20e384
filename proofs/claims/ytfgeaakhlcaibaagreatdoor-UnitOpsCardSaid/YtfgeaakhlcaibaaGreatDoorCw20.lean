/- Texts beneath a law of layer 1. -/
import Derived.Test.YtfgeaakhlcaibaaGreatDoorCw19
import Derived.Lib.ItoaNum
import Derived.Test.YtfgeaakhlcaibaaGreatDoorRows
import Derived.ProofKit
import Derived.OpenShut
import Derived.LaidMore
import Derived.Lay
import Derived.Lib.SmallJoins
import Derived.Stop.Joined
import Derived.Lib.LaidTab
import Derived.Stop.LaidErr
set_option maxRecDepth 100000
set_option maxHeartbeats 16000000
namespace Go.Proofs.YtfgeaakhlcaibaaGreatDoor
open Go.RowKit

namespace Sb
theorem bdc : Dj Tryz.prog 181 2 := by
 intro ρ w d x b off us ty pos af gd hl hc hx
 match us, hl with
 | [u0, u1], _ =>
 have k0 : w.cell? ⟨b, off, none⟩ = some u0 := hc 0 om
 have k1 : w.cell? ⟨b, off + 1, none⟩ = some u1 := hc 1 om
 clear hc
 simp only [execOp, hx]
 simp [go_sem, k0, k1]
theorem ayx : zq Tryz.prog 181 2 := by
 intro ρ w d p x b off cs TB us ty pos af gd hl hu hb ho hp hx
 match us, hl with
 | [u0, u1], _ =>
 have o0 := hu u0 (by simp)
 have o1 := hu u1 (by simp)
 have f0 : w.frozen? ⟨b, off, none⟩ = false := ax hb _
 have f1 : w.frozen? ⟨b, off + 1, none⟩ = false := ax hb _
 obtain ⟨c0, k0⟩ : ∃ c, w.cell? ⟨b, off, none⟩ = some c := jf hb om
 obtain ⟨c1, k1⟩ : ∃ c, w.cell? ⟨b, off + 1, none⟩ = some c := jf hb om
 have hlt := lt_of_block hb
 clear hb ho hu
 simp only [execOp, hp, hx, setM]
 simp [go_sem, hlt, run_store _ _ _ _ _ o0, o0, run_store _ _ _ _ _ o1, o1, k0, k1, f0, f1]
theorem bhj : Iw Tryz.prog 181 [.string ⟨#[]⟩, .int .i64 0] := by
 intro ρ w d ty pos af gd
 simp only [execOp]
 simp [go_sem]
theorem bbk : Dn Tryz.prog (fun x => .fieldAddr 181 x 0) 0 := by
 intro a w d x b off ty pos af gd hx
 have hc : ∀ v, a.eval (.const v) = v := fun _ => rfl
 simp only [execOp, hx, hc]
 simp [go_sem]
theorem aou {Q : Exit → Act → World → Prop} {l : List Oper} {n : Nat} {T : Nat → World → Value → Prop} {G : World → Prop} {al : List Nat} {a0 : Act} {k d : Nat} {ty : TypeId} {pos : String} {af : Array Edge} {gd : Option (Nat × Bool)} {b off off' : Nat} {x : Operand} (hal : al.contains k = false) (hx : Rg.iq l n T a0 k x (Rg.ai (.pointer (some ⟨b, off, none⟩)))) (ho : off + 0 = off') (hT : T k = Rg.ai (.pointer (some ⟨b, off', none⟩))) :
  Rg.Step Tryz.prog Q l n T G dm al a0 k { dst := some d, op := .fieldAddr 181 x 0, type := ty, pos := pos, after := af, guard := gd } := by
 exact Ee (P := Tryz.prog) (o := fun x => .fieldAddr 181 x 0) bbk hal hx ho hT
theorem bbj : Dn Tryz.prog (fun x => .fieldAddr 181 x 1) 1 := by
 intro a w d x b off ty pos af gd hx
 have hc : ∀ v, a.eval (.const v) = v := fun _ => rfl
 simp only [execOp, hx, hc]
 simp [go_sem]
theorem aot {Q : Exit → Act → World → Prop} {l : List Oper} {n : Nat} {T : Nat → World → Value → Prop} {G : World → Prop} {al : List Nat} {a0 : Act} {k d : Nat} {ty : TypeId} {pos : String} {af : Array Edge} {gd : Option (Nat × Bool)} {b off off' : Nat} {x : Operand} (hal : al.contains k = false) (hx : Rg.iq l n T a0 k x (Rg.ai (.pointer (some ⟨b, off, none⟩)))) (ho : off + 1 = off') (hT : T k = Rg.ai (.pointer (some ⟨b, off', none⟩))) :
  Rg.Step Tryz.prog Q l n T G dm al a0 k { dst := some d, op := .fieldAddr 181 x 1, type := ty, pos := pos, after := af, guard := gd } := by
 exact Ee (P := Tryz.prog) (o := fun x => .fieldAddr 181 x 1) bbj hal hx ho hT
theorem ali {ρ : Operand → Value} {w : World} {d : Option Tmp} {x y : Operand} {p q : Int} {ty : TypeId} {pos : String} {af : Array Edge} {gd : Option (Nat × Bool)} (h1 : ρ x = .int .i64 p) (h2 : ρ y = .int .i64 q) :
  (execOp ρ { dst := d, op := .build 23 #[(0, x), (1, y)], type := ty, pos := pos, after := af, guard := gd }).run Tryz.prog w = .ok (.value (.agg #[.int .i64 p, .int .i64 q])) w := by
 simp only [execOp]
 simp [go_sem, h1, h2]
 try rfl
theorem aeu {Q : Exit → Act → World → Prop} {l : List Oper} {n : Nat} {T : Nat → World → Value → Prop} {G : World → Prop} {al : List Nat} {a0 : Act} {k d : Nat} {ty : TypeId} {pos : String} {af : Array Edge} {gd : Option (Nat × Bool)} {x y : Operand} {p q : Int} (hal : al.contains k = false) (hx : Rg.iq l n T a0 k x (Rg.ai (.int .i64 p))) (hy : Rg.iq l n T a0 k y (Rg.ai (.int .i64 q))) (hT : T k = au [.v (.int .i64 p), .v (.int .i64 q)]) :
  Rg.Step Tryz.prog Q l n T G dm al a0 k { dst := some d, op := .build 23 #[(0, x), (1, y)], type := ty, pos := pos, after := af, guard := gd } := by
 intro a w hG hO hN
 exact jm (P := Tryz.prog) (ali (hx a w hO hN) (hy a w hO hN)) ⟨_, rfl, hG, Below.refl _ _, by rw [hT]; exact Af _ _ _, fun h => by rw [hal] at h; cases h⟩
abbrev zF : List jq := [.v (.string ⟨#[]⟩), iv 0]
theorem bac : adw Tryz.prog 9 := by
 intro ρ w d x b off u ty pos af gd hc hx
 simp only [execOp, hx]
 simp [go_sem, hc]
theorem bcg {Q : Exit → Act → World → Prop} {l : List Oper} {n : Nat} {T : Nat → World → Value → Prop} {G : World → Prop} {al : List Nat} {a0 : Act} {k d : Nat} {ty : TypeId} {pos : String} {af : Array Edge} {gd : Option (Nat × Bool)} {x : Operand} {A : Option Addr} {m c : Nat} (hal : al.contains k = false) (hx : Rg.iq l n T a0 k x (Rg.ai (.slice A m c))) (hT : T k = Rg.ai (.int .i64 m)) :
  Rg.Step Tryz.prog Q l n T G dm al a0 k { dst := some d, op := .call { callee := .builtin .len, args := #[x], argTypes := #[127] }, type := ty, pos := pos, after := af, guard := gd } := by
 intro a w hG hO hN
 have h : a.eval x = .slice A m c := hx a w hO hN
 have hr : (execOp a.eval { dst := some d, op := .call { callee := .builtin .len, args := #[x], argTypes := #[127] }, type := ty, pos := pos, after := af, guard := gd }).run Tryz.prog w = .ok (.value (.int .i64 m)) w := by
  simp only [execOp, resolve, invoke, h, List.map_toArray, List.map_cons, List.map_nil]
  simp [go_sem, h, Builtin.len_]
 exact jm (P := Tryz.prog) hr ⟨_, rfl, hG, Below.refl _ _, by rw [hT]; rfl, fun h => by rw [hal] at h; cases h⟩
theorem bci {Q : Exit → Act → World → Prop} {l : List Oper} {n : Nat} {T : Nat → World → Value → Prop} {G : World → Prop} {al : List Nat} {a0 : Act} {k d : Nat} {ty : TypeId} {pos : String} {af : Array Edge} {gd : Option (Nat × Bool)} {b i m c : Nat} {x y : Operand} (hal : al.contains k = false) (hx : Rg.iq l n T a0 k x (Rg.ai (.slice (some ⟨b, 0, none⟩) m c))) (hy : Rg.iq l n T a0 k y (Rg.ai (.int .i64 (i : Int)))) (hi : i < m) (hT : T k = Rg.ai (.pointer (some ⟨b, 2 * i, none⟩))) :
  Rg.Step Tryz.prog Q l n T G dm al a0 k { dst := some d, op := .indexAddr 127 x y, type := ty, pos := pos, after := af, guard := gd } := by
 intro a w hG hO hN
 have h1 : a.eval x = .slice (some ⟨b, 0, none⟩) m c := hx a w hO hN
 have h2 : a.eval y = .int .i64 (i : Int) := hy a w hO hN
 have hr : (execOp a.eval { dst := some d, op := .indexAddr 127 x y, type := ty, pos := pos, after := af, guard := gd }).run Tryz.prog w = .ok (.value (.pointer (some ⟨b, 2 * i, none⟩))) w := by
  simp only [execOp, h1, h2]
  simp [go_sem, hi, Nat.mul_comm]
 exact jm (P := Tryz.prog) hr ⟨_, rfl, hG, Below.refl _ _, by rw [hT]; rfl, fun h => by rw [hal] at h; cases h⟩
theorem azc {Q : Exit → Act → World → Prop} {l : List Oper} {n : Nat} {T : Nat → World → Value → Prop} {G : World → Prop} {al : List Nat} {a0 : Act} {k d : Nat} {ty : TypeId} {pos : String} {af : Array Edge} {gd : Option (Nat × Bool)} {b i : Nat} {x : Operand} {nm : ByteArray} {p : Int} (hb : ∀ W, G W → Me W b i nm p) (hal : al.contains k = false) (hx : Rg.iq l n T a0 k x (Rg.ai (.pointer (some ⟨b, 2 * i, none⟩)))) (hT : T k = au [.v (.string nm), iv p]) :
  Rg.Step Tryz.prog Q l n T G dm al a0 k { dst := some d, op := .load 181 x, type := ty, pos := pos, after := af, guard := gd } := by
 intro a w hG hO hN
 obtain ⟨h1, h2⟩ := hb w hG
 have hr := bdc a.eval w (some d) x b (2 * i) [.string nm, .int .i64 p] ty pos af gd rfl (fun j hj => by
  have hc : j = 0 ∨ j = 1 := by omega
  rcases hc with rfl | rfl
  ·
   exact h1
  ·
   exact h2) (hx a w hO hN)
 exact jm (P := Tryz.prog) hr ⟨_, rfl, hG, Below.refl _ _, by rw [hT]; exact ⟨_, rfl, eu.v (afh _) (eu.v (iw _) rfl)⟩, fun h => by rw [hal] at h; cases h⟩
theorem zf.setM {W : World} {r b off : Nat} {T : TypeId} {ls : List jq} {us : List Value} {L : List (ByteArray × Value)} (h : zf W r L) (hb : uo W b T ls) : zf (setM W b off us) r L := by
 obtain ⟨cs, h1, _⟩ := hb
 have hne : some r ≠ some b := fun e => by
  injection e with e
  subst e
  have h2 : W.heap[r]? = _ := h
  rw [h1] at h2
  cases h2
 exact ((ym b us off W W (qz _ _)).block r (lt_of_block h) hne).trans h
theorem aoc {P : Program} {ops : Array Oper} {Q : Exit → Act → World → Prop} {rest : List Oper} {a : Act} {w0 w : World} {TL TB : TypeId} {p x : Operand} {m b off : Nat} {xs ys : List xx} {pre old new post : List jq} {ty : TypeId} {pos : String} {af : Array Edge}
  (hS : zq P TL m) (hp : a.eval p = .pointer (some ⟨b, off, none⟩)) (hv : au new w (a.eval x)) (hO : Own w0 (xs ++ (b, TB, pre ++ (old ++ post)) :: ys) w) (hm : qm new = m) (hl : qm new = qm old) (ho : off = qm pre)
  (hk : ∀ w', Own w0 (xs ++ (b, TB, pre ++ (new ++ post)) :: ys) w' → (∀ ks u, au ks w u → au ks w' u) → (∀ r L, zf w r L → zf w' r L) → wpList P ops Q rest a w') :
  wpList P ops Q ({ dst := none, op := .store TL p x, type := ty, pos := pos, after := af, guard := none } :: rest) a w := by
 obtain ⟨us, e, hu⟩ := hv
 have hbx := hO.box b TB _ (List.mem_append_right _ List.mem_cons_self)
 obtain ⟨hge, cs, hb, hls⟩ := hbx
 have hr := hS a.eval w none p x b off cs TB us ty pos af none (by rw [hu.len, hm]) (fun u h => (hu.noW u h).2.1) hb (by
  have h1 := hls.len
  obtain ⟨c, cd, rfl, k1, k2⟩ := hls.cut
  obtain ⟨o, d, rfl, k3, k4⟩ := k2.cut
  have e1 := k1.len
  have e3 := k3.len
  simp only [List.length_append]
  omega) hp e
 unfold wpList
 rw [if_pos (by simp [Region.wanted])]
 refine .inl ?_
 unfold Oper.wp
 rw [hr]
 exact hk _ (hO.set hu hl ho) (fun ks u h => abp ⟨cs, hb, hls⟩ h) (fun r L h => h.setM ⟨cs, hb, hls⟩)
theorem Tm {P : Program} {ops : Array Oper} {Q : Exit → Act → World → Prop} {rest : List Oper} {a : Act} {w0 w : World} {TL TB : TypeId} {p x : Operand} {m b off : Nat} {bs : List xx} {ty : TypeId} {pos : String} {af : Array Edge} (hO : Own w0 bs w) (i : Nat) (pre old new post : List jq)
  (hi : bs[i]? = some (b, TB, pre ++ (old ++ post))) (hS : zq P TL m) (hp : a.eval p = .pointer (some ⟨b, off, none⟩)) (hv : au new w (a.eval x)) (hm : qm new = m) (hl : qm new = qm old) (ho : off = qm pre)
  (hk : ∀ w', Own w0 (bs.set i (b, TB, pre ++ (new ++ post))) w' → (∀ ks u, au ks w u → au ks w' u) → (∀ r L, zf w r L → zf w' r L) → wpList P ops Q rest a w') :
  wpList P ops Q ({ dst := none, op := .store TL p x, type := ty, pos := pos, after := af, guard := none } :: rest) a w := by
 obtain ⟨hlt, he⟩ := List.getElem?_eq_some_iff.1 hi
 have hbs : bs = bs.take i ++ (b, TB, pre ++ (old ++ post)) :: bs.drop (i + 1) := by
  rw [← he, ← List.drop_eq_getElem_cons hlt, List.take_append_drop]
 have hset : bs.set i (b, TB, pre ++ (new ++ post)) = bs.take i ++ (b, TB, pre ++ (new ++ post)) :: bs.drop (i + 1) := List.set_eq_take_append_cons_drop .. |>.trans (if_pos hlt)
 rw [hset] at hk
 rw [hbs] at hO
 exact aoc hS hp hv hO hm hl ho hk
theorem Own.tl {w W : World} {e : xx} {bs : List xx} (h : Own w (e :: bs) W) : Own w bs W := ⟨h.bel, (List.nodup_cons.1 (by simpa using h.nd)).2, fun b T ls hm => h.box b T ls (List.mem_cons_of_mem _ hm)⟩
structure ayb (w : World) (g k : Nat) (nm : ByteArray) (p : Int) (f : Nat → Int) (x : Rat) (u : Nat → Int) (y : Rat) (q : Nat → Int) (z : Rat) (f' : Nat → Int) (x' : Rat) : Prop where
 at_ : Me w g k nm p
 find : ∀ W r, qa W → zf W r Cz → Calls Tryz.prog 121 #[.map (some r), .string nm] W (ik (jk [au [.k (eK u), .q y], Rg.ai (.bool true)]) W)
 pow : ∀ W v0, qa W → au [.k (eK u), .q y] W v0 → Calls Tryz.prog 104 #[v0, .int .i64 p] W (ik (au [.k (eK q), .q z]) W)
 tim : ∀ W v0 v1, qa W → au [.k (eK f), .q x] W v0 → au [.k (eK q), .q z] W v1 → Calls Tryz.prog 119 #[v0, v1] W (ik (au [.k (eK f'), .q x']) W)
def Vp (w : World) (g k : Nat) (nm : ByteArray) (p : Int) (f : Nat → Int) (x : Rat) (f' : Nat → Int) (x' : Rat) : Prop := ∃ u y q z, ayb w g k nm p f x u y q z f' x'
theorem Vp.parts {w : World} {g k : Nat} {nm : ByteArray} {p : Int} {f : Nat → Int} {x : Rat} {f' : Nat → Int} {x' : Rat} (h : Hid (Vp w g k nm p f x f' x')) : ∃ u y q z, Hid (ayb w g k nm p f x u y q z f' x') := by
 obtain ⟨u, y, q, z, h⟩ := aa h
 exact ⟨u, y, q, z, hide h⟩
theorem apy {g n c : Nat} {F : Nat → Nat → Int} {X : Nat → Rat} (w : World) (hT : qa w) (hn : n ≤ 1000000) (hF0 : F 0 = z7) (hX0 : Wd.qR 1 1 = X 0) (ok : Wd.qy 1 1)
  (hh : ∀ k, k < n → ∃ nm p, Vp w g k nm p (F k) (X k) (F (k + 1)) (X (k + 1))) :
  Calls Tryz.prog 117 #[.slice (some ⟨g, 0, none⟩) n c] w (ik (jk [au [.k (eK (F n)), .q (X n)], Rg.ai (.bool true)]) w) := by
 have HT := hide hT
 have HN := hide hn
 have HF0 := hide hF0
 have HX0 := hide hX0
 have rf := hide ok
 have HH := hide hh
 clear hT hn hF0 hX0 ok hh
 go_enter Tryz.func117, Tryz.ntmps117
 go_upto_region 1 with fail
 have hO := (Own.push (T := 118) (ls := zM) (Own.nil w) (eu.vs w [.int .i64 0, .int .i64 0, .int .i64 0, .int .i64 0, .int .i64 0, .int .i64 0, .int .i64 0, .int .i64 0, .bool false, .slice none 0 0, .int .i64 0, .bool false, .slice none 0 0] rfl) (w.heap.size) rfl)
 generalize w.alloc (.cells #[.int .i64 0, .int .i64 0, .int .i64 0, .int .i64 0, .int .i64 0, .int .i64 0, .int .i64 0, .int .i64 0, .bool false, .slice none 0 0, .int .i64 0, .bool false, .slice none 0 0] 118) = W0 at *
 have HO := hide hO
 clear hO
 go_upto_region 1 with fail
 refine Rg.bg 2 37 (Rg.pick [abv Cz, abv Cz]) (az w _ W0) dm [] kr rfl (Rg.df.pick ⟨Xd, Xd, trivial⟩) (az.begin (aa HO))
  (ag (Pk Tryz.func120 kr rfl az.step  (fun W  hG  => ahp W))
  (ag (ib rfl (aT 0))
  Rg.bf)) ?_
 intro v1 V1 hG1 hv1 hne1
 simp only [Rg.puts, Act.put, tA]
 obtain ⟨mr, em, hm⟩ := (show abv Cz V1 (v1 1) from hv1 1 de)
 simp only [em]
 have Ao := hide hm
 clear hm
 have hO := hG1.1
 clear HO
 have HO := hide hO
 clear hO hG1 hv1 hne1
 go_upto_region 2 with fail
 refine Rg.bg 3 37 (Rg.pick [au [iv 1, iv 1], au [.k (eK z7), .q (X 0)], nk 118 zM V1.heap.size]) (az w _ V1) dm [2] kr rfl (Rg.df.pick ⟨ay _, ay _, og _ _ _, trivial⟩) (az.begin (aa HO))
  (ag (aeu rfl (Rg.jc _) (Rg.jc _) rfl)
  (ag (sc1 Tryz.func118 (aT 0) (fun W v0 hG h0 => (aa HX0) ▸ aht (aa rf) W _ h0))
  (ag (qd adr rfl az.step az.size rfl (rq (by intro j hj; simp at hj; (repeat' (first | (rcases hj with rfl | hj))) <;> first | (subst hj; exact ⟨_, _, _, rfl⟩) | exact ⟨_, _, _, rfl⟩)))
  Rg.bf))) ?_
 intro v2 V2 hG2 hv2 hne2
 simp only [Rg.puts, Act.put, tA]
 obtain ⟨bnb, e2, agq, hz2⟩ := (show nk 118 zM V1.heap.size V2 (v2 2) from hv2 2 de)
 simp only [e2]
 have hO := hG2.1
 replace Ao := hide ((aa Ao).below hG2.2)
 replace hO := Own.add (aa HO) hG2.2 agq hz2
 clear agq hz2
 refine Tm hO 0 [] zM [.k (eK z7), .q (X 0)] [] rfl Bq rfl (show au [.k (eK z7), .q (X 0)] V2 (v2 1) from hv2 1 de) rfl rfl rfl ?_
 intro Cc fu hk0 hm0
 replace Ao := hide (hm0 _ _ (aa Ao))
 clear hm0
 replace hO := fu
 clear fu
 clear HO
 have HO := hide hO
 clear hO hG2 hv2 hne2 hk0
 try clear e2
 go_upto_region 3 with fail
 refine Rg.bg 3 37 (Rg.pick [Rg.ai (.slice (some ⟨g, 0, none⟩) n c), Rg.ai (.int .i64 n), Rg.ai (.int .i64 0)]) (az w _ Cc) dm [] kr rfl (Rg.df.pick ⟨Rg.ae _, Rg.ae _, Rg.ae _, trivial⟩) (az.begin (aa HO))
  (ag (cz rfl aF)
  (ag (bcg rfl (aT 0) rfl)
  (ag (cz rfl (Rg.jc _))
  Rg.bf))) ?_
 intro v3 V3 hG3 hv3 ja
 simp only [Rg.puts, Act.put, tA]
 have e0 : v3 0 = .slice (some ⟨g, 0, none⟩) n c := hv3 0 de
 have e1 : v3 1 = .int .i64 n := hv3 1 de
 have e2 : v3 2 = .int .i64 0 := hv3 2 de
 simp only [e0, e1, e2]
 have hO := hG3.1
 replace Ao := hide ((aa Ao).below hG3.2)
 clear HO
 have HO := hide hO
 clear hO hG3 hv3 ja
 try clear e0 e1 e2
 have HOM := hide (And.intro (aa HO) (aa Ao))
 clear HO Ao
 go_wp2_with fail
 go_loopw [15] (fun vk wr => ∃ k : Nat, k ≤ n ∧ vk = .int .i64 ((k : Nat) : Int) ∧ Hid (Own w [(bnb, 118, [.k (eK (F k)), .q (X k)]), (w.heap.size, 118, zM)] wr ∧ zf wr mr Cz)) (fun vk _ => n - (intOf vk).toNat)
 case atStart => exact ⟨0, by omega, rfl, by rw [aa HF0]; exact HOM⟩
 case round =>
  clear HOM
  obtain ⟨k, hk, rfl, HOM⟩ := hrel
  have HK := hide hk
  clear hk
  have HO := hide (aa HOM).1
  have Ao := hide (aa HOM).2
  clear HOM
  by_cases g1 : (k : Int) < (n : Int)
  ·
   have d1 : decide ((k : Int) < (n : Int)) = true := decide_eq_true g1
   have Bb := hide (show k < n by omega)
   obtain ⟨nm, p, HS⟩ : ∃ nm p, Hid (Vp w g k nm p (F k) (X k) (F (k + 1)) (X (k + 1))) := by
    obtain ⟨nm, p, h⟩ := (aa HH) k (aa Bb)
    exact ⟨nm, p, hide h⟩
   obtain ⟨u, y, q, z, HS⟩ := Vp.parts HS
   go_upto_region 4 with fail
   refine Rg.bg 1 37 (Rg.pick [Rg.ai (.bool true)]) (az w _ wr) dm [] kr rfl (Rg.df.pick ⟨Rg.ae _, trivial⟩) (az.begin (aa HO))
    (ag (ry rfl aF aF rfl d1)
    Rg.bf) ?_
   intro v4 V4 hG4 hv4 mo
   simp only [Rg.puts, Act.put, tA]
   have e0 : v4 0 = .bool true := hv4 0 de
   simp only [e0]
   have hO := hG4.1
   replace Ao := hide ((aa Ao).below hG4.2)
   clear HO
   have HO := hide hO
   clear hO hG4 hv4 mo
   try clear e0
   clear d1 g1
   go_upto_region 5 with fail
   refine Rg.bg 3 37 (Rg.pick [Rg.ai (.pointer (some ⟨g, 2 * k, none⟩)), au [.v (.string nm), iv p], nk 181 zF V4.heap.size]) (az w _ V4) dm [2] kr rfl (Rg.df.pick ⟨Rg.ae _, ay _, og _ _ _, trivial⟩) (az.begin (aa HO))
    (ag (bci (i := k) (m := n) (c := c) rfl aF aF (aa Bb) rfl)
    (ag (azc (i := k) (fun W h => (aa HS).at_.below h.1.bel (aa HS).at_.lt) rfl (aT 0) rfl)
    (ag (qd bhj rfl az.step az.size rfl (rq (by intro j hj; simp at hj; (repeat' (first | (rcases hj with rfl | hj))) <;> first | (subst hj; exact ⟨_, _, _, rfl⟩) | exact ⟨_, _, _, rfl⟩)))
    Rg.bf))) ?_
   intro v5 V5 wy hv5 hne5
   simp only [Rg.puts, Act.put, tA]
   obtain ⟨ang, e2, agq, hz2⟩ := (show nk 181 zF V4.heap.size V5 (v5 2) from hv5 2 de)
   simp only [e2]
   have hO := wy.1
   replace Ao := hide ((aa Ao).below wy.2)
   replace hO := Own.add (aa HO) wy.2 agq hz2
   clear agq hz2
   refine Tm hO 0 [] zF [.v (.string nm), iv p] [] rfl ayx rfl (show au [.v (.string nm), iv p] V5 (v5 1) from hv5 1 de) rfl rfl rfl ?_
   intro Er fu hk0 hm0
   replace Ao := hide (hm0 _ _ (aa Ao))
   clear hm0
   replace hO := fu
   clear fu
   clear HO
   have HO := hide hO
   clear hO wy hv5 hne5 hk0
   try clear e2
   go_upto_region 6 with fail
   refine Rg.bg 8 37 (Rg.pick [Rg.ai (.map (some mr)), Rg.ai (.pointer (some ⟨ang, 0, none⟩)), Rg.ai (.string nm), jk [au [.k (eK u), .q y], Rg.ai (.bool true)], jk [au [.k (eK u), .q y], Rg.ai (.bool true)], au [.k (eK u), .q y], Rg.ai (.bool true), nk 118 zM Er.heap.size]) (az w _ Er) dm [7] kr rfl (Rg.df.pick ⟨Rg.ae _, Rg.ae _, Rg.ae _, il ⟨(ay _), (Rg.ae _), trivial⟩, il ⟨(ay _), (Rg.ae _), trivial⟩, ay _, Rg.ae _, og _ _ _, trivial⟩) (az.begin (aa HO))
    (ag (cz rfl aF)
    (ag (aou (b := ang) (off := 0) rfl aF rfl rfl)
    (ag (Ra bac me0 (aT 1) [] [iv p] rfl)
    (ag (sc2 Tryz.func121 (aT 0) (aT 2) (fun W v0 v1 hG h0 h1 => by cases h0; cases h1; exact (aa HS).find W mr ((aa HT).below hG.bel) ((aa Ao).below hG.2)))
    (ag (cz rfl (aT 3))
    (ag (iy (ts := [au [.k (eK u), .q y], Rg.ai (.bool true)]) rfl (aT 4) (of_decide_eq_true rfl) rfl)
    (ag (iy (ts := [au [.k (eK u), .q y], Rg.ai (.bool true)]) rfl (aT 4) (of_decide_eq_true rfl) rfl)
    (ag (qd adr rfl az.step az.size rfl (rq (by intro j hj; simp at hj; (repeat' (first | (rcases hj with rfl | hj))) <;> first | (subst hj; exact ⟨_, _, _, rfl⟩) | exact ⟨_, _, _, rfl⟩)))
    Rg.bf)))))))) ?_
   intro v6 V6 Eu hv6 Jp
   simp only [Rg.puts, Act.put, tA]
   have e6 : v6 6 = .bool true := hv6 6 de
   obtain ⟨bmy, e7, Iq, Og⟩ := (show nk 118 zM Er.heap.size V6 (v6 7) from hv6 7 de)
   simp only [e6, e7]
   have hO := Eu.1
   replace Ao := hide ((aa Ao).below Eu.2)
   replace hO := Own.add (aa HO) Eu.2 Iq Og
   clear Iq Og
   refine Tm hO 0 [] zM [.k (eK u), .q y] [] rfl Bq rfl (show au [.k (eK u), .q y] V6 (v6 5) from hv6 5 de) rfl rfl rfl ?_
   intro Yg fu hk0 hm0
   replace Ao := hide (hm0 _ _ (aa Ao))
   clear hm0
   replace hO := fu
   clear fu
   clear HO
   have HO := hide hO
   clear hO Eu hv6 Jp hk0
   try clear e6 e7
   go_upto_region 7 with fail
   refine Rg.bg 2 37 (Rg.pick [Rg.ai (.bool true), Rg.ai (.bool false)]) (az w _ Yg) dm [] kr rfl (Rg.df.pick ⟨Rg.ae _, Rg.ae _, trivial⟩) (az.begin (aa HO))
    (ag (cz rfl aF)
    (ag (uf rfl (aT 0) rfl rfl)
    Rg.bf)) ?_
   intro v7 V7 Na hv7 Rs
   simp only [Rg.puts, Act.put, tA]
   have e1 : v7 1 = .bool false := hv7 1 de
   simp only [e1]
   have hO := Na.1
   replace Ao := hide ((aa Ao).below Na.2)
   clear HO
   have HO := hide hO
   clear hO Na hv7 Rs
   try clear e1
   go_upto_region 9 with fail
   refine Rg.region 6 37 (Rg.pick [au [.k (eK (F k)), .q (X k)], au [.k (eK u), .q y], Rg.ai (.pointer (some ⟨ang, 1, none⟩)), Rg.ai (.int .i64 p), au [.k (eK q), .q z], au [.k (eK (F (k + 1))), .q (X (k + 1))]]) (az w _ V7) dm [] kr kr rfl (Rg.df.pick ⟨ay _, ay _, Rg.ae _, Rg.ae _, ay _, ay _, trivial⟩) (az.start (aa HO))
    (ag (fw Pv ru aF [] [.k (eK (F k)), .q (X k)] [])
    (ag (fw Pv me0 aF [] [.k (eK u), .q y] [])
    (ag (aot (b := ang) (off := 0) rfl aF rfl rfl)
    (ag (Ra Ib mf (aT 2) [.v (.string nm)] [] rfl)
    (ag (sc2 Tryz.func104 (aT 1) (aT 3) (fun W v0 v1 hG h0 h1 => by cases h1; exact (aa HS).pow W _ ((aa HT).below hG.bel) h0))
    (ag (sc2 Tryz.func119 (aT 0) (aT 4) (fun W v0 v1 hG h0 h1 => (aa HS).tim W _ _ ((aa HT).below hG.bel) h0 h1))
    Rg.bf)))))) ?_
   intro v8 V8 hG8 hv8 auz
   simp only [Rg.puts, Act.put, tA]
   have hO := hG8.1
   replace Ao := hide ((aa Ao).below hG8.2)
   refine Tm hO 2 [] [.k (eK (F k)), .q (X k)] [.k (eK (F (k + 1))), .q (X (k + 1))] [] rfl Bq rfl (show au [.k (eK (F (k + 1))), .q (X (k + 1))] V8 (v8 5) from hv8 5 de) rfl rfl rfl ?_
   intro bun fu hk0 hm0
   replace Ao := hide (hm0 _ _ (aa Ao))
   clear hm0
   replace hO := fu
   clear fu
   clear HO
   have HO := hide hO
   clear hO hG8 hv8 auz hk0
   go_wp2_with fail
   go_roundw
   case rel =>
    exact ⟨k + 1, by have := aa Bb; omega, Np (aa Bb) (aa HN), hide ⟨(aa HO).tl.tl, aa Ao⟩⟩
   case measure =>
    have h1 := aa Bb
    have h2 := aa HN
    clear HO Ao
    rw [Lp h1 h2]
    exact measS h1
  ·
   have d1 : decide ((k : Int) < (n : Int)) = false := decide_eq_false g1
   obtain rfl : k = n := by have := aa HK; omega
   go_upto_region 4 with fail
   refine Rg.bg 1 37 (Rg.pick [Rg.ai (.bool false)]) (az w _ wr) dm [] kr rfl (Rg.df.pick ⟨Rg.ae _, trivial⟩) (az.begin (aa HO))
    (ag (ry rfl aF aF rfl d1)
    Rg.bf) ?_
   intro v4 V4 hG4 hv4 mo
   simp only [Rg.puts, Act.put, tA]
   have e0 : v4 0 = .bool false := hv4 0 de
   simp only [e0]
   have hO := hG4.1
   replace Ao := hide ((aa Ao).below hG4.2)
   clear HO
   have HO := hide hO
   clear hO hG4 hv4 mo
   try clear e0
   clear d1 g1
   go_upto_region 11 with fail
   refine Rg.bg 1 37 (Rg.pick [au [.k (eK (F k)), .q (X k)]]) (az w _ V4) dm [] kr rfl (Rg.df.pick ⟨ay _, trivial⟩) (az.begin (aa HO))
    (ag (fw Pv me0 aF [] [.k (eK (F k)), .q (X k)] [])
    Rg.bf) ?_
   intro v5 V5 wy hv5 hne5
   simp only [Rg.puts, Act.put, tA]
   have hO := wy.1
   replace Ao := hide ((aa Ao).below wy.2)
   refine Tm hO 1 [] zM [.k (eK (F k)), .q (X k)] [] rfl Bq rfl (show au [.k (eK (F k)), .q (X k)] V5 (v5 0) from hv5 0 de) rfl rfl rfl ?_
   intro Er fu hk0 hm0
   replace Ao := hide (hm0 _ _ (aa Ao))
   clear hm0
   replace hO := fu
   clear fu
   clear HO
   have HO := hide hO
   clear hO wy hv5 hne5 hk0
   go_wp2_with fail
   exact oz Tryz.results117 Ia rfl rfl (aa HO) mf rfl rfl
end Sb


namespace Sb
theorem bcf {Q : Exit → Act → World → Prop} {l : List Oper} {n : Nat} {T : Nat → World → Value → Prop} {G : World → Prop} {al : List Nat} {a0 : Act} {k d : Nat} {ty : TypeId} {pos : String} {af : Array Edge} {gd : Option (Nat × Bool)} {x : Operand} {s : ByteArray} (hal : al.contains k = false) (hx : Rg.iq l n T a0 k x (Rg.ai (.string s))) (hT : T k = Rg.ai (.int .i64 (s.size : Int))) :
  Rg.Step Tryz.prog Q l n T G dm al a0 k { dst := some d, op := .call { callee := .builtin .len, args := #[x], argTypes := #[9] }, type := ty, pos := pos, after := af, guard := gd } := by
 intro a w hG hO hN
 have h : a.eval x = .string s := hx a w hO hN
 have hr : (execOp a.eval { dst := some d, op := .call { callee := .builtin .len, args := #[x], argTypes := #[9] }, type := ty, pos := pos, after := af, guard := gd }).run Tryz.prog w = .ok (.value (.int .i64 (s.size : Int))) w := by
  simp only [execOp, resolve, invoke, h, List.map_toArray, List.map_cons, List.map_nil]
  simp [go_sem, h, Builtin.len_]
 exact jm (P := Tryz.prog) hr ⟨_, rfl, hG, Below.refl _ _, by rw [hT]; rfl, fun h => by rw [hal] at h; cases h⟩
def Gi : Nat → Int := fun j => if j = 0 then 2 else if j = 1 then 1 else if j = 2 then -4 else 0
theorem bll {Q : Exit → Act → World → Prop} {l : List Oper} {n : Nat} {T : Nat → World → Value → Prop} {G : World → Prop} {al : List Nat} {a0 : Act} {k d : Nat} {ty : TypeId} {pos : String} {af : Array Edge} {gd : Option (Nat × Bool)} (hal : al.contains k = false) (hT : T k = au [.k (eK Gi)]) :
  Rg.Step Tryz.prog Q l n T G dm al a0 k { dst := some d, op := .build 42 #[(0, .const (.int .i64 2)), (1, .const (.int .i64 1)), (2, .const (.int .i64 (-4)))], type := ty, pos := pos, after := af, guard := gd } := by
 intro a w hG hO hN
 have hr : (execOp a.eval { dst := some d, op := .build 42 #[(0, .const (.int .i64 2)), (1, .const (.int .i64 1)), (2, .const (.int .i64 (-4)))], type := ty, pos := pos, after := af, guard := gd }).run Tryz.prog w = .ok (.value (.agg #[.int .i64 2, .int .i64 1, .int .i64 (-4), .int .i64 0, .int .i64 0, .int .i64 0, .int .i64 0])) w := by
  have hc : ∀ v, a.eval (.const v) = v := fun _ => rfl
  simp only [execOp, hc]
  simp [go_sem, hc]
  try rfl
 exact jm (P := Tryz.prog) hr ⟨_, rfl, hG, Below.refl _ _, by rw [hT]; exact ⟨_, rfl, eu.e (f := Gi) rfl⟩, fun h => by rw [hal] at h; cases h⟩
theorem Lt {s a b : ByteArray} {n d : Int} {fs : List (ByteArray × Int)} {F F' : Nat → Int} {X X' : Rat} (w : World) (hT : qa w) (hz : decide ((s.size : Int) > 600) = false) (ok : Wd.qy n d) (hpos : decide (n > 0) = true)
  (hsp : ∀ W, Calls Tryz.prog 114 #[.string s] W (ik (jk [Rg.ai (.string a), Rg.ai (.string b)]) W))
  (hrp : ∀ W, qa W → Calls Tryz.prog 24 #[.string a] W (ik (jk [au [iv n, iv d], Rg.ai (.int .i64 0)]) W))
  (hq : ∀ W, Calls Tryz.prog 115 #[.string b] W (ik (jk [Lf fs, Rg.ai (.bool true)]) W))
  (hmul : ∀ W g c, qa W → Ql W g fs → Calls Tryz.prog 117 #[.slice (some ⟨g, 0, none⟩) fs.length c] W (ik (jk [au [.k (eK F), .q X], Rg.ai (.bool true)]) W))
  (bdm : ∀ W v0 v1, qa W → au [.k (eK z7), .q (Wd.qR n d)] W v0 → au [.k (eK F), .q X] W v1 → Calls Tryz.prog 119 #[v0, v1] W (ik (au [.k (eK F'), .q X']) W)) :
  Calls Tryz.prog 49 #[.string s] w (ik (Kv (gp F' X')) w) := by
 have HT := hide hT
 have HZ := hide hz
 have rf := hide ok
 have HPO := hide hpos
 have HSP := hide hsp
 have HRP := hide hrp
 have HQ := hide hq
 have HMU := hide hmul
 have HTM := hide bdm
 clear hT hz ok hpos hsp hrp hq hmul bdm
 go_enter Tryz.func49, Tryz.ntmps49
 go_upto_region 1 with fail
 have hO := (Own.push (T := 44) (ls := zU) (Own.nil w) (eu.vs w [.int .i64 0, .int .i64 0, .int .i64 0, .int .i64 0, .int .i64 0, .int .i64 0, .int .i64 0, .int .i64 0, .int .i64 0] rfl) (w.heap.size) rfl)
 generalize w.alloc (.cells #[.int .i64 0, .int .i64 0, .int .i64 0, .int .i64 0, .int .i64 0, .int .i64 0, .int .i64 0, .int .i64 0, .int .i64 0] 44) = W0 at *
 have HO := hide hO
 clear hO
 go_upto_region 1 with fail
 refine Rg.bg 3 59 (Rg.pick [Rg.ai (.string s), Rg.ai (.int .i64 (s.size : Int)), Rg.ai (.bool false)]) (az w _ W0) dm [] kr rfl (Rg.df.pick ⟨Rg.ae _, Rg.ae _, Rg.ae _, trivial⟩) (az.begin (aa HO))
  (ag (cz rfl aF)
  (ag (bcf rfl (aT 0) rfl)
  (ag (Jv rfl (aT 1) (Rg.jc _) rfl (aa HZ))
  Rg.bf))) ?_
 intro v1 V1 hG1 hv1 hne1
 simp only [Rg.puts, Act.put, tA]
 have e2 : v1 2 = .bool false := hv1 2 de
 simp only [e2]
 have hO := hG1.1
 clear HO
 have HO := hide hO
 clear hO hG1 hv1 hne1
 try clear e2
 go_upto_region 3 with fail
 refine Rg.bg 7 59 (Rg.pick [Rg.ai (.string s), jk [Rg.ai (.string a), Rg.ai (.string b)], jk [Rg.ai (.string a), Rg.ai (.string b)], Rg.ai (.string a), Rg.ai (.string b), Rg.ai (.string a), Rg.ai (.string b)]) (az w _ V1) dm [] kr rfl (Rg.df.pick ⟨Rg.ae _, il ⟨(Rg.ae _), (Rg.ae _), trivial⟩, il ⟨(Rg.ae _), (Rg.ae _), trivial⟩, Rg.ae _, Rg.ae _, Rg.ae _, Rg.ae _, trivial⟩) (az.begin (aa HO))
  (ag (cz rfl aF)
  (ag (sc1 Tryz.func114 (aT 0) (fun W v0 hG h0 => by cases h0; exact (aa HSP) W))
  (ag (cz rfl (aT 1))
  (ag (iy (ts := [Rg.ai (.string a), Rg.ai (.string b)]) rfl (aT 2) (of_decide_eq_true rfl) rfl)
  (ag (iy (ts := [Rg.ai (.string a), Rg.ai (.string b)]) rfl (aT 2) (of_decide_eq_true rfl) rfl)
  (ag (ib rfl (aT 3))
  (ag (ib rfl (aT 4))
  Rg.bf))))))) ?_
 intro v2 V2 hG2 hv2 hne2
 simp only [Rg.puts, Act.put, tA]
 have e3 : v2 3 = .string a := hv2 3 de
 have e4 : v2 4 = .string b := hv2 4 de
 have e5 : v2 5 = .string a := hv2 5 de
 have e6 : v2 6 = .string b := hv2 6 de
 simp only [e3, e4, e5, e6]
 have hO := hG2.1
 clear HO
 have HO := hide hO
 clear hO hG2 hv2 hne2
 try clear e3 e4 e5 e6
 go_upto_region 4 with fail
 refine Rg.bg 6 59 (Rg.pick [Rg.ai (.string a), jk [au [iv n, iv d], Rg.ai (.int .i64 0)], jk [au [iv n, iv d], Rg.ai (.int .i64 0)], au [iv n, iv d], Rg.ai (.int .i64 0), nk 23 zR V2.heap.size]) (az w _ V2) dm [5] kr rfl (Rg.df.pick ⟨Rg.ae _, il ⟨(ay _), (Rg.ae _), trivial⟩, il ⟨(ay _), (Rg.ae _), trivial⟩, ay _, Rg.ae _, og _ _ _, trivial⟩) (az.begin (aa HO))
  (ag (cz rfl aF)
  (ag (sc1 Tryz.func24 (aT 0) (fun W v0 hG h0 => by cases h0; exact (aa HRP) W ((aa HT).below hG.bel)))
  (ag (cz rfl (aT 1))
  (ag (iy (ts := [au [iv n, iv d], Rg.ai (.int .i64 0)]) rfl (aT 2) (of_decide_eq_true rfl) rfl)
  (ag (iy (ts := [au [iv n, iv d], Rg.ai (.int .i64 0)]) rfl (aT 2) (of_decide_eq_true rfl) rfl)
  (ag (qd Gy rfl az.step az.size rfl (rq (by intro j hj; simp at hj; (repeat' (first | (rcases hj with rfl | hj))) <;> first | (subst hj; exact ⟨_, _, _, rfl⟩) | exact ⟨_, _, _, rfl⟩)))
  Rg.bf)))))) ?_
 intro v3 V3 hG3 hv3 ja
 simp only [Rg.puts, Act.put, tA]
 have e4 : v3 4 = .int .i64 0 := hv3 4 de
 obtain ⟨btq, e5, Fs, Km⟩ := (show nk 23 zR V2.heap.size V3 (v3 5) from hv3 5 de)
 simp only [e4, e5]
 have hO := hG3.1
 replace hO := Own.add (aa HO) hG3.2 Fs Km
 clear Fs Km
 refine ji hO 0 [] zR [iv n, iv d] [] rfl uq rfl (show au [iv n, iv d] V3 (v3 3) from hv3 3 de) rfl rfl rfl ?_
 intro Bi fu hk0
 replace hO := fu
 clear fu
 clear HO
 have HO := hide hO
 clear hO hG3 hv3 ja hk0
 try clear e4 e5
 go_upto_region 5 with fail
 refine Rg.bg 7 59 (Rg.pick [Rg.ai (.string b), jk [Lf fs, Rg.ai (.bool true)], jk [Lf fs, Rg.ai (.bool true)], Lf fs, Rg.ai (.bool true), Lf fs, Rg.ai (.bool true)]) (az w _ Bi) dm [] kr rfl (Rg.df.pick ⟨Rg.ae _, il ⟨(Qw _), (Rg.ae _), trivial⟩, il ⟨(Qw _), (Rg.ae _), trivial⟩, Qw _, Rg.ae _, Qw _, Rg.ae _, trivial⟩) (az.begin (aa HO))
  (ag (cz rfl aF)
  (ag (sc1 Tryz.func115 (aT 0) (fun W v0 hG h0 => by cases h0; exact (aa HQ) W))
  (ag (cz rfl (aT 1))
  (ag (iy (ts := [Lf fs, Rg.ai (.bool true)]) rfl (aT 2) (of_decide_eq_true rfl) rfl)
  (ag (iy (ts := [Lf fs, Rg.ai (.bool true)]) rfl (aT 2) (of_decide_eq_true rfl) rfl)
  (ag (ib rfl (aT 3))
  (ag (ib rfl (aT 4))
  Rg.bf))))))) ?_
 intro v4 V4 hG4 hv4 mo
 simp only [Rg.puts, Act.put, tA]
 have e4 : v4 4 = .bool true := hv4 4 de
 have e6 : v4 6 = .bool true := hv4 6 de
 simp only [e4, e6]
 obtain ⟨g, c, em, hfa⟩ := (show Lf fs V4 (v4 5) from hv4 5 de)
 simp only [em]
 have HFA := hide hfa
 clear hfa
 have hO := hG4.1
 clear HO
 have HO := hide hO
 clear hO hG4 hv4 mo
 try clear e4 e6
 go_upto_region 6 with fail
 refine Rg.bg 9 59 (Rg.pick [Rg.ai (.bool true), Rg.ai (.bool false), Rg.ai (.bool false), Rg.ai (.string a), au [iv n, iv d], Rg.ai (.int .i64 0), Rg.ai (.bool true), Rg.ai (.bool false), Rg.ai (.bool false)]) (az w _ V4) dm [] kr rfl (Rg.df.pick ⟨Rg.ae _, Rg.ae _, Rg.ae _, Rg.ae _, ay _, Rg.ae _, Rg.ae _, Rg.ae _, Rg.ae _, trivial⟩) (az.begin (aa HO))
  (ag (cz rfl aF)
  (ag (uf rfl (aT 0) rfl rfl)
  (ag (cz rfl (aT 1))
  (Rg.cu (Rg.ek (d := 32) rfl kr rfl (cz rfl aF))
  (Rg.cu (Rg.ek (d := 32) rfl kr rfl (fw qi me0 aF [] [iv n, iv d] []))
  (Rg.cu (Rg.ek (d := 32) rfl kr rfl (cz rfl aF))
  (Rg.cu (Rg.ek (d := 32) rfl kr rfl (ajo Tryz.func116 kr rfl az.step (aT 3) (aT 4) (aT 5) (fun W v0 v1 v2 hG h0 h1 h2 => by cases h0; cases h2; exact bcr W _ h1 (aa HPO))))
  (Rg.cu (Rg.ek (d := 32) rfl kr rfl (uf rfl (aT 6) rfl rfl))
  (ag (qb rfl (aT 2) (aT 7))
  Rg.bf))))))))) ?_
 intro v5 V5 wy hv5 hne5
 simp only [Rg.puts, Act.put, tA]
 have e8 : v5 8 = .bool false := hv5 8 de
 simp only [e8]
 have hO := wy.1
 replace HFA := hide ((aa HFA).below wy.2)
 clear HO
 have HO := hide hO
 clear hO wy hv5 hne5
 try clear e8
 go_upto_region 8 with fail
 refine Rg.bg 6 59 (Rg.pick [Rg.ai (.slice (some ⟨g, 0, none⟩) (List.length fs) c), jk [au [.k (eK F), .q X], Rg.ai (.bool true)], jk [au [.k (eK F), .q X], Rg.ai (.bool true)], au [.k (eK F), .q X], Rg.ai (.bool true), nk 118 zM V5.heap.size]) (az w _ V5) dm [5] kr rfl (Rg.df.pick ⟨Rg.ae _, il ⟨(ay _), (Rg.ae _), trivial⟩, il ⟨(ay _), (Rg.ae _), trivial⟩, ay _, Rg.ae _, og _ _ _, trivial⟩) (az.begin (aa HO))
  (ag (cz rfl aF)
  (ag (sc1 Tryz.func117 (aT 0) (fun W v0 hG h0 => by cases h0; exact (aa HMU) W g c ((aa HT).below hG.bel) ((aa HFA).below hG.2)))
  (ag (cz rfl (aT 1))
  (ag (iy (ts := [au [.k (eK F), .q X], Rg.ai (.bool true)]) rfl (aT 2) (of_decide_eq_true rfl) rfl)
  (ag (iy (ts := [au [.k (eK F), .q X], Rg.ai (.bool true)]) rfl (aT 2) (of_decide_eq_true rfl) rfl)
  (ag (qd adr rfl az.step az.size rfl (rq (by intro j hj; simp at hj; (repeat' (first | (rcases hj with rfl | hj))) <;> first | (subst hj; exact ⟨_, _, _, rfl⟩) | exact ⟨_, _, _, rfl⟩)))
  Rg.bf)))))) ?_
 intro v6 V6 Eu hv6 Jp
 simp only [Rg.puts, Act.put, tA]
 have e4 : v6 4 = .bool true := hv6 4 de
 obtain ⟨btn, e5, Fs, Km⟩ := (show nk 118 zM V5.heap.size V6 (v6 5) from hv6 5 de)
 simp only [e4, e5]
 have hO := Eu.1
 replace hO := Own.add (aa HO) Eu.2 Fs Km
 clear Fs Km
 refine ji hO 0 [] zM [.k (eK F), .q X] [] rfl Bq rfl (show au [.k (eK F), .q X] V6 (v6 3) from hv6 3 de) rfl rfl rfl ?_
 intro Yg fu hk0
 replace hO := fu
 clear fu
 clear HO
 have HO := hide hO
 clear hO Eu hv6 Jp hk0
 try clear e4 e5
 go_upto_region 9 with fail
 refine Rg.bg 2 59 (Rg.pick [Rg.ai (.bool true), Rg.ai (.bool false)]) (az w _ Yg) dm [] kr rfl (Rg.df.pick ⟨Rg.ae _, Rg.ae _, trivial⟩) (az.begin (aa HO))
  (ag (cz rfl aF)
  (ag (uf rfl (aT 0) rfl rfl)
  Rg.bf)) ?_
 intro v7 V7 Na hv7 Rs
 simp only [Rg.puts, Act.put, tA]
 have e1 : v7 1 = .bool false := hv7 1 de
 simp only [e1]
 have hO := Na.1
 clear HO
 have HO := hide hO
 clear hO Na hv7 Rs
 try clear e1
 go_upto_region 11 with fail
 refine Rg.bg 2 59 (Rg.pick [Rg.ai (.int .i64 0), Rg.ai (.bool false)]) (az w _ V7) dm [] kr rfl (Rg.df.pick ⟨Rg.ae _, Rg.ae _, trivial⟩) (az.begin (aa HO))
  (ag (cz rfl aF)
  (ag (mq rfl (aT 0) (Rg.jc _) rfl rfl)
  Rg.bf)) ?_
 intro v8 V8 hG8 hv8 auz
 simp only [Rg.puts, Act.put, tA]
 have e1 : v8 1 = .bool false := hv8 1 de
 simp only [e1]
 have hO := hG8.1
 clear HO
 have HO := hide hO
 clear hO hG8 hv8 auz
 try clear e1
 go_upto_region 13 with fail
 refine Rg.region 7 59 (Rg.pick [au [iv n, iv d], au [.k (eK z7), .q (Wd.qR n d)], au [.k (eK F), .q X], au [.k (eK F'), .q X'], jk [au [.k (eK (gp F' X').f), iv (gp F' X').n, iv (gp F' X').d], Rg.ai (.int .i64 (gp F' X').e)], au [.k (eK (gp F' X').f), iv (gp F' X').n, iv (gp F' X').d], Rg.ai (.int .i64 (gp F' X').e)]) (az w _ V8) dm [] kr kr rfl (Rg.df.pick ⟨ay _, ay _, ay _, ay _, il ⟨(ay _), (Rg.ae _), trivial⟩, ay _, Rg.ae _, trivial⟩) (az.start (aa HO))
  (ag (fw qi mf aF [] [iv n, iv d] [])
  (ag (sc1 Tryz.func118 (aT 0) (fun W v0 hG h0 => aht (aa rf) W _ h0))
  (ag (fw Pv me0 aF [] [.k (eK F), .q X] [])
  (ag (sc2 Tryz.func119 (aT 1) (aT 2) (fun W v0 v1 hG h0 h1 => (aa HTM) W _ _ ((aa HT).below hG.bel) h0 h1))
  (ag (sc1 Tryz.func105 (aT 3) (fun W v0 hG h0 => abm W _ h0))
  (ag (iy (ts := [au [.k (eK (gp F' X').f), iv (gp F' X').n, iv (gp F' X').d], Rg.ai (.int .i64 (gp F' X').e)]) rfl (aT 4) (of_decide_eq_true rfl) rfl)
  (ag (iy (ts := [au [.k (eK (gp F' X').f), iv (gp F' X').n, iv (gp F' X').d], Rg.ai (.int .i64 (gp F' X').e)]) rfl (aT 4) (of_decide_eq_true rfl) rfl)
  Rg.bf))))))) ?_
 intro v9 V9 hG9 hv9 bmf
 simp only [Rg.puts, Act.put, tA]
 have e6 : v9 6 = .int .i64 (gp F' X').e := hv9 6 de
 simp only [e6]
 have hO := hG9.1
 refine ji hO 2 [] zU [.k (eK (gp F' X').f), iv (gp F' X').n, iv (gp F' X').d] [] rfl oo rfl (show au [.k (eK (gp F' X').f), iv (gp F' X').n, iv (gp F' X').d] V9 (v9 5) from hv9 5 de) rfl rfl rfl ?_
 intro bum fu hk0
 replace hO := fu
 clear fu
 clear HO
 have HO := hide hO
 clear hO hG9 hv9 bmf hk0
 try clear e6
 go_wp2_with fail
 exact oz Tryz.results49 uh rfl rfl (aa HO) ru rfl rfl
theorem amd (w : World) (hT : qa w) (hp : ∀ W, qa W → Calls Tryz.prog 49 #[.string ⟨#[107, 78, 46, 109, 47, 115, 50]⟩] W (ik (Kv ⟨Gi, 1000, 1, 0⟩) W)) :
  Calls Tryz.prog 43 #[] w (ik (Rg.ai (.bool true)) w) := by
 have HT := hide hT
 have HP := hide hp
 clear hT hp
 go_enter Tryz.func43, Tryz.ntmps43
 go_upto_region 1 with fail
 have hO := (Own.nil w)
 have HO := hide hO
 clear hO
 go_upto_region 1 with fail
 refine Rg.bg 5 26 (Rg.pick [jk [au [.k (eK Gi), iv 1000, iv 1], Rg.ai (.int .i64 0)], jk [au [.k (eK Gi), iv 1000, iv 1], Rg.ai (.int .i64 0)], au [.k (eK Gi), iv 1000, iv 1], Rg.ai (.int .i64 0), nk 44 zU w.heap.size]) (az w _ w) dm [4] kr rfl (Rg.df.pick ⟨il ⟨(ay _), (Rg.ae _), trivial⟩, il ⟨(ay _), (Rg.ae _), trivial⟩, ay _, Rg.ae _, og _ _ _, trivial⟩) (az.begin (aa HO))
  (ag (sc1 Tryz.func49 (Rg.jc _) (fun W v0 hG h0 => by cases h0; exact (aa HP) W ((aa HT).below hG.bel)))
  (ag (cz rfl (aT 0))
  (ag (iy (ts := [au [.k (eK Gi), iv 1000, iv 1], Rg.ai (.int .i64 0)]) rfl (aT 1) (of_decide_eq_true rfl) rfl)
  (ag (iy (ts := [au [.k (eK Gi), iv 1000, iv 1], Rg.ai (.int .i64 0)]) rfl (aT 1) (of_decide_eq_true rfl) rfl)
  (ag (qd Jy rfl az.step az.size rfl (rq (by intro j hj; simp at hj; (repeat' (first | (rcases hj with rfl | hj))) <;> first | (subst hj; exact ⟨_, _, _, rfl⟩) | exact ⟨_, _, _, rfl⟩)))
  Rg.bf))))) ?_
 intro v1 V1 hG1 hv1 hne1
 simp only [Rg.puts, Act.put, tA]
 have e3 : v1 3 = .int .i64 0 := hv1 3 de
 obtain ⟨bnf, e4, hge4, Kn⟩ := (show nk 44 zU w.heap.size V1 (v1 4) from hv1 4 de)
 simp only [e3, e4]
 have hO := hG1.1
 replace hO := Own.add (aa HO) hG1.2 hge4 Kn
 clear hge4 Kn
 refine ji hO 0 [] zU [.k (eK Gi), iv 1000, iv 1] [] rfl oo rfl (show au [.k (eK Gi), iv 1000, iv 1] V1 (v1 2) from hv1 2 de) rfl rfl rfl ?_
 intro ui fu hk0
 replace hO := fu
 clear fu
 clear HO
 have HO := hide hO
 clear hO hG1 hv1 hne1 hk0
 try clear e3 e4
 go_upto_region 2 with fail
 refine Rg.bg 5 26 (Rg.pick [jk [au [.k (eK z7), iv 0, iv 0], Rg.ai (.int .i64 4)], jk [au [.k (eK z7), iv 0, iv 0], Rg.ai (.int .i64 4)], au [.k (eK z7), iv 0, iv 0], Rg.ai (.int .i64 4), nk 44 zU ui.heap.size]) (az w _ ui) dm [4] kr rfl (Rg.df.pick ⟨il ⟨(ay _), (Rg.ae _), trivial⟩, il ⟨(ay _), (Rg.ae _), trivial⟩, ay _, Rg.ae _, og _ _ _, trivial⟩) (az.begin (aa HO))
  (ag (sc1 Tryz.func50 (Rg.jc _) (fun W v0 hG h0 => by cases h0; exact apx W))
  (ag (cz rfl (aT 0))
  (ag (iy (ts := [au [.k (eK z7), iv 0, iv 0], Rg.ai (.int .i64 4)]) rfl (aT 1) (of_decide_eq_true rfl) rfl)
  (ag (iy (ts := [au [.k (eK z7), iv 0, iv 0], Rg.ai (.int .i64 4)]) rfl (aT 1) (of_decide_eq_true rfl) rfl)
  (ag (qd Jy rfl az.step az.size rfl (rq (by intro j hj; simp at hj; (repeat' (first | (rcases hj with rfl | hj))) <;> first | (subst hj; exact ⟨_, _, _, rfl⟩) | exact ⟨_, _, _, rfl⟩)))
  Rg.bf))))) ?_
 intro v2 V2 hG2 hv2 hne2
 simp only [Rg.puts, Act.put, tA]
 have e3 : v2 3 = .int .i64 4 := hv2 3 de
 obtain ⟨awc, e4, hge4, Kn⟩ := (show nk 44 zU ui.heap.size V2 (v2 4) from hv2 4 de)
 simp only [e3, e4]
 have hO := hG2.1
 replace hO := Own.add (aa HO) hG2.2 hge4 Kn
 clear hge4 Kn
 refine ji hO 0 [] zU [.k (eK z7), iv 0, iv 0] [] rfl oo rfl (show au [.k (eK z7), iv 0, iv 0] V2 (v2 2) from hv2 2 de) rfl rfl rfl ?_
 intro Cc fu hk0
 replace hO := fu
 clear fu
 clear HO
 have HO := hide hO
 clear hO hG2 hv2 hne2 hk0
 try clear e3 e4
 go_upto_region 3 with fail
 refine Rg.bg 14 26 (Rg.pick [au [.k (eK Gi), iv 1000, iv 1], au [.k (eK Gi)], au [iv 1000, iv 1], au [.k (eK Gi), iv 1000, iv 1], Rg.ai (.bool true), Rg.ai (.bool true), Rg.ai (.int .i64 0), Rg.ai (.bool true), Rg.ai (.bool true), Rg.ai (.bool true), Rg.ai (.int .i64 4), Rg.ai (.bool true), Rg.ai (.bool true), Rg.ai (.bool true)]) (az w _ Cc) dm [] kr rfl (Rg.df.pick ⟨ay _, ay _, ay _, ay _, Rg.ae _, Rg.ae _, Rg.ae _, Rg.ae _, Rg.ae _, Rg.ae _, Rg.ae _, Rg.ae _, Rg.ae _, Rg.ae _, trivial⟩) (az.begin (aa HO))
  (ag (fw jb mf aF [] [.k (eK Gi), iv 1000, iv 1] [])
  (ag (bll rfl rfl)
  (ag (aeu rfl (Rg.jc _) (Rg.jc _) rfl)
  (ag (Bv Qb rfl (aT 1) (aT 2) rfl rfl rfl)
  (ag (ajn rfl (aT 0) (aT 3) rfl)
  (ag (cz rfl (aT 4))
  (Rg.cu (Rg.ek (d := 18) rfl kr rfl (cz rfl aF))
  (Rg.cu (Rg.ek (d := 18) rfl kr rfl (Tq rfl (aT 6) (Rg.jc _) rfl (beq_self_eq_true _)))
  (ag (xz rfl (aT 5) (aT 7))
  (ag (cz rfl (aT 8))
  (Rg.cu (Rg.ek (d := 22) rfl kr rfl (cz rfl aF))
  (Rg.cu (Rg.ek (d := 22) rfl kr rfl (Tq rfl (aT 10) (Rg.jc _) rfl (beq_self_eq_true _)))
  (ag (xz rfl (aT 9) (aT 11))
  (ag (ib rfl (aT 12))
  Rg.bf)))))))))))))) ?_
 intro v3 V3 hG3 hv3 ja
 simp only [Rg.puts, Act.put, tA]
 have e12 : v3 12 = .bool true := hv3 12 de
 have e13 : v3 13 = .bool true := hv3 13 de
 simp only [e12, e13]
 have hO := hG3.1
 clear HO
 have HO := hide hO
 clear hO hG3 hv3 ja
 try clear e12 e13
 go_wp2_with fail
 exact yu Tryz.results43 rfl (aa HO).bel rfl
end Sb


namespace Sb
theorem bco (s : ByteArray) (m : Nat) (c : UInt8) (p : Int) (hm : 0 < m) (hlm : m < s.size) (hs : s.size = m + 1) (hl : ∀ j (h : j < s.size), j < m → Jm (s[j].toNat : Int) = true) (hc : s[m] = c) (hcl : Jm (c.toNat : Int) = false) (h1 : 49 ≤ c.toNat) (h2 : c.toNat ≤ 57) (hp : p = (c.toNat : Int) - 48) (hz : s.size ≤ 1000000) (w : World) :
  Calls Tryz.prog 209 #[.string s] w (ik (Yk (s.extract 0 m) p true) w) := by
 have HL := hide (fun W b => Zc b W)
 have HH := hide hl
 obtain ⟨r, hr⟩ : ∃ r, r = s.extract m s.size := ⟨_, rfl⟩
 have hrs : r.size = 1 := by rw [hr, ByteArray.size_extract]; omega
 have hr0 : r[0]'(by omega) = c := by
  rw [← hc]
  subst hr
  rw [ByteArray.getElem_extract]
  simp only [Nat.add_zero]
 have hcp := (fun W => ake r (by
  have h3 : r.data.toList.head? = some (r[0]'(by omega)) := by
   have h1 : 0 < r.data.toList.length := by rw [tu]; omega
   rw [List.head?_eq_getElem?, List.getElem?_eq_getElem h1]; rfl
  rw [h3, hr0]
  intro h
  have h4 : c = 45 := Option.some.inj h
  rw [h4] at h1
  exact absurd h1 de) W)
 have HC : Hid (∀ W, Calls Tryz.prog 85 #[.string (s.extract m s.size), .string ⟨#[45]⟩] W fun e w' => e = .returned (.tuple #[.string r, .bool false]) ∧ w' = W) := hide (fun W => by rw [← hr]; exact hcp W)
 clear hl hcp
 have HZ := hide (And.intro hs hz)
 have z0 : ((m : Int) == 0) = false := beq_eq_false_iff_ne.2 om
 have z1 : ((m : Int) == (s.size : Int)) = false := beq_eq_false_iff_ne.2 om
 have hms : m ≤ s.size := by omega
 have hd : Jm (s[m].toNat : Int) = false := by rw [hc]; exact hcl
 clear hs hz hc hcl
 go_enter Tryz.func209, Tryz.ntmps209
 go_wp2_with fail
 go_loop [4] (fun i => ∃ k : Nat, k ≤ m ∧ i = .int .i64 k) (fun i => m - (intOf i).toNat)
 case atStart => exact ⟨0, Nat.zero_le _, rfl⟩
 case round =>
  obtain ⟨k, hk, rfl⟩ := hrel
  by_cases g : k < m
  ·
   have hlt : k < s.size := by omega
   have e1 := (aa HH) k hlt g
   have HG := hide g
   have hz2 := (aa HZ).2
   clear hd hr0 hp h1 h2
   go_wp2_with (go_at_call 235; refine ((aa HL) _ _).mono ?_; rintro e w' ⟨rfl, rfl⟩; rw [e1])
   go_round
   case rel => exact ⟨k + 1, by have := aa HG; omega, by go_num⟩
   case measure => have := aa HG; simp [intOf]; omega
  ·
   obtain rfl : k = m := by omega
   go_wp2_with (go_at_call 235; refine ((aa HL) _ _).mono ?_; rintro e w' ⟨rfl, rfl⟩; rw [hd])
   refine ((aa HC) _).mono ?_
   rintro e w' ⟨rfl, rfl⟩
   dsimp only
   have hq : ((r.size : Int) != 1) = false := by rw [hrs]; rfl
   have hr1 : 0 < r.size := by omega
   have hr9 : r[0]'hr1 = c := hr0
   rw [← hr9] at h1 h2 hp
   have e4 : decide ((r[0].toNat : Int) < 49) = false := decide_eq_false om
   have e5 : decide ((57 : Int) < (r[0].toNat : Int)) = false := decide_eq_false om
   have e6 : IntKind.u8.wrap ((r[0].toNat : Int) - 48) = p := by rw [hp]; exact wrap_u8 om om
   have e7 : IntKind.i64.wrap p = p := IntWalk.i64_in _ om
   have e8 : wrap64 p = p := IntWalk.wrap64_in _ om
   clear h1 h2 hp hr9 hr0 hrs hr hd
   go_wp2_with fail
   exact bodyPost_ret (v := .tuple #[.agg #[.string (s.extract 0 k), .int .i64 p], .bool true]) (by simp [results, Tryz.results209, go_sem]) rfl ⟨_, rfl, gm (Below.refl _ _) _, akd⟩
end Sb
end Go.Proofs.YtfgeaakhlcaibaaGreatDoor
namespace Go.Proofs.YtfgeaakhlcaibaaGreatDoor
namespace Wd
open Go.Lib

theorem Vn {k : Nat} (h : k < 10) : (UInt8.ofNat (48 + k)).toNat = 48 + k := by
 rw [UInt8.toNat_ofNat']; omega
theorem Zx (u : Nat) : xc (decDigits u) = u := by
 induction u using Nat.strongRecOn with
 | _ u ih =>
  by_cases h : u < 10
  ·
   rw [decDigits_one h]
   show 0 * 10 + ((UInt8.ofNat (48 + u)).toNat - 48) = u
   rw [Vn h]; omega
  ·
   rw [decDigits, dif_neg h, Tc, ih (u / 10) om, Vn om]; omega
theorem aga {k : Nat} (h : k < 10) : zy (UInt8.ofNat (48 + k)) = true := by
 unfold zy
 rw [Vn h, decide_eq_true (show 48 ≤ ((48 + k : Nat) : Int) by omega), decide_eq_true (show ((48 + k : Nat) : Int) ≤ 57 by omega)]; rfl
theorem ara (u : Nat) : (decDigits u).all zy = true := by
 induction u using Nat.strongRecOn with
 | _ u ih =>
  by_cases h : u < 10
  ·
   rw [decDigits_one h, List.all_cons, aga h]; rfl
  ·
   rw [decDigits, dif_neg h, List.all_append, ih (u / 10) om, List.all_cons, aga om]; rfl
theorem aqz : ∀ (k u : Nat), 1 ≤ k → u < 10 ^ k → (decDigits u).length ≤ k
 | 0, _, h, _ => absurd h om
 | k + 1, u, _, h => by
  by_cases h1 : u < 10
  ·
   rw [decDigits_one h1]; simp
  ·
   rw [decDigits, dif_neg h1, List.length_append]
   rcases Nat.eq_zero_or_pos k with rfl | hk
   ·
    rw [Nat.zero_add, Nat.pow_one] at h; omega
   ·
    have := aqz k (u / 10) hk (by rw [Nat.pow_succ] at h; omega)
    simp only [List.length_cons, List.length_nil]; omega
theorem ahk (u : Nat) : 1 ≤ (decDigits u).length := by
 by_cases h : u < 10
 ·
  rw [decDigits_one h]; simp
 ·
  rw [decDigits, dif_neg h, List.length_append]; simp
theorem baj (u : Nat) (h0 : 1 ≤ u) : (decDigits u).head? ≠ some 48 := by
 induction u using Nat.strongRecOn with
 | _ u ih =>
  by_cases h : u < 10
  ·
   rw [decDigits_one h]
   intro e
   have e2 : UInt8.ofNat (48 + u) = 48 := Option.some.inj e
   have e3 := Vn h
   rw [e2] at e3
   have : (48 : UInt8).toNat = 48 := rfl
   omega
  ·
   rw [decDigits, dif_neg h]
   have h1 := ahk (u / 10)
   have h2 := ih (u / 10) om om
   cases hl : decDigits (u / 10) with
   | nil => rw [hl] at h1; exact absurd h1 de
   | cons c l => rw [hl] at h2; exact h2
theorem ahl {u : Nat} (h : u ≤ 1000000000000) : Cg (decDigits u) = true := by
 refine zw.2 ⟨xm.2 ⟨ahk u, ?_, ara u⟩, ?_⟩
 ·
  have := aqz 20 u om (Nat.lt_of_le_of_lt h de); omega
 ·
  rcases Nat.eq_zero_or_pos u with rfl | h0
  ·
   exact .inl (by rw [decDigits_one om]; rfl)
  ·
   exact .inr (baj u h0)
theorem Zy (u : Nat) {c : UInt8} (hc : c.toNat < 48) : c ∉ decDigits u := fun h => by
 have := adv (ara u) h; omega
theorem bfh {u : Nat} (h : 1 ≤ u) : ¬ decDigits u = [48] := fun e => by
 have h1 := Zx u
 rw [e] at h1
 have : xc [48] = 0 := rfl
 omega
def Wz (n d : Int) : List UInt8 := if d = 1 then itoa n else itoa n ++ 47 :: itoa d
theorem aqf {d : Int} (h : 0 ≤ d) : itoa d = decDigits d.natAbs := by
 unfold itoa; rw [if_neg om, show d.toNat = d.natAbs by omega]
theorem azu (u d : Nat) (hu : u ≤ 1000000000000) (hd : d ≤ 1000000000000) (h1 : 1 ≤ d) :
  Ap (if d = 1 then decDigits u else decDigits u ++ 47 :: decDigits d) = some (Rat.divInt u d) := by
 by_cases h : d = 1
 ·
  rw [if_pos h, Ri (Zy u de) (Zy u de), if_pos (ahl hu), Zx, h]; rfl
 ·
  rw [if_neg h, Io rfl (Zy u de), ahl hu, ahl hd, beq_eq_false_iff_ne.2 (bfh h1), Zx, Zx]; rfl
theorem aps {n d : Int} (ok : qy n d) : Tw (Wz n d) = ⟨n, d, 0⟩ := by
 obtain ⟨h1, h2, h3, h4, _⟩ := id ok
 have hp := azu n.natAbs d.natAbs om om om
 rw [show ((d.natAbs : Nat) : Int) = d by omega] at hp
 have hdd : (if d.natAbs = 1 then decDigits n.natAbs else decDigits n.natAbs ++ 47 :: decDigits d.natAbs) = (if d = 1 then decDigits n.natAbs else decDigits n.natAbs ++ 47 :: itoa d) := by
  rw [aqf om]
  by_cases h : d = 1
  ·
   rw [if_pos h, if_pos om]
  ·
   rw [if_neg h, if_neg om]
 rw [hdd] at hp
 unfold Tw
 by_cases hn : n < 0
 ·
  have e : Wz n d = 45 :: (if d = 1 then decDigits n.natAbs else decDigits n.natAbs ++ 47 :: itoa d) := by
   unfold Wz
   have e1 : itoa n = 45 :: decDigits n.natAbs := by unfold itoa; rw [if_pos hn]
   rw [e1]
   by_cases h : d = 1
   ·
    rw [if_pos h, if_pos h]
   ·
    rw [if_neg h, if_neg h]; rfl
  rw [e, List.head?_cons, if_pos rfl, List.tail_cons, hp]
  have hq : -Rat.divInt (n.natAbs : Int) d = qR n d := by unfold qR; rw [Rat.neg_divInt, show -(n.natAbs : Int) = n by omega]
  have h0 : ¬ Rat.divInt (n.natAbs : Int) d = 0 := fun hz => by
   rw [hz] at hq
   have := (azr ok).1 (by rw [← hq]; rfl)
   omega
  dsimp only
  rw [if_neg h0, hq, Qs ok]
 ·
  have e : Wz n d = (if d = 1 then decDigits n.natAbs else decDigits n.natAbs ++ 47 :: itoa d) := by
   unfold Wz
   rw [aqf (d := n) om]
  have hh : ¬ (Wz n d).head? = some 45 := by
   have hdp := ahk n.natAbs
   have hno : (45 : UInt8) ∉ decDigits n.natAbs := Zy _ de
   rw [e]
   cases hl : decDigits n.natAbs with
   | nil => rw [hl] at hdp; exact absurd hdp de
   | cons c l =>
    rw [hl] at hno
    have hc : ¬ c = 45 := fun e => hno (by rw [e]; exact List.mem_cons_self)
    split
    ·
     intro h; exact hc (Option.some.inj h)
    ·
     intro h; exact hc (Option.some.inj h)
  rw [if_neg hh, e, hp]
  dsimp only
  rw [show ((n.natAbs : Nat) : Int) = n by omega]
  exact Qs ok
end Wd
end Go.Proofs.YtfgeaakhlcaibaaGreatDoor
namespace Go.Proofs.YtfgeaakhlcaibaaGreatDoor
open Go.RowKit

namespace Sb
theorem bak {s a b : ByteArray} {c : UInt8} (h : s.data.toList = a.data.toList ++ c :: b.data.toList) (hn : c ∉ a.data.toList) (hs : s.size ≤ 1000) (W : World) :
  Calls Tryz.prog 155 #[.string s, .string ⟨#[c]⟩] W fun e w' => e = .returned (.tuple #[.string a, .string b, .bool true]) ∧ Below W.heap.size W w' := by
 refine (Ns s ⟨#[c]⟩ c rfl W om).mono ?_
 rintro e w' ⟨x, y, f, rfl, hb, ⟨rfl, h1, h2⟩ | ⟨rfl, rfl, h1, h2⟩⟩
 ·
  have e1 := Wd.Kt c _ y.data.toList h2
  rw [← h1, h, Wd.Kt c _ _ hn] at e1
  simp only [Option.some.injEq, Prod.mk.injEq] at e1
  obtain rfl : a = x := by rw [← Zt a, e1.1, Zt]
  obtain rfl : b = y := by rw [← Zt b, e1.2, Zt]
  exact ⟨rfl, hb⟩
 ·
  exact absurd (by rw [h]; exact List.mem_append_right _ List.mem_cons_self) h2
theorem asu {s : ByteArray} (hn : (32 : UInt8) ∉ s.data.toList) (hs : s.size ≤ 600) (w : World) :
  Calls Tryz.prog 114 #[.string s] w (ik (jk [Rg.ai (.string ⟨#[49]⟩), Rg.ai (.string s)]) w) := by
 have HC := hide (fun W => Ns s ⟨#[32]⟩ 32 rfl W om)
 have HN := hide hn
 clear hn hs
 go_enter Tryz.func114, Tryz.ntmps114
 go_wp2_with fail
 refine ((aa HC) _).mono ?_
 rintro e W1 ⟨x, y, f, rfl, hb, ⟨_, h, _⟩ | ⟨rfl, rfl, h1, h2⟩⟩
 ·
  exact absurd (by rw [h]; exact List.mem_append_right _ List.mem_cons_self) (aa HN)
 clear h1 h2
 dsimp only
 go_wp2_with fail
 go_ret2
 exact ⟨_, rfl, hb, [_, _], rfl, _, _, rfl, rfl, _, _, rfl, rfl, rfl⟩
theorem Lc : Wd.qy 1 1 := by unfold Wd.qy; decide
theorem Mq : Wd.qy 1000 1 := by unfold Wd.qy; decide
theorem alk (w : World) (hT : qa w) : Calls Tryz.prog 24 #[.string ⟨#[49]⟩] w (ik (jk [au [iv 1, iv 1], Rg.ai (.int .i64 0)]) w) := by
 have e1 := Wd.aps (n := 1) (d := 1) Lc
 rw [show Wd.Wz 1 1 = [49] by kernel_rfl] at e1
 refine (apt ⟨#[49]⟩ w hT de).mono ?_
 rintro e w' ⟨rfl, hb⟩
 rw [show (⟨#[49]⟩ : ByteArray).data.toList = [49] from rfl, e1]
 exact ⟨_, rfl, hb, [_, _], rfl, _, _, rfl, Af _ _ _, _, _, rfl, rfl, rfl⟩
theorem Uu {p q : Nat → Int} (h : ([0, 1, 2, 3, 4, 5, 6].all fun j => p j == q j) = true) : ∀ j, j < 7 → p j = q j := fun j hj => by
 have := List.all_eq_true.1 h j (by
  have hc : j = 0 ∨ j = 1 ∨ j = 2 ∨ j = 3 ∨ j = 4 ∨ j = 5 ∨ j = 6 := by omega
  rcases hc with rfl | rfl | rfl | rfl | rfl | rfl | rfl <;> decide)
 exact eq_of_beq this
theorem bcq {F : Nat} {vs : Array Value} {W : World} {f : Nat → Int} {a b : Rat} {v : Value} (e : a = b) (h : Calls Tryz.prog F vs W (ik (jk [au [.k (eK f), .q a], Rg.ai v]) W)) : Calls Tryz.prog F vs W (ik (jk [au [.k (eK f), .q b], Rg.ai v]) W) := e ▸ h
theorem aba {F : Nat} {vs : Array Value} {W : World} {a b : Rat} (e : a = b) (h : Calls Tryz.prog F vs W (ik (au [.q a]) W)) : Calls Tryz.prog F vs W (ik (au [.q b]) W) := e ▸ h
theorem ael {w : World} {g k : Nat} {nm : ByteArray} {p : Int} {f u q f' : Nat → Int} {n d n' d' a b a' b' : Int} (hat : Me w g k nm p)
  (hfind : ∀ W r, qa W → zf W r Cz → Calls Tryz.prog 121 #[.map (some r), .string nm] W (ik (jk [au [.k (eK u), .q (Wd.qR n d)], Rg.ai (.bool true)]) W))
  (okx : Wd.qy a b) (oky : Wd.qy n d) (okz : Wd.qy n' d') (hp : -((9 : Nat) : Int) ≤ p ∧ p ≤ (9 : Nat)) (hq : ∀ j, j < 7 → wrap64 (u j * p) = q j) (Uq : (Wd.qR n d).num ≠ 0) (hz : Ae (Wd.qR n d) p = Wd.qR n' d')
  (hf : ∀ j, j < 7 → wrap64 (f j + q j) = f' j) (hx : Wd.qR a b * Wd.qR n' d' = Wd.qR a' b') : Vp w g k nm p f (Wd.qR a b) f' (Wd.qR a' b') :=
 ⟨u, Wd.qR n d, q, Wd.qR n' d', hat, hfind, fun W v0 hT h0 => Tv W v0 h0 hq (fun W' v0' hb h => aba hz (ahr (K := 1) (b := 9) (Au oky) Uq hp om om W' _ h)),
  fun W v0 v1 hT h0 h1 => Nr W v0 h0 v1 h1 hf (fun W' x y hb g0 g1 => aba hx (Rz (hT.below hb) (Au okx) (Au okz) g0 g1))⟩
theorem axf : Wd.qR 1 1 * Wd.qR 1000 1 = Wd.qR 1000 1 := by kernel_rfl
theorem amb : Wd.qR 1000 1 * Wd.qR 1 1 = Wd.qR 1000 1 := by kernel_rfl
theorem bhd : Ae (Wd.qR 1000 1) 1 = Wd.qR 1000 1 := by kernel_rfl
theorem bhf : Ae (Wd.qR 1 1) 1 = Wd.qR 1 1 := by kernel_rfl
theorem bhe : Ae (Wd.qR 1 1) (-2) = Wd.qR 1 1 := by kernel_rfl
theorem bcv : (Wd.qR 1 1).num ≠ 0 := by decide
theorem blp : (Wd.qR 1000 1).num ≠ 0 := by decide
def kF (k : Nat) : Nat → Int := if k = 0 then z7 else if k = 1 then (fun j => if j = 0 then 1 else if j = 1 then 1 else if j = 2 then -2 else 0) else if k = 2 then (fun j => if j = 0 then 2 else if j = 1 then 1 else if j = 2 then -2 else 0) else Gi
def kX (k : Nat) : Rat := if k = 0 then Wd.qR 1 1 else Wd.qR 1000 1
def kN' : Nat → Int := fun j => if j = 0 then 1 else if j = 1 then 1 else if j = 2 then -2 else 0
def km' : Nat → Int := fun j => if j = 0 then 1 else 0
def ks' : Nat → Int := fun j => if j = 2 then 1 else 0
def ks2 : Nat → Int := fun j => if j = 2 then -2 else 0
def kFs : List (ByteArray × Int) := [(⟨#[107, 78]⟩, 1), (⟨#[109]⟩, 1), (⟨#[115]⟩, -2)]
theorem bah (W : World) (r : Nat) (hT : qa W) (hm : zf W r Cz) : Calls Tryz.prog 121 #[.map (some r), .string ⟨#[107, 78]⟩] W (ik (jk [au [.k (eK kN'), .q (Wd.qR 1000 1)], Rg.ai (.bool true)]) W) :=
 bcq amb (avg (b := 107) (ls := [78]) (f := kN') (n := 1) (d := 1) (p := 1000) (q := 1) W hm rfl kr kr kr kr hT Mq Lc (Uu (p := fun j => wrap64 (z7 j + kN' j)) kr))
theorem bfd (W : World) (r : Nat) (hm : zf W r Cz) : Calls Tryz.prog 121 #[.map (some r), .string ⟨#[109]⟩] W (ik (jk [au [.k (eK km'), .q (Wd.qR 1 1)], Rg.ai (.bool true)]) W) :=
 aha (f := km') (n := 1) (d := 1) W hm kr Lc
theorem bfc (W : World) (r : Nat) (hm : zf W r Cz) : Calls Tryz.prog 121 #[.map (some r), .string ⟨#[115]⟩] W (ik (jk [au [.k (eK ks'), .q (Wd.qR 1 1)], Rg.ai (.bool true)]) W) :=
 aha (f := ks') (n := 1) (d := 1) W hm kr Lc
theorem alz (W : World) (g c : Nat) (hT : qa W) (hf : Ql W g kFs) :
  Calls Tryz.prog 117 #[.slice (some ⟨g, 0, none⟩) kFs.length c] W (ik (jk [au [.k (eK Gi), .q (Wd.qR 1000 1)], Rg.ai (.bool true)]) W) := by
 refine apy (F := kF) (X := kX) (n := 3) W hT om rfl rfl Lc (fun k hk => ?_)
 have hc : k = 0 ∨ k = 1 ∨ k = 2 := by omega
 rcases hc with rfl | rfl | rfl
 ·
  exact ⟨_, _, ael (hf 0 _ rfl) bah Lc Mq Mq de (q := kN') (Uu (p := fun j => wrap64 (kN' j * 1)) kr) blp bhd (Uu (p := fun j => wrap64 (kF 0 j + kN' j)) (q := kF 1) kr) axf⟩
 ·
  exact ⟨_, _, ael (hf 1 _ rfl) (fun W r _ hm => bfd W r hm) Mq Lc Lc de (q := km') (Uu (p := fun j => wrap64 (km' j * 1)) kr) bcv bhf (Uu (p := fun j => wrap64 (kF 1 j + km' j)) (q := kF 2) kr) amb⟩
 ·
  exact ⟨_, _, ael (hf 2 _ rfl) (fun W r _ hm => bfc W r hm) Mq Lc Lc de (q := ks2) (Uu (p := fun j => wrap64 (ks' j * (-2))) kr) bcv bhe (Uu (p := fun j => wrap64 (kF 2 j + ks2 j)) (q := kF 3) kr) amb⟩
abbrev tkN : ByteArray := ⟨#[107, 78]⟩
abbrev tm : ByteArray := ⟨#[109]⟩
abbrev ts : ByteArray := ⟨#[115]⟩
abbrev ts2 : ByteArray := ⟨#[115, 50]⟩
abbrev bbt : ByteArray := ⟨#[107, 78, 46, 109]⟩
abbrev alb : ByteArray := ⟨#[107, 78, 46, 109, 47, 115, 50]⟩
def l1k : List (ByteArray × Int) := [(tkN, 1), (tm, 1)]
theorem bcn (k : Nat) (p : ByteArray) (f : ByteArray × Int) (hp : [tkN, tm][k]? = some p) (hf : l1k[k]? = some f) (W : World) : Calls Tryz.prog 209 #[.string p] W (ik (Yk f.1 f.2 true) W) := by
 match k, hp, hf with
 | 0, hp, hf =>
  cases hp
  cases hf
  exact ajp tkN (fun j h => by
   have hc : j = 0 ∨ j = 1 := by
    have h2 : j < 2 := h
    omega
   rcases hc with rfl | rfl <;> rfl) de de W
 | 1, hp, hf =>
  cases hp
  cases hf
  exact ajp tm (fun j h => by
   have hc : j = 0 := by
    have h2 : j < 1 := h
    omega
   subst hc
   rfl) de de W
 | k + 2, hp, _ => cases hp
theorem bhp : ts2.extract 0 1 = ts := by kernel_rfl
theorem bcp (k : Nat) (p : ByteArray) (f : ByteArray × Int) (hp : [ts2][k]? = some p) (hf : [(ts, (2 : Int))][k]? = some f) (W : World) : Calls Tryz.prog 209 #[.string p] W (ik (Yk f.1 f.2 true) W) := by
 match k, hp, hf with
 | 0, hp, hf =>
  cases hp
  cases hf
  have h := bco ts2 1 50 2 de de rfl (fun j h hj => by
   have hc : j = 0 := by omega
   subst hc
   rfl) rfl rfl de de de de W
  rw [bhp] at h
  exact h
 | k + 1, hp, _ => cases hp
theorem alp (w : World) : Calls Tryz.prog 115 #[.string alb] w (ik (jk [Lf kFs, Rg.ai (.bool true)]) w) := by
 refine azq alb bbt ts2 l1k kFs w (fun W => bak (c := 47) rfl de de W) kr (fun w0 W v hf hb => ?_) (fun w0 W v hf hb => ?_) (by simp [kFs])
 ·
  have h := ajq bbt [tkN, tm] l1k [] 1 v w0 W kr de rfl de bcn hf hb
  rw [show [] ++ l1k.map (fun (f : ByteArray × Int) => (f.1, wrap64 (f.2 * 1))) = l1k by kernel_rfl] at h
  exact h
 ·
  have h := ajq ts2 [ts2] [(ts, 2)] l1k (-1) v w0 W kr de rfl de bcp hf hb
  rw [show l1k ++ [(ts, (2 : Int))].map (fun (f : ByteArray × Int) => (f.1, wrap64 (f.2 * (-1)))) = kFs by kernel_rfl] at h
  exact h
theorem bho : Ca Gi := fun j hj => by
 have hc : j = 0 ∨ j = 1 ∨ j = 2 ∨ j = 3 ∨ j = 4 ∨ j = 5 ∨ j = 6 := by omega
 rcases hc with rfl | rfl | rfl | rfl | rfl | rfl | rfl <;> decide
theorem bbw : gp Gi (Wd.qR 1000 1) = ⟨Gi, 1000, 1, 0⟩ := by
 unfold gp
 rw [if_pos bho, Wd.Qs Mq]
 rfl
theorem ait (w : World) (hT : qa w) : Calls Tryz.prog 49 #[.string alb] w (ik (Kv ⟨Gi, 1000, 1, 0⟩) w) := by
 rw [← bbw]
 exact Lt (a := ⟨#[49]⟩) (b := alb) (n := 1) (d := 1) (fs := kFs) (F := Gi) (X := Wd.qR 1000 1) w hT de Lc de (fun W => asu de de W) (fun W h => alk W h) alp (fun W g c h hf => alz W g c h hf)
  (fun W v0 v1 h h0 h1 => Nr W v0 h0 v1 h1 (Uu (p := fun j => wrap64 (z7 j + Gi j)) kr) (fun W' x y hb g0 g1 => aba axf (Rz (h.below hb) (Au Lc) (Au Mq) g0 g1)))
theorem aqd (w : World) (hT : qa w) : Calls Tryz.prog 43 #[] w (ik (Rg.ai (.bool true)) w) := amd w hT fun W h => ait W h
end Sb
end Go.Proofs.YtfgeaakhlcaibaaGreatDoor
namespace Go.Proofs.YtfgeaakhlcaibaaGreatDoor
open Go.Joins Go.ChangeShapes Go.WideShapes Go.ChangeAt Go.RowKit

theorem own : ownKnob Tryz.prog.godebug = none := by kernel_rfl
theorem atu {H : Type} {enc : TypeId × Value → H} {w : World} {base : Nat} {spare : Nat → Bool} {held : Bool} {r : Reach} {b0 : Nat} {v : Value} {d : DataW H} {p : List MemPlace}
  (hv : Value.okWide Tryz.prog w r b0 23 v) (h : DataW.Trod enc Tryz.prog w base spare held 23 v d p) :
  ∃ n m : Int, v = .agg #[.int .i64 n, .int .i64 m] ∧ d = .agg [.lit (.int .i64 n), .lit (.int .i64 m)] ∧ p = [] ∧ (Lit.int .i64 n).wf = true ∧ (Lit.int .i64 m).wf = true := by
 obtain ⟨v0, v1, y0, y1, k, rfl, rfl, rfl, h0, h1⟩ := open_agg2 Tryz.underlying23 kr kr hv h
 obtain ⟨n, e0, rfl, w0⟩ := DataW.trod_int Tryz.underlying3 h0
 obtain ⟨m, e1, rfl, w1⟩ := DataW.trod_int Tryz.underlying3 h1
 simp only [List.cons.injEq, and_true] at e0 e1
 subst e0 e1
 exact ⟨n, m, rfl, rfl, rfl, w0, w1⟩
theorem asv {H : Type} {enc : TypeId × Value → H} {w : World} {base : Nat} {spare : Nat → Bool} {held : Bool} {n m : Int} (w0 : (Lit.int .i64 n).wf = true) (w1 : (Lit.int .i64 m).wf = true) :
  DataW.Trod enc Tryz.prog w base spare held 23 (.agg #[.int .i64 n, .int .i64 m]) (.agg [.lit (.int .i64 n), .lit (.int .i64 m)]) [] := by
 have i0 : ∀ k : Int, (Lit.int .i64 k).wf = true → ∃ f, DataW.trod enc Tryz.prog w base spare held f 3 [.int .i64 k] = some (.lit (.int .i64 k), []) := fun k hk => shut_int Tryz.underlying3 hk
 exact shut_agg2 (y0 := (.lit (.int .i64 n), [])) (y1 := (.lit (.int .i64 m), [])) Tryz.underlying23 kr kr (i0 n w0) (i0 m w1)
theorem alq {H : Type} {enc : TypeId × Value → H} {P : Program} {f : Func} {s : ChangeSpec} {apart : Bool} {W W' : World} {args : Array Value} {v : Value} {ds gs : List (DataW H)}
  (hW : DataW.Whole enc P f.params.toList s.vars apart W args.toList ds gs [])
  (hres : DataW.TrodAll enc P W' W.heap.size (fun _ => false) false f.resultTypes.toList (v.resultList f.resultTypes.size) (s.fn H (ds ++ gs)).results [])
  (hargs : DataW.TrodAll enc P W' 0 (fun b => decide (b < W.heap.size)) true f.params.toList args.toList (s.fn H (ds ++ gs)).args [])
  (hvars : DataW.TrodVars enc P W' (fun b => decide (b < W.heap.size)) s.vars (s.fn H (ds ++ gs)).vars []) (hb : Below W.heap.size W W') :
  s.post enc P f apart true false false W args v W' :=
 ⟨ds, gs, [], [], [], [], hW, hres, hargs, hvars, hb.frame _, fun h => by cases h⟩

def Vi : List (String × DataW Unit) := [("math/bits.deBruijn64tab", Rows.laid_math_bits_deBruijn64tab), ("unicode/utf8.acceptRanges", Rows.laid_unicode_utf8_acceptRanges), ("unicode/utf8.first", Rows.laid_unicode_utf8_first)]
theorem aod : (Rows.laid_math_bits_deBruijn64tab : DataW Unit) = Lib.tabData .u8 (Lib.deBruijn64tab.map fun (n : Nat) => (n : Int)) := by kernel_rfl
theorem amu (l : List Nat) (j : Nat) : (l.map fun (n : Nat) => (n : Int)).getD j 0 = ((l.getD j 0 : Nat) : Int) := by
 rw [List.getD_eq_getElem?_getD, List.getD_eq_getElem?_getD, List.getElem?_map]
 cases l[j]? <;> rfl
theorem ayu {W : World} (h : laidMetH Tryz.prog Vi W) : qa W := by
 rw [MakeChecks.laidMetH_plain _ _ _ kr] at h
 unfold Vi at h
 rw [aod] at h
 have g64 : Tryz.prog.globalNamed "math/bits.deBruijn64tab" = some 1 := by kernel_rfl
 have t64 := Lib.tabIs_of_head g64 (show (Tryz.prog.globals[1]?).map (·.type) = some 229 by kernel_rfl) Tryz.underlying229 Tryz.underlying5 kr kr h
 have cell : ∀ j, j < Lib.deBruijn64tab.length → W.cell? ⟨1, j, none⟩ = some (.int .u8 (Lib.deBruijn64tab.getD j 0)) := fun j hj => by
  have := t64.cell g64 j (by rw [List.length_map]; exact hj)
  rwa [amu] at this
 refine ⟨cell, ?_⟩
 have h0 := cell 0 de
 rcases Nat.lt_or_ge 1 W.heap.size with hlt | hge
 ·
  exact hlt
 ·
  simp [World.cell?, Array.getElem?_eq_none hge] at h0
def avp {H : Type} (f : Nat → Int) (n d : Int) : DataW H := .agg [.agg [.lit (.int .i64 (f 0)), .lit (.int .i64 (f 1)), .lit (.int .i64 (f 2)), .lit (.int .i64 (f 3)), .lit (.int .i64 (f 4)), .lit (.int .i64 (f 5)), .lit (.int .i64 (f 6))], .agg [.lit (.int .i64 n), .lit (.int .i64 d)]]
def wfU (f : Nat → Int) (n d : Int) : Prop := (∀ j, j < 7 → (Lit.int .i64 (f j)).wf = true) ∧ (Lit.int .i64 n).wf = true ∧ (Lit.int .i64 d).wf = true
theorem bfr {α : Type} {cs : Array α} (h : cs.size = 9) : ∃ c0 c1 c2 c3 c4 c5 c6 c7 c8, cs = #[c0, c1, c2, c3, c4, c5, c6, c7, c8] := by
 obtain ⟨l⟩ := cs
 match l, h with
 | [c0, c1, c2, c3, c4, c5, c6, c7, c8], _ => exact ⟨c0, c1, c2, c3, c4, c5, c6, c7, c8, rfl⟩
theorem ach {H : Type} {enc : TypeId × Value → H} {w : World} {base : Nat} {spare : Nat → Bool} {held : Bool} {r : Reach} {b0 : Nat} {v : Value} {d : DataW H} {p : List MemPlace}
  (hv : Value.okWide Tryz.prog w r b0 44 v) (h : DataW.Trod enc Tryz.prog w base spare held 44 v d p) :
  ∃ (f : Nat → Int) (n m : Int), v = .agg #[.int .i64 (f 0), .int .i64 (f 1), .int .i64 (f 2), .int .i64 (f 3), .int .i64 (f 4), .int .i64 (f 5), .int .i64 (f 6), .int .i64 n, .int .i64 m] ∧ d = avp f n m ∧ p = [] ∧ wfU f n m := by
 obtain ⟨cs, rfl, hsz⟩ := okWide_struct Tryz.underlying44 hv
 obtain ⟨c0, c1, c2, c3, c4, c5, c6, c7, c8, rfl⟩ := bfr (hsz.trans (show Tryz.prog.cellsOf 44 = 9 by kernel_rfl))
 obtain ⟨fuel, hf⟩ := h
 obtain ⟨y0, y1, n, hx, _, h0, h1⟩ := trod_struct2 Tryz.underlying44 hf
 have k7 : Tryz.prog.cellsOf 42 = 7 := by kernel_rfl
 have k2 : Tryz.prog.cellsOf 23 = 2 := by kernel_rfl
 have k1 : Tryz.prog.cellsOf 3 = 1 := by kernel_rfl
 have h0' : DataW.trod enc Tryz.prog w base spare held n 42 [c0, c1, c2, c3, c4, c5, c6] = some y0 := by simpa [Value.cells, k7] using h0
 have h1' : DataW.trod enc Tryz.prog w base spare held n 23 [c7, c8] = some y1 := by simpa [Value.cells, k2] using h1
 obtain ⟨z7, z8, m, hy, _, g7, g8⟩ := trod_struct2 Tryz.underlying23 h1'
 have g7' : DataW.trod enc Tryz.prog w base spare held m 3 [c7] = some z7 := by simpa [k1] using g7
 have g8' : DataW.trod enc Tryz.prog w base spare held m 3 [c8] = some z8 := by simpa [k1] using g8
 obtain ⟨xs, m2, _, hy0, _, hl, hel⟩ := DataW.trod_array Tryz.underlying42 h0'
 match xs, hl with
 | [x0, x1, x2, x3, x4, x5, x6], _ =>
 have e0 : DataW.trod enc Tryz.prog w base spare held m2 3 [c0] = some x0 := by simpa [k1] using hel 0 om
 have e1 : DataW.trod enc Tryz.prog w base spare held m2 3 [c1] = some x1 := by simpa [k1] using hel 1 om
 have e2 : DataW.trod enc Tryz.prog w base spare held m2 3 [c2] = some x2 := by simpa [k1] using hel 2 om
 have e3 : DataW.trod enc Tryz.prog w base spare held m2 3 [c3] = some x3 := by simpa [k1] using hel 3 om
 have e4 : DataW.trod enc Tryz.prog w base spare held m2 3 [c4] = some x4 := by simpa [k1] using hel 4 om
 have e5 : DataW.trod enc Tryz.prog w base spare held m2 3 [c5] = some x5 := by simpa [k1] using hel 5 om
 have e6 : DataW.trod enc Tryz.prog w base spare held m2 3 [c6] = some x6 := by simpa [k1] using hel 6 om
 obtain ⟨a0, q0, rfl, w0⟩ := DataW.trod_int Tryz.underlying3 e0
 obtain ⟨a1, q1, rfl, w1⟩ := DataW.trod_int Tryz.underlying3 e1
 obtain ⟨a2, q2, rfl, w2⟩ := DataW.trod_int Tryz.underlying3 e2
 obtain ⟨a3, q3, rfl, w3⟩ := DataW.trod_int Tryz.underlying3 e3
 obtain ⟨a4, q4, rfl, w4⟩ := DataW.trod_int Tryz.underlying3 e4
 obtain ⟨a5, q5, rfl, w5⟩ := DataW.trod_int Tryz.underlying3 e5
 obtain ⟨a6, q6, rfl, w6⟩ := DataW.trod_int Tryz.underlying3 e6
 obtain ⟨a7, q7, rfl, w7⟩ := DataW.trod_int Tryz.underlying3 g7'
 obtain ⟨a8, q8, rfl, w8⟩ := DataW.trod_int Tryz.underlying3 g8'
 simp only [List.cons.injEq, and_true] at q0 q1 q2 q3 q4 q5 q6 q7 q8
 subst q0 q1 q2 q3 q4 q5 q6 q7 q8 hy hy0
 simp only [Prod.mk.injEq] at hx
 refine ⟨fun j => if j = 0 then a0 else if j = 1 then a1 else if j = 2 then a2 else if j = 3 then a3 else if j = 4 then a4 else if j = 5 then a5 else a6, a7, a8, rfl, hx.1, by simpa using hx.2, fun j hj => ?_, w7, w8⟩
 have hc : j = 0 ∨ j = 1 ∨ j = 2 ∨ j = 3 ∨ j = 4 ∨ j = 5 ∨ j = 6 := by omega
 rcases hc with rfl | rfl | rfl | rfl | rfl | rfl | rfl
 ·
  exact w0
 ·
  exact w1
 ·
  exact w2
 ·
  exact w3
 ·
  exact w4
 ·
  exact w5
 ·
  exact w6
theorem aau {H : Type} {enc : TypeId × Value → H} {w : World} {base : Nat} {spare : Nat → Bool} {held : Bool} {f : Nat → Int} (hw : ∀ j, j < 7 → (Lit.int .i64 (f j)).wf = true) :
  DataW.trod enc Tryz.prog w base spare held 2 42 [.int .i64 (f 0), .int .i64 (f 1), .int .i64 (f 2), .int .i64 (f 3), .int .i64 (f 4), .int .i64 (f 5), .int .i64 (f 6)] = some (.agg [.lit (.int .i64 (f 0)), .lit (.int .i64 (f 1)), .lit (.int .i64 (f 2)), .lit (.int .i64 (f 3)), .lit (.int .i64 (f 4)), .lit (.int .i64 (f 5)), .lit (.int .i64 (f 6))], []) := by
 have k7 : Tryz.prog.cellsOf 42 = 7 := by kernel_rfl
 have k1 : Tryz.prog.cellsOf 3 = 1 := by kernel_rfl
 have i0 : ∀ k : Int, (Lit.int .i64 k).wf = true → DataW.trod enc Tryz.prog w base spare held 1 3 [.int .i64 k] = some (.lit (.int .i64 k), []) := fun k hk => trod_int_mk 0 Tryz.underlying3 hk
 have hr : List.range 7 = [0, 1, 2, 3, 4, 5, 6] := rfl
 unfold DataW.trod
 rw [Tryz.underlying42]
 simp [k7, k1, hr, i0 _ (hw 0 om), i0 _ (hw 1 om), i0 _ (hw 2 om), i0 _ (hw 3 om), i0 _ (hw 4 om), i0 _ (hw 5 om), i0 _ (hw 6 om)]
theorem ace {H : Type} {enc : TypeId × Value → H} {w : World} {base : Nat} {spare : Nat → Bool} {held : Bool} {f : Nat → Int} {n d : Int} (hw : wfU f n d) :
  DataW.Trod enc Tryz.prog w base spare held 44 (.agg #[.int .i64 (f 0), .int .i64 (f 1), .int .i64 (f 2), .int .i64 (f 3), .int .i64 (f 4), .int .i64 (f 5), .int .i64 (f 6), .int .i64 n, .int .i64 d]) (avp f n d) [] := by
 have k9 : Tryz.prog.cellsOf 44 = 9 := by kernel_rfl
 have k7 : Tryz.prog.cellsOf 42 = 7 := by kernel_rfl
 have k2 : Tryz.prog.cellsOf 23 = 2 := by kernel_rfl
 have k1 : Tryz.prog.cellsOf 3 = 1 := by kernel_rfl
 have i0 : ∀ k : Int, (Lit.int .i64 k).wf = true → DataW.trod enc Tryz.prog w base spare held 1 3 [.int .i64 k] = some (.lit (.int .i64 k), []) := fun k hk => trod_int_mk 0 Tryz.underlying3 hk
 have r1 := aau (enc := enc) (w := w) (base := base) (spare := spare) (held := held) hw.1
 have r2 := trod_struct2_mk (enc := enc) (P := Tryz.prog) (w := w) (base := base) (spare := spare) (held := held) (n := 1) (cs := [.int .i64 n, .int .i64 d]) (y0 := (.lit (.int .i64 n), [])) (y1 := (.lit (.int .i64 d), [])) Tryz.underlying23 (by simp [k2])
  (by simpa [k1] using i0 n hw.2.1) (by simpa [k1] using i0 d hw.2.2)
 have r3 := trod_struct2_mk (enc := enc) (P := Tryz.prog) (w := w) (base := base) (spare := spare) (held := held) (n := 2) (cs := [.int .i64 (f 0), .int .i64 (f 1), .int .i64 (f 2), .int .i64 (f 3), .int .i64 (f 4), .int .i64 (f 5), .int .i64 (f 6), .int .i64 n, .int .i64 d]) Tryz.underlying44 (by simp [k9])
  (by simpa [k7] using r1) (by simpa [k2] using r2)
 exact ⟨3, by simpa [Value.cells, avp] using r3⟩
end Go.Proofs.YtfgeaakhlcaibaaGreatDoor
