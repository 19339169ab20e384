/- Texts beneath a law of layer 1. -/
import Derived.Test.YtjdnmdlnaoedoaaGreatDoorCu10
import Derived.BigQuiet
set_option maxRecDepth 100000
set_option maxHeartbeats 16000000
namespace Go.Proofs.YtjdnmdlnaoedoaaGreatDoor
open Go.RowKit

namespace Sb
theorem _root_.Go.Proofs.YtjdnmdlnaoedoaaGreatDoor.aT {l : List Oper} {n : Nat} {T : Nat → World → Value → Prop} {a0 : Act} {k : Nat} {t : Tmp} (j : Nat) (h : Rg.waits l k j t = true := by kernel_rfl) : Rg.ji l n T a0 k (.tmp t) (T j) := Rg.blf j h
theorem _root_.Go.Proofs.YtjdnmdlnaoedoaaGreatDoor.aF {l : List Oper} {n : Nat} {T : Nat → World → Value → Prop} {a0 : Act} {k : Nat} {t : Tmp} {c : Value} (h : Rg.Gi l n t = true := by kernel_rfl) (hc : a0.tmps.getD t undef = c := by rfl) : Rg.ji l n T a0 k (.tmp t) (Rg.ax c) := Rg.blg h hc
theorem _root_.Go.Proofs.YtjdnmdlnaoedoaaGreatDoor.sc2 {P : Program} {Q : Exit → Act → World → Prop} {l : List Oper} {n : Nat} {T : Nat → World → Value → Prop} {w V : World} {bs : List Sb.za} {al : List Nat} {a0 : Act} {k F d : Nat} {fn : Func} {ats : Array TypeId} {ty : TypeId} {pos : String} {af : Array Edge} {gd : Option (Nat × Bool)} {x1 x2 : Operand} {A1 A2 : World → Value → Prop} (hF : P.funcs[F]? = some fn) (h1 : Rg.ji l n T a0 k x1 A1) (h2 : Rg.ji l n T a0 k x2 A2) (hc : ∀ (W : World) (v1 v2 : Value), Sb.az w bs V W → A1 W v1 → A2 W v2 → Calls P F #[v1, v2] W fun e w' => ∃ u, e = .returned u ∧ gm W w' ∧ T k w' u) (hn : (!(fn.name == "runtime.NumGoroutine") && fn.body.isSome) = true := by kernel_rfl) (hal : al.contains k = false := by rfl) :
  Rg.Step P Q l n T (Sb.az w bs V) gm al a0 k { dst := some d, op := .call { callee := .value (.func F), args := #[x1, x2], argTypes := ats }, type := ty, pos := pos, after := af, guard := gd } := yu hF hn hal Sb.az.step h1 h2 hc
theorem _root_.Go.Proofs.YtjdnmdlnaoedoaaGreatDoor.tA : (∀ {α : Type} {n : Nat} {a : α} {l : List α}, (a :: l).take (n + 1) = a :: l.take n) ∧ (∀ {α : Type} {l : List α}, l.take 0 = []) ∧ (∀ {α : Type} {n : Nat} {a : α} {l : List α}, (a :: l).drop (n + 1) = l.drop n) ∧ (∀ {α : Type} {l : List α}, l.drop 0 = l) ∧ (∀ {α : Type} {l : List α} {n : Nat} {a : α}, l.toArray.setIfInBounds n a = (l.set n a).toArray) ∧ (∀ {α : Type} {x a : α} {l : List α}, (x :: l).set 0 a = a :: l) ∧ (∀ {α : Type} {x a : α} {l : List α} {n : Nat}, (x :: l).set (n + 1) a = x :: l.set n a) := ⟨Sb.ta0, Sb.ta1, Sb.ta2, Sb.ta3, Sb.ta4, Sb.ta5, Sb.ta6⟩
theorem apb {xn xd yn yd g h a1 b1 n a2 b2 d : Int} (w : World) (u0 : Value) (h0 : ai [.z xn, .z xd] w u0) (u1 : Value) (h1 : ai [.z yn, .z yd] w u1)
  (hg1 : Dh w 143 xn yd g)
  (hg2 : Dh w 143 yn xd h)
  (ha1 : Dh w 144 xn g a1)
  (hb1 : Dh w 144 yn h b1)
  (hm1 : Dh w 135 a1 b1 n)
  (ha2 : Dh w 144 xd h a2)
  (hb2 : Dh w 144 yd g b2)
  (hm2 : Dh w 135 a2 b2 d) :
  Calls Tryz.prog 111 #[u0, u1] w (il (ai [.z n, .z d]) w) := by
 have Ep := hide hg1
 have HG2 := hide hg2
 have HA1 := hide ha1
 have HB1 := hide hb1
 have HM1 := hide hm1
 have HA2 := hide ha2
 have HB2 := hide hb2
 have HM2 := hide hm2
 clear hg1 hg2 ha1 hb1 hm1 ha2 hb2 hm2
 obtain ⟨zz, uy, ru, c0a, rq, Bv, ym, vg, c0b, ve, rfl, f0a, Aw⟩ := Mr h0
 obtain ⟨Cq, Dn, wu, c1a, wm, Eu, n1b, zt, zq, zo, rfl, f1a, Ps⟩ := Mr h1
 go_enter Tryz.func111, Tryz.ntmps111
 go_upto_region 1 with fail
 have hO := (Own.push (T := 74) (ls := zQ) (cs := [.int .i64 0, .bool false, .slice none 0 0, .int .i64 0, .bool false, .slice none 0 0]) (Own.push (T := 74) (ls := [.z yn, .z yd]) (cs := [.int .i64 Cq, .bool Dn, .slice wu (List.length wm) c1a, .int .i64 Eu, .bool n1b, .slice zt (List.length zo) zq]) (Own.push (T := 74) (ls := [.z xn, .z xd]) (cs := [.int .i64 zz, .bool uy, .slice ru (List.length rq) c0a, .int .i64 Bv, .bool ym, .slice vg (List.length ve) c0b]) (Own.nil w) (gu.z f0a (gu.z Aw rfl)) (w.heap.size) rfl) (((gu.z f1a (gu.z Ps rfl)) : gu w [.z yn, .z yd] [.int .i64 Cq, .bool Dn, .slice wu (List.length wm) c1a, .int .i64 Eu, .bool n1b, .slice zt (List.length zo) zq]).below (by repeat (first | exact Below.refl _ _ | refine jc ?_ _))) (w.heap.size + 1) (by simp only [World.size_alloc])) (((gu.vs w [.int .i64 0, .bool false, .slice none 0 0, .int .i64 0, .bool false, .slice none 0 0] rfl) : gu w zQ [.int .i64 0, .bool false, .slice none 0 0, .int .i64 0, .bool false, .slice none 0 0]).below (by repeat (first | exact Below.refl _ _ | refine jc ?_ _))) (w.heap.size + 2) (by simp only [World.size_alloc]))
 generalize ((w.alloc (.cells #[.int .i64 zz, .bool uy, .slice ru (List.length rq) c0a, .int .i64 Bv, .bool ym, .slice vg (List.length ve) c0b] 74)).alloc (.cells #[.int .i64 Cq, .bool Dn, .slice wu (List.length wm) c1a, .int .i64 Eu, .bool n1b, .slice zt (List.length zo) zq] 74)).alloc (.cells #[.int .i64 0, .bool false, .slice none 0 0, .int .i64 0, .bool false, .slice none 0 0] 74) = W0 at *
 have HO := hide hO
 clear hO
 go_upto_region 1 with fail
 go_upto_region 1 with fail
 refine Rg.Ri 14 36 (fun k => if k = 12 then 5 else 6) (Rg.pick [Rg.ax (.pointer (some ⟨w.heap.size, 0, none⟩)), ai [.z xn], Rg.ax (.pointer (some ⟨w.heap.size + 1, 3, none⟩)), ai [.z yd], ai [.z g], Rg.ax (.pointer (some ⟨w.heap.size + 1, 0, none⟩)), ai [.z yn], Rg.ax (.pointer (some ⟨w.heap.size, 3, none⟩)), ai [.z xd], ai [.z h], fun _ _ => True, fun _ _ => True, fun _ _ => True, fun _ _ => True]) (az w [(w.heap.size + 2, 74, zQ), (w.heap.size + 1, 74, [.z yn, .z yd]), (w.heap.size, 74, [.z xn, .z xd])] W0) (EX W0.heap.size 72) (J2 72 3 W0.heap.size 10 11 12 13 [.z g] [.z h]) kr kr kr rfl (Rg.fq.pick ⟨(Eh _), (sw _), (Eh _), (sw _), (sw _), (Eh _), (sw _), (Eh _), (sw _), (sw _), (vw), (vw), (vw), (vw), trivial⟩) (az.start (aa HO)) (fun _ => J2.start) (fun _ _ _ _ h => J2.congr (n := 14) (by decide) h)
  (Rg.ja (Aj (Ez (b := w.heap.size) (off := 0) rfl aF rfl rfl))
   (Rg.ja (Aj (fw ny rf (aT 0) [] [.z xn] [.z xd]))
   (Rg.ja (Aj (Cn (b := w.heap.size + 1) (off := 0) rfl aF rfl rfl))
   (Rg.ja (Aj (fw ny ky (aT 2) [.z yn] [.z yd] []))
   (Rg.ja (Aj (yu Tryz.func143 kr rfl az.step (aT 1) (aT 3) (fun W v0 v1 hG h0 h1 => i2 (aa Ep) hG.bel h0 h1)))
   (Rg.ja (Aj (Ez (b := w.heap.size + 1) (off := 0) rfl aF rfl rfl))
   (Rg.ja (Aj (fw ny ky (aT 5) [] [.z yn] [.z yd]))
   (Rg.ja (Aj (Cn (b := w.heap.size) (off := 0) rfl aF rfl rfl))
   (Rg.ja (Aj (fw ny rf (aT 7) [.z xn] [.z xd] []))
   (Rg.ja (Aj (yu Tryz.func143 kr rfl az.step (aT 6) (aT 8) (fun W v0 v1 hG h0 h1 => i2 (aa HG2) hG.bel h0 h1)))
   (Rg.ja (Oc Ll rfl rfl rfl)
   (Rg.ja (Ot Ll rfl rfl rfl)
   (Rg.ja (Ob (aa HO) Bo kr (aT 4) rfl rfl rfl)
   (Rg.ja (Oq (aa HO) Bo kr (aT 9) rfl rfl rfl)
   Rg.Jt)))))))))))))) ?_
 intro v1 V1 hG1 hJ1 hv1 hne1
 simp only [Rg.puts, Act.put, tA]
 obtain ⟨_, _, hd1, hf1, hg1⟩ := hJ1
 obtain ⟨bpv, e10, axh, bca⟩ := (hf1 trivial).2
 obtain ⟨bpu, e11, axg, bbz⟩ := (hg1 trivial).2
 simp only [e10, e11]
 have hO := Own.Wn (aa HO) hG1.2 axh bca axg bbz (fun h => hd1 trivial trivial (by rw [e10, e11, h]))
 clear axh bca axg bbz hd1 hf1 hg1
 clear HO
 have HO := hide hO
 clear hO hG1 hv1 hne1
 try clear e10 e11
 go_upto_region 2 with fail
 refine Rg.region 19 36 (Rg.pick [Rg.ax (.pointer (some ⟨w.heap.size, 0, none⟩)), ai [.z xn], ai [.z g], ai [.z a1], Rg.ax (.pointer (some ⟨w.heap.size + 1, 0, none⟩)), ai [.z yn], ai [.z h], ai [.z b1], ai [.z n], Rg.ax (.pointer (some ⟨w.heap.size, 3, none⟩)), ai [.z xd], ai [.z h], ai [.z a2], Rg.ax (.pointer (some ⟨w.heap.size + 1, 3, none⟩)), ai [.z yd], ai [.z g], ai [.z b2], ai [.z d], ai [.z n, .z d]]) (az w _ V1) gm [] kr kr rfl (Rg.fq.pick ⟨Rg.ae _, au _, au _, au _, Rg.ae _, au _, au _, au _, au _, Rg.ae _, au _, au _, au _, Rg.ae _, au _, au _, au _, au _, au _, trivial⟩) (az.start (aa HO))
  (ag (Ez (b := w.heap.size) (off := 0) rfl aF rfl rfl)
  (ag (fw ny Uk (aT 0) [] [.z xn] [.z xd])
  (ag (fw ny ky aF [] [.z g] [])
  (ag (sc2 Tryz.func144 (aT 1) (aT 2) (fun W v0 v1 hG h0 h1 => i2 (aa HA1) hG.bel h0 h1))
  (ag (Ez (b := w.heap.size + 1) (off := 0) rfl aF rfl rfl)
  (ag (fw ny Ed (aT 4) [] [.z yn] [.z yd])
  (ag (fw ny me0 aF [] [.z h] [])
  (ag (sc2 Tryz.func144 (aT 5) (aT 6) (fun W v0 v1 hG h0 h1 => i2 (aa HB1) hG.bel h0 h1))
  (ag (sc2 Tryz.func135 (aT 3) (aT 7) (fun W v0 v1 hG h0 h1 => i2 (aa HM1) hG.bel h0 h1))
  (ag (Cn (b := w.heap.size) (off := 0) rfl aF rfl rfl)
  (ag (fw ny Uk (aT 9) [.z xn] [.z xd] [])
  (ag (fw ny me0 aF [] [.z h] [])
  (ag (sc2 Tryz.func144 (aT 10) (aT 11) (fun W v0 v1 hG h0 h1 => i2 (aa HA2) hG.bel h0 h1))
  (ag (Cn (b := w.heap.size + 1) (off := 0) rfl aF rfl rfl)
  (ag (fw ny Ed (aT 13) [.z yn] [.z yd] [])
  (ag (fw ny ky aF [] [.z g] [])
  (ag (sc2 Tryz.func144 (aT 14) (aT 15) (fun W v0 v1 hG h0 h1 => i2 (aa HB2) hG.bel h0 h1))
  (ag (sc2 Tryz.func135 (aT 12) (aT 16) (fun W v0 v1 hG h0 h1 => i2 (aa HM2) hG.bel h0 h1))
  (ag (xx acj rfl (aT 8) (aT 17) rfl rfl rfl)
  Rg.bg))))))))))))))))))) ?_
 intro v2 V2 hG2 hv2 hne2
 simp only [Rg.puts, Act.put, tA]
 have hO := hG2.1
 refine jd hO 2 [] zQ [.z n, .z d] [] rfl zb rfl (show ai [.z n, .z d] V2 (v2 18) from hv2 18 (by decide)) rfl rfl rfl ?_
 intro yg gy hk0
 replace hO := gy
 clear gy
 clear HO
 have HO := hide hO
 clear hO hG2 hv2 hne2 hk0
 go_wp2_with fail
 exact xu Tryz.results111 Kw rfl (aa HO) rf rfl rfl
theorem apf {xn xd yn yd g p q m1 m2 n h a e d : Int} (w : World) (u0 : Value) (h0 : ai [.z xn, .z xd] w u0) (u1 : Value) (h1 : ai [.z yn, .z yd] w u1)
  (h1k : Dh w 143 xd yd g)
  (h2k : Dh w 144 xd g p)
  (h3k : Dh w 144 yd g q)
  (h4k : Dh w 135 xn q m1)
  (h5k : Dh w 135 yn p m2)
  (h6k : Dh w 145 m1 m2 n)
  (h7k : Dh w 143 g n h)
  (h8k : Dh w 144 n h a)
  (h9k : Dh w 144 yd h e)
  (bdr : Dh w 135 p e d) :
  Calls Tryz.prog 78 #[u0, u1] w (il (ai [.z a, .z d]) w) := by
 have H1 := hide h1k
 have H2 := hide h2k
 have H3 := hide h3k
 have H4 := hide h4k
 have H5 := hide h5k
 have H6 := hide h6k
 have H7 := hide h7k
 have H8 := hide h8k
 have H9 := hide h9k
 have H10 := hide bdr
 clear h1k h2k h3k h4k h5k h6k h7k h8k h9k bdr
 obtain ⟨zz, uy, ru, c0a, rq, Bv, ym, vg, c0b, ve, rfl, f0a, Aw⟩ := Mr h0
 obtain ⟨Cq, Dn, wu, c1a, wm, Eu, n1b, zt, zq, zo, rfl, f1a, Ps⟩ := Mr h1
 go_enter Tryz.func78, Tryz.ntmps78
 go_upto_region 1 with fail
 have hO := (Own.push (T := 74) (ls := zQ) (cs := [.int .i64 0, .bool false, .slice none 0 0, .int .i64 0, .bool false, .slice none 0 0]) (Own.push (T := 74) (ls := [.z yn, .z yd]) (cs := [.int .i64 Cq, .bool Dn, .slice wu (List.length wm) c1a, .int .i64 Eu, .bool n1b, .slice zt (List.length zo) zq]) (Own.push (T := 74) (ls := [.z xn, .z xd]) (cs := [.int .i64 zz, .bool uy, .slice ru (List.length rq) c0a, .int .i64 Bv, .bool ym, .slice vg (List.length ve) c0b]) (Own.nil w) (gu.z f0a (gu.z Aw rfl)) (w.heap.size) rfl) (((gu.z f1a (gu.z Ps rfl)) : gu w [.z yn, .z yd] [.int .i64 Cq, .bool Dn, .slice wu (List.length wm) c1a, .int .i64 Eu, .bool n1b, .slice zt (List.length zo) zq]).below (by repeat (first | exact Below.refl _ _ | refine jc ?_ _))) (w.heap.size + 1) (by simp only [World.size_alloc])) (((gu.vs w [.int .i64 0, .bool false, .slice none 0 0, .int .i64 0, .bool false, .slice none 0 0] rfl) : gu w zQ [.int .i64 0, .bool false, .slice none 0 0, .int .i64 0, .bool false, .slice none 0 0]).below (by repeat (first | exact Below.refl _ _ | refine jc ?_ _))) (w.heap.size + 2) (by simp only [World.size_alloc]))
 generalize ((w.alloc (.cells #[.int .i64 zz, .bool uy, .slice ru (List.length rq) c0a, .int .i64 Bv, .bool ym, .slice vg (List.length ve) c0b] 74)).alloc (.cells #[.int .i64 Cq, .bool Dn, .slice wu (List.length wm) c1a, .int .i64 Eu, .bool n1b, .slice zt (List.length zo) zq] 74)).alloc (.cells #[.int .i64 0, .bool false, .slice none 0 0, .int .i64 0, .bool false, .slice none 0 0] 74) = W0 at *
 have HO := hide hO
 clear hO
 go_upto_region 1 with fail
 refine Rg.dz 6 45 (Rg.pick [Rg.ax (.pointer (some ⟨w.heap.size, 3, none⟩)), ai [.z xd], Rg.ax (.pointer (some ⟨w.heap.size + 1, 3, none⟩)), ai [.z yd], ai [.z g], qf 72 zZ W0.heap.size]) (az w _ W0) gm [5] kr rfl (Rg.fq.pick ⟨Rg.ae _, au _, Rg.ae _, au _, au _, qh _ _ _, trivial⟩) (az.begin (aa HO))
  (ag (Cn (b := w.heap.size) (off := 0) rfl aF rfl rfl)
  (ag (fw ny rf (aT 0) [.z xn] [.z xd] [])
  (ag (Cn (b := w.heap.size + 1) (off := 0) rfl aF rfl rfl)
  (ag (fw ny ky (aT 2) [.z yn] [.z yd] [])
  (ag (sc2 Tryz.func143 (aT 1) (aT 3) (fun W v0 v1 hG h0 h1 => i2 (aa H1) hG.bel h0 h1))
  (ag (si Ll rfl az.step az.size rfl (uw (by intro j hj; simp at hj; (repeat' (first | (rcases hj with rfl | hj))) <;> first | (subst hj; exact ⟨_, _, _, rfl⟩) | exact ⟨_, _, _, rfl⟩)))
  Rg.bg)))))) ?_
 intro v1 V1 hG1 hv1 hne1
 simp only [Rg.puts, Act.put, tA]
 obtain ⟨ahw, e5, Pp, Vm⟩ := (show qf 72 zZ W0.heap.size V1 (v1 5) from hv1 5 (by decide))
 simp only [e5]
 have hO := hG1.1
 replace hO := Own.add (aa HO) hG1.2 Pp Vm
 clear Pp Vm
 refine jd hO 0 [] zZ [.z g] [] rfl Bo rfl (show ai [.z g] V1 (v1 4) from hv1 4 (by decide)) rfl rfl rfl ?_
 intro uo gy hk0
 replace hO := gy
 clear gy
 clear HO
 have HO := hide hO
 clear hO hG1 hv1 hne1 hk0
 try clear e5
 go_upto_region 2 with fail
 go_upto_region 2 with fail
 refine Rg.Ri 12 45 (fun k => if k = 10 then 6 else 7) (Rg.pick [Rg.ax (.pointer (some ⟨w.heap.size, 3, none⟩)), ai [.z xd], ai [.z g], ai [.z p], Rg.ax (.pointer (some ⟨w.heap.size + 1, 3, none⟩)), ai [.z yd], ai [.z g], ai [.z q], fun _ _ => True, fun _ _ => True, fun _ _ => True, fun _ _ => True]) (az w [(ahw, 72, [.z g]), (w.heap.size + 2, 74, zQ), (w.heap.size + 1, 74, [.z yn, .z yd]), (w.heap.size, 74, [.z xn, .z xd])] uo) (EX uo.heap.size 72) (J2 72 3 uo.heap.size 8 9 10 11 [.z p] [.z q]) kr kr kr rfl (Rg.fq.pick ⟨(Eh _), (sw _), (sw _), (sw _), (Eh _), (sw _), (sw _), (sw _), (vw), (vw), (vw), (vw), trivial⟩) (az.start (aa HO)) (fun _ => J2.start) (fun _ _ _ _ h => J2.congr (n := 12) (by decide) h)
  (Rg.ja (Aj (Cn (b := w.heap.size) (off := 0) rfl aF rfl rfl))
   (Rg.ja (Aj (fw ny Ed (aT 0) [.z xn] [.z xd] []))
   (Rg.ja (Aj (fw ny me0 aF [] [.z g] []))
   (Rg.ja (Aj (yu Tryz.func144 kr rfl az.step (aT 1) (aT 2) (fun W v0 v1 hG h0 h1 => i2 (aa H2) hG.bel h0 h1)))
   (Rg.ja (Aj (Cn (b := w.heap.size + 1) (off := 0) rfl aF rfl rfl))
   (Rg.ja (Aj (fw ny rf (aT 4) [.z yn] [.z yd] []))
   (Rg.ja (Aj (fw ny me0 aF [] [.z g] []))
   (Rg.ja (Aj (yu Tryz.func144 kr rfl az.step (aT 5) (aT 6) (fun W v0 v1 hG h0 h1 => i2 (aa H3) hG.bel h0 h1)))
   (Rg.ja (Oc Ll rfl rfl rfl)
   (Rg.ja (Ot Ll rfl rfl rfl)
   (Rg.ja (Ob (aa HO) Bo kr (aT 3) rfl rfl rfl)
   (Rg.ja (Oq (aa HO) Bo kr (aT 7) rfl rfl rfl)
   Rg.Jt)))))))))))) ?_
 intro v2 V2 hG2 hJ2 hv2 hne2
 simp only [Rg.puts, Act.put, tA]
 obtain ⟨_, _, hd2, hf2, hg2⟩ := hJ2
 obtain ⟨blb, e8, Vs, hz8⟩ := (hf2 trivial).2
 obtain ⟨bqt, e9, Vr, hz9⟩ := (hg2 trivial).2
 simp only [e8, e9]
 have hO := Own.Wn (aa HO) hG2.2 Vs hz8 Vr hz9 (fun h => hd2 trivial trivial (by rw [e8, e9, h]))
 clear Vs hz8 Vr hz9 hd2 hf2 hg2
 clear HO
 have HO := hide hO
 clear hO hG2 hv2 hne2
 try clear e8 e9
 go_upto_region 3 with fail
 go_upto_region 3 with fail
 refine Rg.ajo 11 45 (fun _ => 8) (Rg.pick [Rg.ax (.pointer (some ⟨w.heap.size, 0, none⟩)), ai [.z xn], ai [.z q], ai [.z m1], Rg.ax (.pointer (some ⟨w.heap.size + 1, 0, none⟩)), ai [.z yn], ai [.z p], ai [.z m2], ai [.z n], Jd 72 3 V2.heap.size, Jf 72 [.z n] V2.heap.size]) (az w _ V2) (EN V2.heap.size 72 [.z n]) kr kr kr rfl (Rg.fq.pick ⟨(Km _), (Db _), (Db _), (Db _), (Km _), (Db _), (Db _), (Db _), (Db _), (aab), (acy), trivial⟩) (az.start (aa HO))
  (Rg.rz (Rg.zk rfl rfl (vv (Ez (b := w.heap.size) (off := 0) rfl aF rfl rfl)))
   (Rg.rz (Rg.zk rfl rfl (vv (fw ny me5 (aT 0) [] [.z xn] [.z xd])))
   (Rg.rz (Rg.zk rfl rfl (vv (fw ny me0 aF [] [.z q] [])))
   (Rg.rz (Rg.zk rfl rfl (vv (yu Tryz.func135 kr rfl az.step (aT 1) (aT 2) (fun W v0 v1 hG h0 h1 => i2 (aa H4) hG.bel h0 h1))))
   (Rg.rz (Rg.zk rfl rfl (vv (Ez (b := w.heap.size + 1) (off := 0) rfl aF rfl rfl)))
   (Rg.rz (Rg.zk rfl rfl (vv (fw ny Uk (aT 4) [] [.z yn] [.z yd])))
   (Rg.rz (Rg.zk rfl rfl (vv (fw ny ky aF [] [.z p] [])))
   (Rg.rz (Rg.zk rfl rfl (vv (yu Tryz.func135 kr rfl az.step (aT 5) (aT 6) (fun W v0 v1 hG h0 h1 => i2 (aa H5) hG.bel h0 h1))))
   (Rg.rz (Rg.zk rfl rfl (vv (yu Tryz.func145 kr rfl az.step (aT 3) (aT 7) (fun W v0 v1 hG h0 h1 => i2 (aa H6) hG.bel h0 h1))))
   (Rg.rz (Rg.zk rfl rfl (vv (afh Ll rfl rfl az.step az.size rfl)))
   (Rg.rz (afe (aa HO) Bo (aT 9) (aT 8) rfl rfl rfl)
   Rg.aaa))))))))))) ?_
 intro v3 V3 hG3 hv3 mf
 simp only [Rg.puts, Act.put, tA]
 have e0 : v3 0 = .pointer (some ⟨w.heap.size, 0, none⟩) := hv3 0 (by decide)
 have e4 : v3 4 = .pointer (some ⟨w.heap.size + 1, 0, none⟩) := hv3 4 (by decide)
 have e99 : v3 10 = v3 9 := mf 10 9 (by decide) (by decide) rfl rfl
 obtain ⟨bqq, e9, Vr, hz9⟩ := (show Jf 72 [.z n] V2.heap.size V3 (v3 10) from hv3 10 (by decide))
 rw [e99] at e9
 clear e99
 simp only [e0, e4, e9]
 have hO := Own.add (aa HO) hG3.2 Vr hz9
 clear Vr hz9
 clear HO
 have HO := hide hO
 clear hO hG3 hv3 mf
 try clear e0 e4 e9
 go_upto_region 4 with fail
 refine Rg.dz 4 45 (Rg.pick [ai [.z g], ai [.z n], ai [.z h], qf 72 zZ V3.heap.size]) (az w _ V3) gm [3] kr rfl (Rg.fq.pick ⟨au _, au _, au _, qh _ _ _, trivial⟩) (az.begin (aa HO))
  (ag (fw ny Ed aF [] [.z g] [])
  (ag (fw ny me0 aF [] [.z n] [])
  (ag (sc2 Tryz.func143 (aT 0) (aT 1) (fun W v0 v1 hG h0 h1 => i2 (aa H7) hG.bel h0 h1))
  (ag (si Ll rfl az.step az.size rfl (uw (by intro j hj; simp at hj; (repeat' (first | (rcases hj with rfl | hj))) <;> first | (subst hj; exact ⟨_, _, _, rfl⟩) | exact ⟨_, _, _, rfl⟩)))
  Rg.bg)))) ?_
 intro v4 V4 hG4 hv4 ry
 simp only [Rg.puts, Act.put, tA]
 obtain ⟨bqp, e3, Vt, hz3⟩ := (show qf 72 zZ V3.heap.size V4 (v4 3) from hv4 3 (by decide))
 simp only [e3]
 have hO := hG4.1
 replace hO := Own.add (aa HO) hG4.2 Vt hz3
 clear Vt hz3
 refine jd hO 0 [] zZ [.z h] [] rfl Bo rfl (show ai [.z h] V4 (v4 2) from hv4 2 (by decide)) rfl rfl rfl ?_
 intro Ig gy hk0
 replace hO := gy
 clear gy
 clear HO
 have HO := hide hO
 clear hO hG4 hv4 ry hk0
 try clear e3
 go_upto_region 5 with fail
 refine Rg.region 10 45 (Rg.pick [ai [.z n], ai [.z h], ai [.z a], ai [.z p], Rg.ax (.pointer (some ⟨w.heap.size + 1, 3, none⟩)), ai [.z yd], ai [.z h], ai [.z e], ai [.z d], ai [.z a, .z d]]) (az w _ Ig) gm [] kr kr rfl (Rg.fq.pick ⟨au _, au _, au _, au _, Rg.ae _, au _, au _, au _, au _, au _, trivial⟩) (az.start (aa HO))
  (ag (fw ny ky aF [] [.z n] [])
  (ag (fw ny me0 aF [] [.z h] [])
  (ag (sc2 Tryz.func144 (aT 0) (aT 1) (fun W v0 v1 hG h0 h1 => i2 (aa H8) hG.bel h0 h1))
  (ag (fw ny Ed aF [] [.z p] [])
  (ag (Cn (b := w.heap.size + 1) (off := 0) rfl aF rfl rfl)
  (ag (fw ny me6 (aT 4) [.z yn] [.z yd] [])
  (ag (fw ny me0 aF [] [.z h] [])
  (ag (sc2 Tryz.func144 (aT 5) (aT 6) (fun W v0 v1 hG h0 h1 => i2 (aa H9) hG.bel h0 h1))
  (ag (sc2 Tryz.func135 (aT 3) (aT 7) (fun W v0 v1 hG h0 h1 => i2 (aa H10) hG.bel h0 h1))
  (ag (xx acj rfl (aT 2) (aT 8) rfl rfl rfl)
  Rg.bg)))))))))) ?_
 intro v5 V5 xq hv5 hne5
 simp only [Rg.puts, Act.put, tA]
 have hO := xq.1
 refine jd hO 5 [] zQ [.z a, .z d] [] rfl zb rfl (show ai [.z a, .z d] V5 (v5 9) from hv5 9 (by decide)) rfl rfl rfl ?_
 intro Ld gy hk0
 replace hO := gy
 clear gy
 clear HO
 have HO := hide hO
 clear hO xq hv5 hne5 hk0
 go_wp2_with fail
 exact xu Tryz.results78 Kw rfl (aa HO) me5 rfl rfl
end Sb

end Go.Proofs.YtjdnmdlnaoedoaaGreatDoor
namespace Go.Proofs.YtjdnmdlnaoedoaaGreatDoor
open Go.RowKit Sb

theorem ajr {w : World} {K : Nat} (hT : qy w) (x y : Rat) (hx : Ag K x) (hy : Ag K y) (hK : K + K + 1 ≤ lim) : Le w 78 x y (x + y) ∧ Ag (K + K + 1) (x + y) := by
 have dx : (x.den : Int) ≠ 0 := by have := x.den_pos; omega
 have dy : (y.den : Int) ≠ 0 := by have := y.den_pos; omega
 obtain ⟨g, hg⟩ : ∃ g, g = x.den.gcd y.den := ⟨_, rfl⟩
 obtain ⟨xd, hxd⟩ : ∃ z, z = (x.den : Int).tdiv g := ⟨_, rfl⟩
 obtain ⟨yd, hyd⟩ : ∃ z, z = (y.den : Int).tdiv g := ⟨_, rfl⟩
 obtain ⟨m1, hm1⟩ : ∃ z, z = x.num * yd := ⟨_, rfl⟩
 obtain ⟨m2, hm2⟩ : ∃ z, z = y.num * xd := ⟨_, rfl⟩
 obtain ⟨n, hn⟩ : ∃ z, z = m1 + m2 := ⟨_, rfl⟩
 obtain ⟨h, hh⟩ : ∃ h, h = g.gcd n.natAbs := ⟨_, rfl⟩
 obtain ⟨e1, he1⟩ : ∃ z, z = (y.den : Int).tdiv h := ⟨_, rfl⟩
 have hp := Wd.aei x y g h n hg (by rw [hn, hm1, hm2, hxd, hyd]) hh
 have g0 : 0 < g := by rw [hg]; exact Nat.gcd_pos_of_pos_left _ x.den_pos
 have h0 : 0 < h := by rw [hh]; exact Nat.gcd_pos_of_pos_left _ g0
 have sg : Wd.Sz fo K (g : Int) := by
  have := hx.2.gcd_left (b := (y.den : Int)) dx
  simpa [hg] using this
 have sh : Wd.Sz fo K (h : Int) := by
  have := sg.gcd_left (b := n) om
  simpa [hh] using this
 have sxd : Wd.Sz fo K xd := by rw [hxd]; exact hx.2.tdiv _
 have syd : Wd.Sz fo K yd := by rw [hyd]; exact hy.2.tdiv _
 have sm1 : Wd.Sz fo (K + K) m1 := by rw [hm1]; exact hx.1.mul syd
 have sm2 : Wd.Sz fo (K + K) m2 := by rw [hm2]; exact hy.1.mul sxd
 have sn : Wd.Sz fo (K + K + 1) n := by rw [hn]; exact sm1.add qj sm2
 have se1 : Wd.Sz fo K e1 := by rw [he1]; exact hy.2.tdiv _
 have B := qj
 have up : ∀ z, Wd.Sz fo K z → Wd.Sz fo (K + K + 1) z := fun z hz => hz.mono B om
 refine ⟨?_, ⟨by rw [hp.1]; exact sn.tdiv _, by rw [hp.2]; exact ((hx.2.tdiv _).mul (hy.2.tdiv _)).mono B om⟩⟩
 rw [Le, hp.1, hp.2]
 exact fun s1 dw A1 c1 l1 s2 ek A2 c2 l2 s3 Dm A3 c3 l3 s4 Dt A4 c4 l4 W hW f1 f2 f3 f4 => (apf W _ ⟨_, rfl, gu.z f1 (gu.z f2 rfl)⟩ _ ⟨_, rfl, gu.z f3 (gu.z f4 rfl)⟩
  (Rm (hT.below hW) (up _ hx.2) (up _ hy.2) hK (by simp [hg])) (Ev (up _ hx.2) (up _ sg) hK om hxd) (Ev (up _ hy.2) (up _ sg) hK om hyd)
  (Jy (up _ hx.1) (up _ syd) hK hm1) (Jy (up _ hy.1) (up _ sxd) hK hm2) (apy (sm1.mono B om) (sm2.mono B om) hK hn)
  (Rm (hT.below hW) (up _ sg) sn hK (by simp [hh])) (Ev sn (up _ sh) hK om rfl) (Ev (up _ hy.2) (up _ sh) hK om he1) (Jy (up _ sxd) (up _ se1) hK (by rw [hxd, he1]))).mono fun _ _ h => apo h

theorem abw {w : World} {K : Nat} (hT : qy w) (x y : Rat) (hx : Ag K x) (hy : Ag K y) (hK : K + K + 1 ≤ lim) : Le w 111 x y (x * y) ∧ Ag (K + K) (x * y) := by
 have dx : (x.den : Int) ≠ 0 := by have := x.den_pos; omega
 have dy : (y.den : Int) ≠ 0 := by have := y.den_pos; omega
 obtain ⟨g, hg⟩ : ∃ g, g = x.num.natAbs.gcd y.den := ⟨_, rfl⟩
 obtain ⟨h, hh⟩ : ∃ h, h = y.num.natAbs.gcd x.den := ⟨_, rfl⟩
 obtain ⟨a1, ha1⟩ : ∃ z, z = x.num.tdiv g := ⟨_, rfl⟩
 obtain ⟨b1, hb1⟩ : ∃ z, z = y.num.tdiv h := ⟨_, rfl⟩
 obtain ⟨a2, ha2⟩ : ∃ z, z = (x.den : Int).tdiv h := ⟨_, rfl⟩
 obtain ⟨b2, hb2⟩ : ∃ z, z = (y.den : Int).tdiv g := ⟨_, rfl⟩
 have hp := Wd.aed x y g h hg hh
 have g0 : 0 < g := by rw [hg]; exact Nat.gcd_pos_of_pos_right _ y.den_pos
 have h0 : 0 < h := by rw [hh]; exact Nat.gcd_pos_of_pos_right _ x.den_pos
 have sg : Wd.Sz fo K (g : Int) := by
  have := hy.2.gcd_right (a := x.num) dy
  simpa [hg] using this
 have sh : Wd.Sz fo K (h : Int) := by
  have := hx.2.gcd_right (a := y.num) dx
  simpa [hh] using this
 have sa1 : Wd.Sz fo K a1 := by rw [ha1]; exact hx.1.tdiv _
 have sb1 : Wd.Sz fo K b1 := by rw [hb1]; exact hy.1.tdiv _
 have sa2 : Wd.Sz fo K a2 := by rw [ha2]; exact hx.2.tdiv _
 have sb2 : Wd.Sz fo K b2 := by rw [hb2]; exact hy.2.tdiv _
 have hK1 : K ≤ lim := by omega
 refine ⟨?_, ⟨by rw [hp.1, ← ha1, ← hb1]; exact sa1.mul sb1, by rw [hp.2, ← ha2, ← hb2]; exact sa2.mul sb2⟩⟩
 rw [Le, hp.1, hp.2]
 exact fun s1 dw A1 c1 l1 s2 ek A2 c2 l2 s3 Dm A3 c3 l3 s4 Dt A4 c4 l4 W hW f1 f2 f3 f4 => (apb W _ ⟨_, rfl, gu.z f1 (gu.z f2 rfl)⟩ _ ⟨_, rfl, gu.z f3 (gu.z f4 rfl)⟩
  (Rm (hT.below hW) hx.1 hy.2 hK1 (by simp [hg])) (Rm (hT.below hW) hy.1 hx.2 hK1 (by simp [hh])) (Ev hx.1 sg hK1 om ha1) (Ev hy.1 sh hK1 om hb1)
  (Jy sa1 sb1 hK1 (by rw [ha1, hb1])) (Ev hx.2 sh hK1 om ha2) (Ev hy.2 sg hK1 om hb2) (Jy sa2 sb2 hK1 (by rw [ha2, hb2]))).mono fun _ _ h => apo h

end Go.Proofs.YtjdnmdlnaoedoaaGreatDoor
namespace Go.Proofs.YtjdnmdlnaoedoaaGreatDoor
open Go.RowKit Sb

namespace Sb
theorem bbj {w w' : World} {q : Rat} {e : Ending} (h : il (ai [.q q]) w e w') : Hy w q.num (q.den : Int) e w' := by
 obtain ⟨u, rfl, hb, h⟩ := h
 obtain ⟨s1, n1, A1, c1, l1, s2, n2, A2, c2, l2, rfl, f1, f2⟩ := Hu h
 exact ⟨_, _, _, _, _, _, _, _, _, _, rfl, f1, f2, hb⟩
theorem q1b {F : Nat} {x q : Rat} {w W : World} {v0 : Value} (h : Uh w F x q) (hb : Below w.heap.size w W) (h0 : ai [.q x] W v0) : Calls Tryz.prog F #[v0] W (il (ai [.q q]) W) := axm (h.mono hb) h0
theorem q2b {F : Nat} {x y q : Rat} {w W : World} {v0 v1 : Value} (h : Le w F x y q) (hb : Below w.heap.size w W) (h0 : ai [.q x] W v0) (h1 : ai [.q y] W v1) : Calls Tryz.prog F #[v0, v1] W (il (ai [.q q]) W) := aeo (h.mono hb) h0 h1
theorem _root_.Go.Proofs.YtjdnmdlnaoedoaaGreatDoor.sc1 {P : Program} {Q : Exit → Act → World → Prop} {l : List Oper} {n : Nat} {T : Nat → World → Value → Prop} {w V : World} {bs : List Sb.za} {al : List Nat} {a0 : Act} {k F d : Nat} {fn : Func} {ats : Array TypeId} {ty : TypeId} {pos : String} {af : Array Edge} {gd : Option (Nat × Bool)} {x1 : Operand} {A1 : World → Value → Prop} (hF : P.funcs[F]? = some fn) (h1 : Rg.ji l n T a0 k x1 A1) (hc : ∀ (W : World) (v1 : Value), Sb.az w bs V W → A1 W v1 → Calls P F #[v1] W fun e w' => ∃ u, e = .returned u ∧ gm W w' ∧ T k w' u) (hn : (!(fn.name == "runtime.NumGoroutine") && fn.body.isSome) = true := by kernel_rfl) (hal : al.contains k = false := by rfl) :
  Rg.Step P Q l n T (Sb.az w bs V) gm al a0 k { dst := some d, op := .call { callee := .value (.func F), args := #[x1], argTypes := ats }, type := ty, pos := pos, after := af, guard := gd } := wh hF hn hal Sb.az.step h1 hc
theorem aoy {x y v q : Rat} (w : World) (u0 : Value) (h0 : ai [.q x] w u0) (u1 : Value) (h1 : ai [.q y] w u1) (g1 : Uh w 79 y v) (g2 : Le w 111 x v q) :
  Calls Tryz.prog 113 #[u0, u1] w (il (ai [.q q]) w) := by
 have H1 := hide g1
 have H2 := hide g2
 clear g1 g2
 obtain ⟨zz, uy, ru, c0a, rq, Bv, ym, vg, c0b, ve, rfl, f0a, Aw⟩ := Hu h0
 obtain ⟨Cq, Dn, wu, c1a, wm, Eu, n1b, zt, zq, zo, rfl, f1a, Ps⟩ := Hu h1
 go_enter Tryz.func113, Tryz.ntmps113
 go_upto_region 1 with fail
 have hO := (Own.push (T := 74) (ls := zQ) (cs := [.int .i64 0, .bool false, .slice none 0 0, .int .i64 0, .bool false, .slice none 0 0]) (Own.push (T := 74) (ls := [.q y]) (cs := [.int .i64 Cq, .bool Dn, .slice wu (List.length wm) c1a, .int .i64 Eu, .bool n1b, .slice zt (List.length zo) zq]) (Own.push (T := 74) (ls := [.q x]) (cs := [.int .i64 zz, .bool uy, .slice ru (List.length rq) c0a, .int .i64 Bv, .bool ym, .slice vg (List.length ve) c0b]) (Own.nil w) (gu.q f0a Aw rfl) (w.heap.size) rfl) (((gu.q f1a Ps rfl) : gu w [.q y] [.int .i64 Cq, .bool Dn, .slice wu (List.length wm) c1a, .int .i64 Eu, .bool n1b, .slice zt (List.length zo) zq]).below (by repeat (first | exact Below.refl _ _ | refine jc ?_ _))) (w.heap.size + 1) (by simp only [World.size_alloc])) (((gu.vs w [.int .i64 0, .bool false, .slice none 0 0, .int .i64 0, .bool false, .slice none 0 0] rfl) : gu w zQ [.int .i64 0, .bool false, .slice none 0 0, .int .i64 0, .bool false, .slice none 0 0]).below (by repeat (first | exact Below.refl _ _ | refine jc ?_ _))) (w.heap.size + 2) (by simp only [World.size_alloc]))
 generalize ((w.alloc (.cells #[.int .i64 zz, .bool uy, .slice ru (List.length rq) c0a, .int .i64 Bv, .bool ym, .slice vg (List.length ve) c0b] 74)).alloc (.cells #[.int .i64 Cq, .bool Dn, .slice wu (List.length wm) c1a, .int .i64 Eu, .bool n1b, .slice zt (List.length zo) zq] 74)).alloc (.cells #[.int .i64 0, .bool false, .slice none 0 0, .int .i64 0, .bool false, .slice none 0 0] 74) = W0 at *
 have HO := hide hO
 clear hO
 go_upto_region 1 with fail
 refine Rg.region 4 9 (Rg.pick [ai [.q x], ai [.q y], ai [.q v], ai [.q q]]) (az w _ W0) gm [] kr kr rfl (Rg.fq.pick ⟨au _, au _, au _, au _, trivial⟩) (az.start (aa HO))
  (ag (fw lu rf aF [] [.q x] [])
  (ag (fw lu ky aF [] [.q y] [])
  (ag (sc1 Tryz.func79 (aT 1) (fun W v0 hG h0 => q1b (aa H1) hG.bel h0))
  (ag (sc2 Tryz.func111 (aT 0) (aT 2) (fun W v0 v1 hG h0 h1 => q2b (aa H2) hG.bel h0 h1))
  Rg.bg)))) ?_
 intro v1 V1 hG1 hv1 hne1
 simp only [Rg.puts, Act.put, tA]
 have hO := hG1.1
 refine jd hO 0 [] zQ [.q q] [] rfl zb rfl (show ai [.q q] V1 (v1 3) from hv1 3 (by decide)) rfl rfl rfl ?_
 intro uo gy hk0
 replace hO := gy
 clear gy
 clear HO
 have HO := hide hO
 clear hO hG1 hv1 hne1 hk0
 go_wp2_with fail
 exact xu Tryz.results113 Kw rfl (aa HO) me0 rfl rfl
theorem alv {w : World} {x y v q : Rat} (g1 : Uh w 79 y v) (g2 : Le w 111 x v q) : Le w 113 x y q :=
 fun _ _ _ _ _ _ _ _ _ _ _ _ _ _ _ _ _ _ _ _ W hW f1 f2 f3 f4 => (aoy W _ ⟨_, rfl, gu.q f1 f2 rfl⟩ _ ⟨_, rfl, gu.q f3 f4 rfl⟩ (g1.mono hW) (g2.mono hW)).mono fun _ _ h => bbj h
end Sb
theorem ajq {w : World} {K : Nat} (hT : qy w) (x y : Rat) (hx : Ag K x) (hy : Ag K y) (hK : K + K + 1 ≤ lim) (h0 : y.num ≠ 0) : Le w 113 x y (x / y) ∧ Ag (K + K) (x / y) := by
 obtain ⟨a, b⟩ := abw hT x (y⁻¹) hx (hy.inv h0) hK
 rw [Rat.div_def]
 exact ⟨alv (azf w y h0) a, b⟩

end Go.Proofs.YtjdnmdlnaoedoaaGreatDoor
namespace Go.Proofs.YtjdnmdlnaoedoaaGreatDoor
open Go.RowKit

def OpC (w : World) (F : Nat) (x y : Rat) (o : Int) : Prop := ∀ (s1 : Int) (dw : Bool) (A1 : Option Addr) (c1 : Nat) (l1 : List Nat) (s2 : Int) (ek : Bool) (A2 : Option Addr) (c2 : Nat) (l2 : List Nat) (s3 : Int) (Dm : Bool) (A3 : Option Addr) (c3 : Nat) (l3 : List Nat) (s4 : Int) (Dt : Bool) (A4 : Option Addr) (c4 : Nat) (l4 : List Nat) (W : World), Below w.heap.size w W → ig W s1 dw A1 c1 l1 x.num → ig W s2 ek A2 c2 l2 (x.den : Int) → ig W s3 Dm A3 c3 l3 y.num → ig W s4 Dt A4 c4 l4 (y.den : Int) → Calls Tryz.prog F #[(Value.agg #[.int .i64 s1, .bool dw, .slice A1 l1.length c1, .int .i64 s2, .bool ek, .slice A2 l2.length c2]), (Value.agg #[.int .i64 s3, .bool Dm, .slice A3 l3.length c3, .int .i64 s4, .bool Dt, .slice A4 l4.length c4])] W fun e w' => e = .returned (.int .i64 o) ∧ Below W.heap.size W w'
theorem apd (s1 : Int) (dw : Bool) (A1 : Option Addr) (c1 : Nat) (l1 : List Nat) (s2 : Int) (ek : Bool) (A2 : Option Addr) (c2 : Nat) (l2 : List Nat) (s3 : Int) (Dm : Bool) (A3 : Option Addr) (c3 : Nat) (l3 : List Nat) (s4 : Int) (Dt : Bool) (A4 : Option Addr) (c4 : Nat) (l4 : List Nat) (z1 z2 z3 z4 m1 m2 : Int) (w : World) (f1 : ig w s1 dw A1 c1 l1 z1) (f2 : ig w s2 ek A2 c2 l2 z2) (f3 : ig w s3 Dm A3 c3 l3 z3) (f4 : ig w s4 Dt A4 c4 l4 z4) (g1 : Dh w 135 z1 z4 m1) (g2 : Dh w 135 z3 z2 m2) :
  Calls Tryz.prog 69 #[(Value.agg #[.int .i64 s1, .bool dw, .slice A1 l1.length c1, .int .i64 s2, .bool ek, .slice A2 l2.length c2]), (Value.agg #[.int .i64 s3, .bool Dm, .slice A3 l3.length c3, .int .i64 s4, .bool Dt, .slice A4 l4.length c4])] w fun e w' => e = .returned (.int .i64 (iw (m1 - m2))) ∧ Below w.heap.size w w' := by
 have H1 := hide f1
 have H2 := hide f2
 have H3 := hide f3
 have H4 := hide f4
 have Ep := hide g1
 have HG2 := hide g2
 obtain ⟨o, ho⟩ : ∃ o, o = iw (m1 - m2) := ⟨_, rfl⟩
 have HCM := hide (fun (s5 : Int) (Cb : Bool) (A5 : Option Addr) (c5 : Nat) (l5 : List Nat) (s6 : Int) (Pf : Bool) (A6 : Option Addr) (c6 : Nat) (l6 : List Nat) (W : World) (f5 : ig W s5 Cb A5 c5 l5 m1) (f6 : ig W s6 Pf A6 c6 l6 m2) => (show Calls Tryz.prog 136 #[(Value.agg #[.int .i64 s5, .bool Cb, .slice A5 l5.length c5]), (Value.agg #[.int .i64 s6, .bool Pf, .slice A6 l6.length c6])] W fun e w' => e = .returned (.int .i64 o) ∧ Below W.heap.size W w' by rw [ho]; exact agh s5 Cb A5 c5 l5 m1 s6 Pf A6 c6 l6 m2 W f5 f6))
 rw [← ho]
 clear f1 f2 f3 f4 g1 g2 ho
 go_enter Tryz.func69, Tryz.ntmps69
 go_wp2_with fail
 obtain ⟨n0_, Lt, hsz, hw0⟩ := uu w (.cells #[.int .i64 s1, .bool dw, .slice A1 l1.length c1, .int .i64 s2, .bool ek, .slice A2 l2.length c2] 74) (.cells #[.int .i64 s3, .bool Dm, .slice A3 l3.length c3, .int .i64 s4, .bool Dt, .slice A4 l4.length c4] 74)
 generalize ((w.alloc (.cells #[.int .i64 s1, .bool dw, .slice A1 l1.length c1, .int .i64 s2, .bool ek, .slice A2 l2.length c2] 74)).alloc (.cells #[.int .i64 s3, .bool Dm, .slice A3 l3.length c3, .int .i64 s4, .bool Dt, .slice A4 l4.length c4] 74)) = W0 at *
 have yc : W0.cell? ⟨w.heap.size, 0, none⟩ = some (.int .i64 s1) := ah n0_ 0
 have xz : W0.cell? ⟨w.heap.size, 1, none⟩ = some (.bool dw) := ah n0_ 1
 have Ak : W0.cell? ⟨w.heap.size, 2, none⟩ = some (.slice A1 l1.length c1) := ah n0_ 2
 have Cc : W0.cell? ⟨w.heap.size, 3, none⟩ = some (.int .i64 s2) := ah n0_ 3
 have Dv : W0.cell? ⟨w.heap.size, 4, none⟩ = some (.bool ek) := ah n0_ 4
 have Du : W0.cell? ⟨w.heap.size, 5, none⟩ = some (.slice A2 l2.length c2) := ah n0_ 5
 have Ad : W0.cell? ⟨w.heap.size + 1, 0, none⟩ = some (.int .i64 s3) := ah Lt 0
 have Ac : W0.cell? ⟨w.heap.size + 1, 1, none⟩ = some (.bool Dm) := ah Lt 1
 have El : W0.cell? ⟨w.heap.size + 1, 2, none⟩ = some (.slice A3 l3.length c3) := ah Lt 2
 have Kz : W0.cell? ⟨w.heap.size + 1, 3, none⟩ = some (.int .i64 s4) := ah Lt 3
 have Tq : W0.cell? ⟨w.heap.size + 1, 4, none⟩ = some (.bool Dt) := ah Lt 4
 have Tp : W0.cell? ⟨w.heap.size + 1, 5, none⟩ = some (.slice A4 l4.length c4) := ah Lt 5
 have q0 : w.heap.size < W0.heap.size := by omega
 have q1 : w.heap.size + 1 < W0.heap.size := by omega
 clear n0_ Lt hsz
 replace H1 := hide ((aa H1).below hw0)
 replace H2 := hide ((aa H2).below hw0)
 replace H3 := hide ((aa H3).below hw0)
 replace H4 := hide ((aa H4).below hw0)
 have KEEP := hide (show ∀ X, Below W0.heap.size W0 X → X.cell? ⟨w.heap.size, 0, none⟩ = some (.int .i64 s1) ∧ X.cell? ⟨w.heap.size, 1, none⟩ = some (.bool dw) ∧ X.cell? ⟨w.heap.size, 2, none⟩ = some (.slice A1 l1.length c1) ∧ X.cell? ⟨w.heap.size, 3, none⟩ = some (.int .i64 s2) ∧ X.cell? ⟨w.heap.size, 4, none⟩ = some (.bool ek) ∧ X.cell? ⟨w.heap.size, 5, none⟩ = some (.slice A2 l2.length c2) ∧ X.cell? ⟨w.heap.size + 1, 0, none⟩ = some (.int .i64 s3) ∧ X.cell? ⟨w.heap.size + 1, 1, none⟩ = some (.bool Dm) ∧ X.cell? ⟨w.heap.size + 1, 2, none⟩ = some (.slice A3 l3.length c3) ∧ X.cell? ⟨w.heap.size + 1, 3, none⟩ = some (.int .i64 s4) ∧ X.cell? ⟨w.heap.size + 1, 4, none⟩ = some (.bool Dt) ∧ X.cell? ⟨w.heap.size + 1, 5, none⟩ = some (.slice A4 l4.length c4) from fun X hX => ⟨ib hX q0 yc, ib hX q0 xz, ib hX q0 Ak, ib hX q0 Cc, ib hX q0 Dv, ib hX q0 Du, ib hX q1 Ad, ib hX q1 Ac, ib hX q1 El, ib hX q1 Kz, ib hX q1 Tq, ib hX q1 Tp⟩)
 go_region_held3 (fun w' => w'.cell? ⟨w.heap.size, 0, none⟩ = some (.int .i64 s1) ∧ w'.cell? ⟨w.heap.size, 1, none⟩ = some (.bool dw) ∧ w'.cell? ⟨w.heap.size, 2, none⟩ = some (.slice A1 l1.length c1) ∧ w'.cell? ⟨w.heap.size, 3, none⟩ = some (.int .i64 s2) ∧ w'.cell? ⟨w.heap.size, 4, none⟩ = some (.bool ek) ∧ w'.cell? ⟨w.heap.size, 5, none⟩ = some (.slice A2 l2.length c2) ∧ w'.cell? ⟨w.heap.size + 1, 0, none⟩ = some (.int .i64 s3) ∧ w'.cell? ⟨w.heap.size + 1, 1, none⟩ = some (.bool Dm) ∧ w'.cell? ⟨w.heap.size + 1, 2, none⟩ = some (.slice A3 l3.length c3) ∧ w'.cell? ⟨w.heap.size + 1, 3, none⟩ = some (.int .i64 s4) ∧ w'.cell? ⟨w.heap.size + 1, 4, none⟩ = some (.bool Dt) ∧ w'.cell? ⟨w.heap.size + 1, 5, none⟩ = some (.slice A4 l4.length c4)) (exact (aa KEEP) _ bel) (first | (go_at_call_of 135 (Value.agg #[.int .i64 s1, .bool dw, .slice A1 l1.length c1]); refine ((aa Ep) s1 dw A1 c1 l1 s4 Dt A4 c4 l4 _ (bz hw0 bel) (ig.below (aa H1) bel) (ig.below (aa H4) bel)).mono ?_; rintro e w' ⟨s5, Cb, A5, c5, l5, rfl, yx, hb5⟩; have hbw := cu (w := W0) bel hb5; have hsw := hbw.size; obtain ⟨hc, hfz⟩ := fu hbw) | (go_at_call_of 135 (Value.agg #[.int .i64 s3, .bool Dm, .slice A3 l3.length c3]); refine ((aa HG2) s3 Dm A3 c3 l3 s2 ek A2 c2 l2 _ (bz hw0 bel) (ig.below (aa H3) bel) (ig.below (aa H2) bel)).mono ?_; rintro e w' ⟨s6, Pf, A6, c6, l6, rfl, Cr, hb6⟩; have yx := ig.below (ig.below yx bel) hb6; have hbw := cu (w := W0) bel hb6; have hsw := hbw.size; obtain ⟨hc, hfz⟩ := fu hbw) | (go_at_call_of 136 (Value.agg #[.int .i64 s5, .bool Cb, .slice A5 l5.length c5]); refine ((aa HCM) s5 Cb A5 c5 l5 s6 Pf A6 c6 l6 _ (ig.below yx bel) (ig.below Cr bel)).mono ?_; rintro e w' ⟨rfl, Ml⟩; have hbw := cu (w := W0) bel Ml; have hsw := hbw.size; obtain ⟨hc, hfz⟩ := fu hbw))
 all_goals
  have jh : Below w.heap.size w w' := bz hw0 hbw
  go_wp2_with fail
  exact bodyPost_ret (v := .int .i64 o) (by simp [results, Tryz.results69, go_sem]) rfl ⟨rfl, jh⟩
theorem ajs (w : World) {K : Nat} (x y : Rat) (hx : Ag K x) (hy : Ag K y) (hK : K ≤ lim) : OpC w 69 x y (iw (x.num * y.den - y.num * x.den)) :=
 fun s1 dw A1 c1 l1 s2 ek A2 c2 l2 s3 Dm A3 c3 l3 s4 Dt A4 c4 l4 W hW f1 f2 f3 f4 => apd s1 dw A1 c1 l1 s2 ek A2 c2 l2 s3 Dm A3 c3 l3 s4 Dt A4 c4 l4 x.num (x.den : Int) y.num (y.den : Int) _ _ W f1 f2 f3 f4 (Jy hx.1 hy.2 hK rfl) (Jy hy.1 hx.2 hK rfl)

end Go.Proofs.YtjdnmdlnaoedoaaGreatDoor
namespace Go.Proofs.YtjdnmdlnaoedoaaGreatDoor
open Go.RowKit

theorem afr {n d : Int} (h : Wd.xh n d) : Ag 1 (Wd.qR n d) := by
 obtain ⟨e1, e2⟩ := Wd.Nt h
 obtain ⟨h1, h2, h3, h4, _⟩ := h
 have B : (1000000000000 : Nat) < fo := by rw [ic]; omega
 exact ⟨by rw [e1]; exact Wd.Sz.of_le om qj (Nat.le_refl _), by rw [e2]; exact Wd.Sz.of_le om qj (Nat.le_refl _)⟩
end Go.Proofs.YtjdnmdlnaoedoaaGreatDoor
namespace Go.Proofs.YtjdnmdlnaoedoaaGreatDoor
open Go.RowKit

namespace Sb
def Sm (K : Nat) (x : Rat) : Prop := Ag K x ∧ K ≤ 1000000
theorem Sm.mono {K L : Nat} {x : Rat} (h : Sm K x) (hk : K ≤ L) (hl : L ≤ 1000000) : Sm L x := ⟨h.1.mono hk, hl⟩
theorem Dw : 100000000 ≤ lim := by unfold lim; omega
variable {W : World} {v0 v1 : Value} {x y : Rat} {K : Nat}
theorem amv (hT : qy W) (hx : Sm K x) (hy : Sm K y) (h0 : ai [.q x] W v0) (h1 : ai [.q y] W v1) : Calls Tryz.prog 78 #[v0, v1] W (il (ai [.q (x + y)]) W) :=
 aeo (ajr hT x y hx.1 hy.1 (by have := hx.2; have := Dw; omega)).1 h0 h1
theorem Qs (hT : qy W) (hx : Sm K x) (hy : Sm K y) (h0 : ai [.q x] W v0) (h1 : ai [.q y] W v1) : Calls Tryz.prog 111 #[v0, v1] W (il (ai [.q (x * y)]) W) :=
 aeo (abw hT x y hx.1 hy.1 (by have := hx.2; have := Dw; omega)).1 h0 h1
theorem bgl (hT : qy W) (hx : Sm K x) (hy : Sm K y) (hn : y.num ≠ 0) (h0 : ai [.q x] W v0) (h1 : ai [.q y] W v1) : Calls Tryz.prog 113 #[v0, v1] W (il (ai [.q (x / y)]) W) :=
 aeo (ajq hT x y hx.1 hy.1 (by have := hx.2; have := Dw; omega) hn).1 h0 h1
theorem axn (h0 : ai [.q x] W v0) : Calls Tryz.prog 134 #[v0] W (il (ai [.q (-x)]) W) := axm (aze W x) h0
theorem Hr (hx : Sm K x) (hy : Sm K y) (h0 : ai [.q x] W v0) (h1 : ai [.q y] W v1) : Calls Tryz.prog 69 #[v0, v1] W (il (Rg.ax (.int .i64 (iw (x.num * y.den - y.num * x.den)))) W) := by
 obtain ⟨s1, n1, A1, c1, l1, s2, n2, A2, c2, l2, rfl, f1, f2⟩ := Hu h0
 obtain ⟨s3, n3, A3, c3, l3, s4, n4, A4, c4, l4, rfl, f3, f4⟩ := Hu h1
 exact (ajs W x y hx.1 hy.1 (by have := hx.2; have := Dw; omega) _ _ _ _ _ _ _ _ _ _ _ _ _ _ _ _ _ _ _ _ W (Below.refl _ _) f1 f2 f3 f4).mono fun e w' h => We h
theorem beb {n d : Int} (ok : Wd.xh n d) (h0 : ai [.v (.int .i64 n), .v (.int .i64 d)] W v0) : Calls Tryz.prog 57 #[v0] W (il (ai [.q (Wd.qR n d)]) W) := by
 rw [Wl h0]
 obtain ⟨e1, e2⟩ := Wd.Nt ok
 obtain ⟨h1, h2, h3, h4, _⟩ := ok
 refine (abu n d W om om om om).mono fun e w' h => Oz ?_
 rw [e1, e2]; exact h
theorem bgk (h0 : ai [.q x] W v0) : Calls Tryz.prog 59 #[v0] W (il (Rg.ax (.tuple #[.agg #[.int .i64 (Wd.told x).n, .int .i64 (Wd.told x).d], .int .i64 (Wd.told x).e])) W) := by
 obtain ⟨s1, n1, A1, c1, l1, s2, n2, A2, c2, l2, rfl, f1, f2⟩ := Hu h0
 exact (atg s1 n1 A1 c1 l1 _ s2 n2 A2 c2 l2 _ W f1 f2 x rfl rfl).mono fun e w' h => We h
theorem aht (n : Int) (h1 : -9223372036854775808 ≤ n) (h2 : n ≤ 9223372036854775807) (W : World) : Calls Tryz.prog 124 #[.int .i64 n] W (il (ai [.z n]) W) :=
 (Jz n h1 h2 W).mono fun e w' h => Xh h
theorem arf {a b : Int} (hT : qy W) (hb : b ≠ 0) (ha : Wd.Sz fo K a) (hb2 : Wd.Sz fo K b) (hK : K ≤ 1000000) (h0 : ai [.z a] W v0) (h1 : ai [.z b] W v1) : Calls Tryz.prog 123 #[v0, v1] W (il (ai [.q (Rat.divInt a b)]) W) := by
 obtain ⟨s1, n1, A1, c1, l1, rfl, f1⟩ := Gj h0
 obtain ⟨s2, n2, A2, c2, l2, rfl, f2⟩ := Gj h1
 exact (atv s1 n1 A1 c1 l1 s2 n2 A2 c2 l2 a b W hT f1 f2 hb ha hb2 (by have := Dw; omega)).mono fun e w' h => Oz h
theorem ari {a : Int} (h0 : ai [.z a] W v0) : Calls Tryz.prog 147 #[v0] W (il (ai [.z (-a)]) W) := by
 obtain ⟨s1, n1, A1, c1, l1, rfl, f1⟩ := Gj h0
 exact (Rn s1 n1 A1 c1 l1 a W f1).mono fun e w' h => Xh h
theorem Sm.add (hx : Sm K x) (hy : Sm K y) (h : K + K + 1 ≤ 1000000) (w : World) (hT : qy w) : Sm (K + K + 1) (x + y) := ⟨(ajr hT x y hx.1 hy.1 (by have := Dw; omega)).2, h⟩
theorem Sm.mul (hx : Sm K x) (hy : Sm K y) (h : K + K ≤ 1000000) (w : World) (hT : qy w) : Sm (K + K) (x * y) := ⟨(abw hT x y hx.1 hy.1 (by have := Dw; omega)).2, h⟩
theorem Sm.quo (hx : Sm K x) (hy : Sm K y) (h : K + K ≤ 1000000) (hn : y.num ≠ 0) (w : World) (hT : qy w) : Sm (K + K) (x / y) := ⟨(ajq hT x y hx.1 hy.1 (by have := Dw; omega) hn).2, h⟩
theorem Sm.neg (hx : Sm K x) : Sm K (-x) := ⟨hx.1.neg, hx.2⟩
theorem Cg {n d : Int} (ok : Wd.xh n d) : Sm 1 (Wd.qR n d) := ⟨afr ok, by omega⟩
end Sb

end Go.Proofs.YtjdnmdlnaoedoaaGreatDoor
namespace Go.Proofs.YtjdnmdlnaoedoaaGreatDoor
namespace Wd

def simp : Nat → Nat → Nat → Nat → Nat → Nat × Nat
 | 0, _, _, _, _ => (0, 1)
 | f + 1, a, b, c, d => if b = 1 then (a, 1) else if a / b < c / d then (a / b + 1, 1)
  else (a / b * (simp f d (c - a / b * d) b (a - a / b * b)).1 + (simp f d (c - a / b * d) b (a - a / b * b)).2, (simp f d (c - a / b * d) b (a - a / b * b)).1)

structure aid (a b c d : Nat) : Prop where
 pa : 0 < a
 pb : 0 < b
 pc : 0 < c
 pd : 0 < d
 co : a.Coprime b
 co2 : c.Coprime d
 le : a * d ≤ c * b

theorem Yc (a b : Nat) : a - a / b * b = a % b := by
 have := Nat.div_add_mod a b
 rw [Nat.mul_comm] at this
 omega
theorem aid.step {a b c d : Nat} (h : aid a b c d) (hb : b ≠ 1) (hk : ¬ a / b < c / d) :
  aid d (c - a / b * d) b (a - a / b * b) ∧ c / d = a / b ∧ c - a / b * d = c % d ∧ c - a / b * d < d ∧ a - a / b * b < b := by
 have ha := h.pa; have hb0 := h.pb; have hc := h.pc; have hd := h.pd
 have e1 := Nat.div_add_mod a b
 have r0 : a % b ≠ 0 := fun e => by
  have hdv := Nat.dvd_of_mod_eq_zero e
  have := Nat.Coprime.eq_one_of_dvd h.co.symm hdv
  exact hb this
 have hkd : a / b ≤ c / d := by
  rw [Nat.le_div_iff_mul_le hd]
  have h2 : a / b * b * d ≤ c * b := Nat.le_trans (Nat.mul_le_mul_right _ (Nat.div_mul_le_self a b)) h.le
  rw [Nat.mul_right_comm] at h2
  exact Nat.le_of_mul_le_mul_right h2 hb0
 have hq : c / d = a / b := by omega
 have e2 : c - a / b * d = c % d := by rw [← hq]; exact Yc c d
 have e3 := Yc a b
 have e4 := Nat.div_add_mod c d
 have hle : a % b * d ≤ c % d * b := by
  have hle := h.le
  rw [hq] at e4
  generalize a / b = k at *
  generalize a % b = r at *
  generalize c % d = s at *
  subst e1 e4
  rw [Nat.add_mul, Nat.add_mul] at hle
  have : b * k * d = d * k * b := by rw [Nat.mul_comm b k, Nat.mul_assoc, Nat.mul_comm b d, ← Nat.mul_assoc, Nat.mul_comm k d]
  omega
 have s0 : 0 < c % d := by
  rcases Nat.eq_zero_or_pos (c % d) with e | e
  ·
   rw [e, Nat.zero_mul] at hle
   have := Nat.mul_pos (Nat.pos_of_ne_zero r0) hd
   omega
  ·
   exact e
 rw [e2, e3]
 refine ⟨⟨hd, s0, hb0, Nat.pos_of_ne_zero r0, ?_, ?_, ?_⟩, hq, rfl, Nat.mod_lt _ hd, Nat.mod_lt _ hb0⟩
 ·
  have := h.co2
  unfold Nat.Coprime at *
  rw [Nat.gcd_comm, ← Nat.gcd_rec, Nat.gcd_comm]; exact this
 ·
  have := h.co
  unfold Nat.Coprime at *
  rw [Nat.gcd_comm, ← Nat.gcd_rec, Nat.gcd_comm]; exact this
 ·
  rw [Nat.mul_comm, Nat.mul_comm b]; exact hle
def fr (n d : Nat) : Rat := Rat.divInt (n : Int) (d : Int)
end Wd
end Go.Proofs.YtjdnmdlnaoedoaaGreatDoor
namespace Go.Proofs.YtjdnmdlnaoedoaaGreatDoor
namespace Wd

def cf : Nat → Int → Int → List Int
 | 0, _, _ => []
 | f + 1, n, d => if d = 0 then [] else n / d :: cf f d (n % d)
theorem aqz : ∀ (f : Nat) (n d : Int), (cf f n d).length ≤ f
 | 0, _, _ => Nat.le_refl _
 | f + 1, n, d => by
  unfold cf
  split
  ·
   exact Nat.zero_le _
  ·
   have := aqz f d (n % d)
   rw [List.length_cons]; omega
theorem azt (f : Nat) (n : Int) : cf f n 0 = [] := by
 cases f with
 | zero => rfl
 | succ f => simp [cf]
structure Oa (L l : List Int) (n d : Int) : Prop where
 ok : ∃ f : Nat, d < f ∧ l ++ cf f n d = L ∧ L.length ≤ l.length + f
 d0 : 0 ≤ d
 nb : -1000000000000 ≤ n ∧ n ≤ 1000000000000
 db : d ≤ 1000000000000
theorem Oa.start {n d : Int} (h : xh n d) : Oa (cf (d.toNat + 1) n d) [] n d := by
 obtain ⟨h1, h2, h3, h4, _⟩ := h
 exact ⟨⟨d.toNat + 1, by omega, rfl, by have := aqz (d.toNat + 1) n d; simpa using this⟩, by omega, ⟨by omega, by omega⟩, by omega⟩
theorem Oa.step {L l : List Int} {n d : Int} (h : Oa L l n d) (hd : 0 < d) : Oa L (l ++ [n / d]) d (n % d) ∧ n - n / d * d = n % d ∧ -1000000000000 ≤ n / d ∧ n / d ≤ 1000000000000 ∧ -2000000000000 ≤ n / d * d ∧ n / d * d ≤ 2000000000000 := by
 obtain ⟨⟨f, h1, h2, h3⟩, h4, h5, h6⟩ := h
 have e1 := Int.emod_nonneg n (show d ≠ 0 by omega)
 have e2 := Int.emod_lt_of_pos n hd
 have e3 := Int.mul_ediv_add_emod n d
 rw [Int.mul_comm] at e3
 have lo : -1000000000000 ≤ n / d := by
  rw [Int.le_ediv_iff_mul_le hd]
  omega
 have hi : n / d ≤ 1000000000000 := by
  rcases Int.lt_or_le n 0 with hn | hn
  ·
   have : n / d < 0 := Int.ediv_neg_of_neg_of_pos hn hd
   omega
  ·
   have := Int.ediv_le_self d hn
   omega
 have e4 : n - n / d * d = n % d ∧ -2000000000000 ≤ n / d * d ∧ n / d * d ≤ 2000000000000 := by
  generalize n / d * d = t at *
  generalize n % d = r at *
  exact ⟨by omega, by omega, by omega⟩
 refine ⟨⟨?_, e1, by omega, by omega⟩, e4.1, lo, hi, e4.2.1, e4.2.2⟩
 cases f with
 | zero => omega
 | succ f =>
  refine ⟨f, by omega, ?_, by simp; omega⟩
  rw [← h2]
  simp only [cf, if_neg (show ¬ d = 0 by omega), List.append_assoc, List.cons_append, List.nil_append]
theorem Oa.done {L l : List Int} {n : Int} (h : Oa L l n 0) : l = L := by
 obtain ⟨⟨f, h1, h2, h3⟩, _, _, _⟩ := h
 rw [azt, List.append_nil] at h2
 exact h2
theorem Oa.len {L l : List Int} {n d : Int} (h : Oa L l n d) (hL : L.length ≤ 1000000000001) : l.length ≤ 1000000000001 := by
 obtain ⟨⟨f, h1, h2, h3⟩, _, _, _⟩ := h
 rw [← h2, List.length_append] at hL
 omega
end Wd
end Go.Proofs.YtjdnmdlnaoedoaaGreatDoor
namespace Go.Proofs.YtjdnmdlnaoedoaaGreatDoor
namespace Wd

theorem Bw (a : Int) : (Rat.divInt a 1).num = a ∧ ((Rat.divInt a 1).den : Int) = 1 := by
 have h : Rat.divInt a 1 = (a : Rat) := by
  rw [← Rat.num_divInt_den (a : Rat)]; rfl
 rw [h]
 exact ⟨rfl, rfl⟩
def aro (l : List Int) : Prop := 0 < l.length ∧ (∀ i, i < l.length → 1 ≤ i → 1 ≤ l.getD i 0) ∧ (l.length = 1 ∨ l.getD (l.length - 1) 0 ≠ 1)
instance (l : List Int) : Decidable (aro l) := by unfold aro; infer_instance
end Wd
end Go.Proofs.YtjdnmdlnaoedoaaGreatDoor
namespace Go.Proofs.YtjdnmdlnaoedoaaGreatDoor
open Go.RowKit

end Go.Proofs.YtjdnmdlnaoedoaaGreatDoor
namespace Go.Proofs.YtjdnmdlnaoedoaaGreatDoor
open Go.RowKit

end Go.Proofs.YtjdnmdlnaoedoaaGreatDoor
namespace Go.Proofs.YtjdnmdlnaoedoaaGreatDoor
open Go.RowKit

structure NbW (w wr : World) (b0 b1 l0 l1 : Int) : Prop where
 below : Below w.heap.size w wr
 x : wr.heap[w.heap.size]? = some (.cells #[.int .i64 22, .int .i64 7] 23 (0, 0))
 lo : wr.heap[w.heap.size + 1]? = some (.cells #[.int .i64 0, .int .i64 0] 23 (0, 0))
 hi : wr.heap[w.heap.size + 2]? = some (.cells #[.int .i64 0, .int .i64 0] 23 (0, 0))
 bef : wr.heap[w.heap.size + 3]? = some (.cells #[.int .i64 b0, .int .i64 b1] 23 (0, 0))
 last : wr.heap[w.heap.size + 4]? = some (.cells #[.int .i64 l0, .int .i64 l1] 23 (0, 0))
theorem NbW.step {w wr w' : World} {b0 b1 l0 l1 : Int} (h : NbW w wr b0 b1 l0 l1) (hb : Below wr.heap.size wr w') : NbW w w' b0 b1 l0 l1 :=
 ⟨bz h.below hb, (hb.block _ (lt_of_block h.x)).trans h.x, (hb.block _ (lt_of_block h.lo)).trans h.lo, (hb.block _ (lt_of_block h.hi)).trans h.hi, (hb.block _ (lt_of_block h.bef)).trans h.bef, (hb.block _ (lt_of_block h.last)).trans h.last⟩
theorem NbW.set {w wr : World} {b0 b1 l0 l1 : Int} (h : NbW w wr b0 b1 l0 l1) (u0 u1 v0 v1 : Int) :
  NbW w ((((wr.setCell ⟨w.heap.size + 3, 0, none⟩ (.int .i64 u0)).setCell ⟨w.heap.size + 3, 1, none⟩ (.int .i64 u1)).setCell ⟨w.heap.size + 4, 0, none⟩ (.int .i64 v0)).setCell ⟨w.heap.size + 4, 1, none⟩ (.int .i64 v1)) u0 u1 v0 v1 := by
 have g1 := lg wr (w.heap.size + 3) (.int .i64 u0) (.int .i64 u1)
 have g2 := lg ((wr.setCell ⟨w.heap.size + 3, 0, none⟩ (.int .i64 u0)).setCell ⟨w.heap.size + 3, 1, none⟩ (.int .i64 u1)) (w.heap.size + 4) (.int .i64 v0) (.int .i64 v1)
 have s1 := g1.size
 have old : ∀ k, k < w.heap.size + 3 → ((((wr.setCell ⟨w.heap.size + 3, 0, none⟩ (.int .i64 u0)).setCell ⟨w.heap.size + 3, 1, none⟩ (.int .i64 u1)).setCell ⟨w.heap.size + 4, 0, none⟩ (.int .i64 v0)).setCell ⟨w.heap.size + 4, 1, none⟩ (.int .i64 v1)).heap[k]? = wr.heap[k]? := fun k hk => by
  have hl := lt_of_block h.last
  exact (g2.block k om (fun e => by injection e with e; omega)).trans (g1.block k om (fun e => by injection e with e; omega))
 have hl := lt_of_block h.last
 have e1 := Sv (u0 := .int .i64 u0) (u1 := .int .i64 u1) h.bef
 refine ⟨(h.below.grown g1 h.below.size (fun k hk => by injection hk with hk; omega)).grown g2 (by have := h.below.size; omega) (fun k hk => by injection hk with hk; omega), (old _ om).trans h.x, (old _ om).trans h.lo, (old _ om).trans h.hi, ?_, ?_⟩
 ·
  exact (g2.block _ (lt_of_block e1) (fun e => by injection e with e; omega)).trans e1
 ·
  exact Sv ((g1.block _ hl (fun e => by injection e with e; omega)).trans h.last)
end Go.Proofs.YtjdnmdlnaoedoaaGreatDoor
namespace Go.Proofs.YtjdnmdlnaoedoaaGreatDoor
open Go.RowKit

structure IQ (w : World) (Cq : Int) (Tj : Bool) (wu : Option Addr) (c1a : Nat) (wm : List Nat) (Eu : Int) (Ti : Bool) (zt : Option Addr) (zq : Nat) (zo : List Nat) (q : Rat) : Prop where
 n : ig w Cq Tj wu c1a wm q.num
 d : ig w Eu Ti zt zq zo (q.den : Int)
theorem IQ.below {w w' : World} {Cq : Int} {Tj : Bool} {wu : Option Addr} {c1a : Nat} {wm : List Nat} {Eu : Int} {Ti : Bool} {zt : Option Addr} {zq : Nat} {zo : List Nat} {q : Rat} (h : IQ w Cq Tj wu c1a wm Eu Ti zt zq zo q) (hb : Below w.heap.size w w') : IQ w' Cq Tj wu c1a wm Eu Ti zt zq zo q := ⟨h.n.below hb, h.d.below hb⟩
theorem alm (n : Int) (w : World) (b1 : -9223372036854775808 ≤ n) (b2 : n ≤ 9223372036854775807) :
  Calls Tryz.prog 77 #[.int .i64 n] w fun e w' => Hy w (Rat.divInt n 1).num ((Rat.divInt n 1).den : Int) e w' := by
 have hN := hide (fun W => Jz n b1 b2 W)
 have hO := hide (fun W => Jz 1 om om W)
 rw [(Wd.Bw n).1, (Wd.Bw n).2]
 clear b1 b2
 go_enter Tryz.func77, Tryz.ntmps77
 go_wp2_with fail
 obtain ⟨n0, hsz, hw0⟩ := Xe w (.cells #[.int .i64 0, .bool false, .slice none 0 0, .int .i64 0, .bool false, .slice none 0 0] 74)
 generalize w.alloc (.cells #[.int .i64 0, .bool false, .slice none 0 0, .int .i64 0, .bool false, .slice none 0 0] 74) = W0 at *
 have r0 : W0.cell? ⟨w.heap.size, 0, none⟩ = some (.int .i64 0) := ah n0 0
 have f0 := bf n0 0
 have r1 : W0.cell? ⟨w.heap.size, 1, none⟩ = some (.bool false) := ah n0 1
 have f1 := bf n0 1
 have r2 : W0.cell? ⟨w.heap.size, 2, none⟩ = some (.slice none 0 0) := ah n0 2
 have f2 := bf n0 2
 have r3 : W0.cell? ⟨w.heap.size, 3, none⟩ = some (.int .i64 0) := ah n0 3
 have f3 := bf n0 3
 have r4 : W0.cell? ⟨w.heap.size, 4, none⟩ = some (.bool false) := ah n0 4
 have f4 := bf n0 4
 have r5 : W0.cell? ⟨w.heap.size, 5, none⟩ = some (.slice none 0 0) := ah n0 5
 have f5 := bf n0 5
 have q0 := lt_of_block n0
 have NR := Lib.hid n0
 clear n0 hsz
 refine ((aa hN) _).mono ?_
 rintro e W1 ⟨Cq, Tj, wu, c1a, wm, rfl, g1, hb⟩
 have G1 := hide g1; have HB := hide hb
 clear g1 hb
 go_wp2_with fail
 refine ((aa hO) _).mono ?_
 rintro e w' ⟨Eu, Ti, zt, zq, zo, rfl, g2, hb2⟩
 have G1' := hide ((aa G1).below hb2)
 have hb := bz (aa HB) hb2
 obtain ⟨hc, hfz⟩ := fu hb
 have hblk := (hb.block _ q0).trans NR.out
 have kg := Lib.hid hblk
 have jh := bz hw0 hb
 have Np := hide jh
 have G2 := hide g2
 clear g2 hb hb2 jh hblk
 go_wp2_with fail
 exact bodyPost_ret (v := (Value.agg #[.int .i64 Cq, .bool Tj, .slice wu wm.length c1a, .int .i64 Eu, .bool Ti, .slice zt zo.length zq])) (by simp [results, Tryz.results77, go_sem, hc, r0, r1, r2, r3, r4, r5, q0]) rfl
  ⟨Cq, Tj, wu, c1a, wm, Eu, Ti, zt, zq, zo, rfl, (aa G1').upto kg.out (Cu _ _ _ _ _ _ _ _ _ _) (uf _ _ _ _ _ _ _ _), (aa G2).upto kg.out (Cu _ _ _ _ _ _ _ _ _ _) (uf _ _ _ _ _ _ _ _), (aa Np).grown (uf _ _ _ _ _ _ _ _) (aa Np).size (fun k hk => by injection hk with hk; omega)⟩

end Go.Proofs.YtjdnmdlnaoedoaaGreatDoor
namespace Go.Proofs.YtjdnmdlnaoedoaaGreatDoor
open Go.RowKit

namespace Sb
section
variable {W : World} {v0 v1 : Value} {K : Nat}
theorem beg {a b : Int} (ha : Wd.Sz fo K a) (hb : Wd.Sz fo K b) (hK : K ≤ 1000000) (h : b ≠ 0) (h0 : ai [.z a] W v0) (h1 : ai [.z b] W v1) : Calls Tryz.prog 144 #[v0, v1] W (il (ai [.z (a.tdiv b)]) W) :=
 abe (Ev ha hb (by have := Dw; omega) h rfl) h0 h1
theorem arj {a b : Int} (ha : Wd.Sz fo K a) (hb : Wd.Sz fo K b) (hK : K ≤ 1000000) (h0 : ai [.z a] W v0) (h1 : ai [.z b] W v1) : Calls Tryz.prog 135 #[v0, v1] W (il (ai [.z (a * b)]) W) :=
 abe (Jy ha hb (by have := Dw; omega) rfl) h0 h1
theorem beh {a b : Int} (ha : Wd.Sz fo K a) (hb : Wd.Sz fo K b) (hK : K ≤ 1000000) (h0 : ai [.z a] W v0) (h1 : ai [.z b] W v1) : Calls Tryz.prog 145 #[v0, v1] W (il (ai [.z (a + b)]) W) :=
 abe (apy ha hb (by have := Dw; omega) rfl) h0 h1
theorem ark {a b : Int} (h0 : ai [.z a] W v0) (h1 : ai [.z b] W v1) : Calls Tryz.prog 136 #[v0, v1] W (il (Rg.ax (.int .i64 (iw (a - b)))) W) := by
 obtain ⟨s1, n1, A1, c1, l1, rfl, f1⟩ := Gj h0
 obtain ⟨s2, n2, A2, c2, l2, rfl, f2⟩ := Gj h1
 exact (agh s1 n1 A1 c1 l1 a s2 n2 A2 c2 l2 b W f1 f2).mono fun e w' h => We h
theorem acg (n : Int) (b1 : -9223372036854775808 ≤ n) (b2 : n ≤ 9223372036854775807) (W : World) : Calls Tryz.prog 77 #[.int .i64 n] W (il (ai [.q (Rat.divInt n 1)]) W) :=
 (alm n W b1 b2).mono fun e w' h => Oz h
theorem ayn {z : Int} (h : 0 < z) : decide (0 < iw z) = true := decide_eq_true (by unfold iw; (repeat' split) <;> omega)
theorem asw {z : Int} (h : ¬ 0 < z) : decide (0 < iw z) = false := decide_eq_false (by unfold iw; (repeat' split) <;> omega)
theorem amq {x y : Int} (hy : 0 < y) : x / y = if 0 < x.tdiv y * y - x then x.tdiv y - 1 else x.tdiv y := by
 have h1 := Int.mul_tdiv_add_tmod x y
 have h2 := Int.mul_ediv_add_emod x y
 have h3 := Int.emod_nonneg x (show y ≠ 0 by omega)
 have h4 := Int.emod_lt_of_pos x hy
 have h5 : x.tmod y < y := Int.tmod_lt_of_pos x hy
 have h6 : -y < x.tmod y := by
  have := Int.lt_tmod_of_pos x hy
  omega
 generalize x.tdiv y = q at *
 generalize x / y = p at *
 generalize x % y = r at *
 generalize x.tmod y = s at *
 have e1 : q * y = y * q := Int.mul_comm _ _
 have e3 : y * p - y * q = y * (p - q) := by rw [Int.mul_sub]
 split
 ·
  have hs : s < 0 := by omega
  have e2 : y * (p - q) = s - r := by omega
  have : p - q < 0 := by
   rcases Int.lt_or_le (p - q) 0 with h | h
   ·
    exact h
   ·
    have := Int.mul_nonneg (Int.le_of_lt hy) h; omega
  have : -2 < p - q := by
   rcases Int.lt_or_le (-2) (p - q) with h | h
   ·
    exact h
   ·
    have := Int.mul_le_mul_of_nonneg_left h (Int.le_of_lt hy); omega
  omega
 ·
  have e2 : y * (p - q) = s - r := by omega
  have : p - q < 1 := by
   rcases Int.lt_or_le (p - q) 1 with h | h
   ·
    exact h
   ·
    have := Int.mul_le_mul_of_nonneg_left h (Int.le_of_lt hy); omega
  have : -1 < p - q := by
   rcases Int.lt_or_le (-1) (p - q) with h | h
   ·
    exact h
   ·
    have := Int.mul_le_mul_of_nonneg_left h (Int.le_of_lt hy); omega
  omega
end
theorem bee {a b : Int} {K : Nat} (sa : Wd.Sz fo K a) (sb : Wd.Sz fo K (-b)) (hK : K ≤ 1000000) (w : World) (u0 : Value) (h0 : ai [.z a] w u0) (u1 : Value) (h1 : ai [.z b] w u1) :
  Calls Tryz.prog 203 #[u0, u1] w (il (ai [.z (a - b)]) w) := by
 rw [show a - b = a + -b from Int.sub_eq_add_neg]
 have HSA := hide sa
 have HSB := hide sb
 have HHK := hide hK
 clear sa sb hK
 obtain ⟨zz, uy, ru, c0a, rq, rfl, f0a⟩ := Gj h0
 obtain ⟨Cq, Dn, wu, c1a, wm, rfl, f1a⟩ := Gj h1
 go_enter Tryz.func203, Tryz.ntmps203
 go_upto_region 1 with fail
 have hO := (Own.push (T := 72) (ls := zZ) (cs := [.int .i64 0, .bool false, .slice none 0 0]) (Own.push (T := 72) (ls := [.z b]) (cs := [.int .i64 Cq, .bool Dn, .slice wu (List.length wm) c1a]) (Own.push (T := 72) (ls := [.z a]) (cs := [.int .i64 zz, .bool uy, .slice ru (List.length rq) c0a]) (Own.nil w) (gu.z f0a rfl) (w.heap.size) rfl) (((gu.z f1a rfl) : gu w [.z b] [.int .i64 Cq, .bool Dn, .slice wu (List.length wm) c1a]).below (by repeat (first | exact Below.refl _ _ | refine jc ?_ _))) (w.heap.size + 1) (by simp only [World.size_alloc])) (((gu.vs w [.int .i64 0, .bool false, .slice none 0 0] rfl) : gu w zZ [.int .i64 0, .bool false, .slice none 0 0]).below (by repeat (first | exact Below.refl _ _ | refine jc ?_ _))) (w.heap.size + 2) (by simp only [World.size_alloc]))
 generalize ((w.alloc (.cells #[.int .i64 zz, .bool uy, .slice ru (List.length rq) c0a] 72)).alloc (.cells #[.int .i64 Cq, .bool Dn, .slice wu (List.length wm) c1a] 72)).alloc (.cells #[.int .i64 0, .bool false, .slice none 0 0] 72) = W0 at *
 have HO := hide hO
 clear hO
 go_upto_region 1 with fail
 refine Rg.region 4 9 (Rg.pick [ai [.z a], ai [.z b], ai [.z (-b)], ai [.z (a + -b)]]) (az w _ W0) gm [] kr kr rfl (Rg.fq.pick ⟨au _, au _, au _, au _, trivial⟩) (az.start (aa HO))
  (ag (fw ny rf aF [] [.z a] [])
  (ag (fw ny ky aF [] [.z b] [])
  (ag (sc1 Tryz.func147 (aT 1) (fun W v0 hG h0 => ari h0))
  (ag (sc2 Tryz.func145 (aT 0) (aT 2) (fun W v0 v1 hG h0 h1 => beh (aa HSA) (aa HSB) (aa HHK) h0 h1))
  Rg.bg)))) ?_
 intro v1 V1 hG1 hv1 hne1
 simp only [Rg.puts, Act.put, tA]
 have hO := hG1.1
 refine jd hO 0 [] zZ [.z (a + -b)] [] rfl Bo rfl (show ai [.z (a + -b)] V1 (v1 3) from hv1 3 (by decide)) rfl rfl rfl ?_
 intro uo gy hk0
 replace hO := gy
 clear gy
 clear HO
 have HO := hide hO
 clear hO hG1 hv1 hne1 hk0
 go_wp2_with fail
 exact xu Tryz.results203 Rp rfl (aa HO) me0 rfl rfl
theorem bfx {K : Nat} : Wd.Sz fo (K + 1) (-1) := Wd.Sz.of_le (by rw [ic]; omega) qj om
theorem avs {x y : Int} {K : Nat} (sx : Wd.Sz fo (K + 1) x) (sy : Wd.Sz fo (K + 1) y) (hK : K + 1 ≤ 1000000) (hy : 0 < y) (w : World) (u0 : Value) (h0 : ai [.z x] w u0) (u1 : Value) (h1 : ai [.z y] w u1) :
  Calls Tryz.prog 182 #[u0, u1] w (il (ai [.z (x / y)]) w) := by
 obtain ⟨rr, hrr⟩ : ∃ rr, rr = x / y := ⟨_, rfl⟩
 rw [← hrr]
 rw [amq hy] at hrr
 have HR := hide hrr
 have HX := hide (And.intro sx (And.intro sy (And.intro hK (show y ≠ 0 by omega))))
 clear hrr sx sy hK hy
 obtain ⟨zz, uy, ru, c0a, rq, rfl, f0a⟩ := Gj h0
 obtain ⟨Cq, Dn, wu, c1a, wm, rfl, f1a⟩ := Gj h1
 go_enter Tryz.func182, Tryz.ntmps182
 go_upto_region 1 with fail
 have hO := (Own.push (T := 72) (ls := zZ) (cs := [.int .i64 0, .bool false, .slice none 0 0]) (Own.push (T := 72) (ls := [.z y]) (cs := [.int .i64 Cq, .bool Dn, .slice wu (List.length wm) c1a]) (Own.push (T := 72) (ls := [.z x]) (cs := [.int .i64 zz, .bool uy, .slice ru (List.length rq) c0a]) (Own.nil w) (gu.z f0a rfl) (w.heap.size) rfl) (((gu.z f1a rfl) : gu w [.z y] [.int .i64 Cq, .bool Dn, .slice wu (List.length wm) c1a]).below (by repeat (first | exact Below.refl _ _ | refine jc ?_ _))) (w.heap.size + 1) (by simp only [World.size_alloc])) (((gu.vs w [.int .i64 0, .bool false, .slice none 0 0] rfl) : gu w zZ [.int .i64 0, .bool false, .slice none 0 0]).below (by repeat (first | exact Below.refl _ _ | refine jc ?_ _))) (w.heap.size + 2) (by simp only [World.size_alloc]))
 generalize ((w.alloc (.cells #[.int .i64 zz, .bool uy, .slice ru (List.length rq) c0a] 72)).alloc (.cells #[.int .i64 Cq, .bool Dn, .slice wu (List.length wm) c1a] 72)).alloc (.cells #[.int .i64 0, .bool false, .slice none 0 0] 72) = W0 at *
 have HO := hide hO
 clear hO
 go_upto_region 1 with fail
 refine Rg.dz 4 19 (Rg.pick [ai [.z x], ai [.z y], ai [.z (x.tdiv y)], qf 72 zZ W0.heap.size]) (az w _ W0) gm [3] kr rfl (Rg.fq.pick ⟨au _, au _, au _, qh _ _ _, trivial⟩) (az.begin (aa HO))
  (ag (fw ny rf aF [] [.z x] [])
  (ag (fw ny ky aF [] [.z y] [])
  (ag (sc2 Tryz.func144 (aT 0) (aT 1) (fun W v0 v1 hG h0 h1 => beg (aa HX).1 (aa HX).2.1 (aa HX).2.2.1 (aa HX).2.2.2 h0 h1))
  (ag (si Ll rfl az.step az.size rfl (uw (by intro j hj; simp at hj; (repeat' (first | (rcases hj with rfl | hj))) <;> first | (subst hj; exact ⟨_, _, _, rfl⟩) | exact ⟨_, _, _, rfl⟩)))
  Rg.bg)))) ?_
 intro v1 V1 hG1 hv1 hne1
 simp only [Rg.puts, Act.put, tA]
 obtain ⟨blc, e3, Vt, hz3⟩ := (show qf 72 zZ W0.heap.size V1 (v1 3) from hv1 3 (by decide))
 simp only [e3]
 have hO := hG1.1
 replace hO := Own.add (aa HO) hG1.2 Vt hz3
 clear Vt hz3
 refine jd hO 0 [] zZ [.z (x.tdiv y)] [] rfl Bo rfl (show ai [.z (x.tdiv y)] V1 (v1 2) from hv1 2 (by decide)) rfl rfl rfl ?_
 intro uo gy hk0
 replace hO := gy
 clear gy
 clear HO
 have HO := hide hO
 clear hO hG1 hv1 hne1 hk0
 try clear e3
 by_cases g : 0 < x.tdiv y * y - x
 ·
  have d1 : decide (0 < iw (x.tdiv y * y - x)) = true := ayn g
  have hr : rr = x.tdiv y - 1 := by rw [(aa HR), if_pos g]
  clear HR g
  subst hr
  go_upto_region 2 with fail
  refine Rg.region 6 19 (Rg.pick [ai [.z (x.tdiv y)], ai [.z y], ai [.z (x.tdiv y * y)], ai [.z x], Rg.ax (.int .i64 (iw (x.tdiv y * y - x))), Rg.ax (.bool true)]) (az w _ uo) gm [] kr kr rfl (Rg.fq.pick ⟨au _, au _, au _, au _, Rg.ae _, Rg.ae _, trivial⟩) (az.start (aa HO))
   (ag (fw ny me0 aF [] [.z (x.tdiv y)] [])
   (ag (fw ny rf aF [] [.z y] [])
   (ag (sc2 Tryz.func135 (aT 0) (aT 1) (fun W v0 v1 hG h0 h1 => arj ((aa HX).1.tdiv y) (aa HX).2.1 (aa HX).2.2.1 h0 h1))
   (ag (fw ny Ed aF [] [.z x] [])
   (ag (sc2 Tryz.func136 (aT 2) (aT 3) (fun W v0 v1 hG h0 h1 => ark h0 h1))
   (ag (Bj rfl (aT 4) (Rg.je _) rfl d1)
   Rg.bg)))))) ?_
  intro v2 V2 hG2 hv2 hne2
  simp only [Rg.puts, Act.put, tA]
  have e5 : v2 5 = .bool true := hv2 5 (by decide)
  simp only [e5]
  have hO := hG2.1
  clear HO
  have HO := hide hO
  clear hO hG2 hv2 hne2
  try clear e5
  go_upto_region 3 with fail
  refine Rg.region 3 19 (Rg.pick [ai [.z (x.tdiv y)], ai [.z 1], ai [.z (x.tdiv y - 1)]]) (az w _ V2) gm [] kr kr rfl (Rg.fq.pick ⟨au _, au _, au _, trivial⟩) (az.start (aa HO))
   (ag (fw ny me0 aF [] [.z (x.tdiv y)] [])
   (ag (sc1 Tryz.func124 (Rg.je _) (fun W v0 hG h0 => by cases h0; exact aht 1 om om W))
   (ag (sc2 Tryz.func203 (aT 0) (aT 1) (fun W v0 v1 hG h0 h1 => bee ((aa HX).1.tdiv y) bfx (aa HX).2.2.1 W _ h0 _ h1))
   Rg.bg))) ?_
  intro v3 V3 hG3 hv3 mf
  simp only [Rg.puts, Act.put, tA]
  have hO := hG3.1
  refine jd hO 1 [] zZ [.z (x.tdiv y - 1)] [] rfl Bo rfl (show ai [.z (x.tdiv y - 1)] V3 (v3 2) from hv3 2 (by decide)) rfl rfl rfl ?_
  intro Da gy hk0
  replace hO := gy
  clear gy
  clear HO
  have HO := hide hO
  clear hO hG3 hv3 mf hk0
  go_wp2_with fail
  exact xu Tryz.results182 Rp rfl (aa HO) ky rfl rfl
 ·
  have d1 : decide (0 < iw (x.tdiv y * y - x)) = false := asw g
  have hr : rr = x.tdiv y := by rw [(aa HR), if_neg g]
  clear HR g
  subst hr
  go_upto_region 2 with fail
  refine Rg.region 6 19 (Rg.pick [ai [.z (x.tdiv y)], ai [.z y], ai [.z (x.tdiv y * y)], ai [.z x], Rg.ax (.int .i64 (iw (x.tdiv y * y - x))), Rg.ax (.bool false)]) (az w _ uo) gm [] kr kr rfl (Rg.fq.pick ⟨au _, au _, au _, au _, Rg.ae _, Rg.ae _, trivial⟩) (az.start (aa HO))
   (ag (fw ny me0 aF [] [.z (x.tdiv y)] [])
   (ag (fw ny rf aF [] [.z y] [])
   (ag (sc2 Tryz.func135 (aT 0) (aT 1) (fun W v0 v1 hG h0 h1 => arj ((aa HX).1.tdiv y) (aa HX).2.1 (aa HX).2.2.1 h0 h1))
   (ag (fw ny Ed aF [] [.z x] [])
   (ag (sc2 Tryz.func136 (aT 2) (aT 3) (fun W v0 v1 hG h0 h1 => ark h0 h1))
   (ag (Bj rfl (aT 4) (Rg.je _) rfl d1)
   Rg.bg)))))) ?_
  intro v2 V2 hG2 hv2 hne2
  simp only [Rg.puts, Act.put, tA]
  have e5 : v2 5 = .bool false := hv2 5 (by decide)
  simp only [e5]
  have hO := hG2.1
  clear HO
  have HO := hide hO
  clear hO hG2 hv2 hne2
  try clear e5
  go_upto_region 4 with fail
  refine Rg.dz 1 19 (Rg.pick [ai [.z (x.tdiv y)]]) (az w _ V2) gm [] kr rfl (Rg.fq.pick ⟨au _, trivial⟩) (az.begin (aa HO))
   (ag (fw ny me0 aF [] [.z (x.tdiv y)] [])
   Rg.bg) ?_
  intro v3 V3 hG3 hv3 mf
  simp only [Rg.puts, Act.put, tA]
  have hO := hG3.1
  refine jd hO 1 [] zZ [.z (x.tdiv y)] [] rfl Bo rfl (show ai [.z (x.tdiv y)] V3 (v3 0) from hv3 0 (by decide)) rfl rfl rfl ?_
  intro Da gy hk0
  replace hO := gy
  clear gy
  clear HO
  have HO := hide hO
  clear hO hG3 hv3 mf hk0
  go_wp2_with fail
  exact xu Tryz.results182 Rp rfl (aa HO) ky rfl rfl
theorem bbk {W : World} {x : Rat} {v : Value} (h : ai [.q x] W v) : ai [.z x.num, .z (x.den : Int)] W v := by
 obtain ⟨s1, n1, A1, c1, l1, s2, n2, A2, c2, l2, rfl, f1, f2⟩ := Hu h
 exact ⟨_, rfl, gu.z f1 (gu.z f2 rfl)⟩
theorem Xo {x : Rat} {K : Nat} (sx : Sm (K + 1) x) (w : World) (u0 : Value) (h0 : ai [.q x] w u0) :
  Calls Tryz.prog 154 #[u0] w (il (ai [.z (x.num / (x.den : Int))]) w) := by
 have HX := hide (And.intro sx.1.1 (And.intro sx.1.2 (And.intro sx.2 (show (0 : Int) < (x.den : Int) by have := x.den_pos; omega))))
 clear sx
 replace h0 := bbk h0
 obtain ⟨zz, uy, ru, c0a, rq, Bv, ym, vg, c0b, ve, rfl, f0a, Aw⟩ := Mr h0
 go_enter Tryz.func154, Tryz.ntmps154
 go_upto_region 1 with fail
 have hO := (Own.push (T := 72) (ls := zZ) (cs := [.int .i64 0, .bool false, .slice none 0 0]) (Own.push (T := 74) (ls := [.z x.num, .z (x.den : Int)]) (cs := [.int .i64 zz, .bool uy, .slice ru (List.length rq) c0a, .int .i64 Bv, .bool ym, .slice vg (List.length ve) c0b]) (Own.nil w) (gu.z f0a (gu.z Aw rfl)) (w.heap.size) rfl) (((gu.vs w [.int .i64 0, .bool false, .slice none 0 0] rfl) : gu w zZ [.int .i64 0, .bool false, .slice none 0 0]).below (by repeat (first | exact Below.refl _ _ | refine jc ?_ _))) (w.heap.size + 1) (by simp only [World.size_alloc]))
 generalize (w.alloc (.cells #[.int .i64 zz, .bool uy, .slice ru (List.length rq) c0a, .int .i64 Bv, .bool ym, .slice vg (List.length ve) c0b] 74)).alloc (.cells #[.int .i64 0, .bool false, .slice none 0 0] 72) = W0 at *
 have HO := hide hO
 clear hO
 go_upto_region 1 with fail
 refine Rg.dz 5 8 (Rg.pick [Rg.ax (.pointer (some ⟨w.heap.size, 0, none⟩)), ai [.z x.num], Rg.ax (.pointer (some ⟨w.heap.size, 3, none⟩)), ai [.z (x.den : Int)], ai [.z (x.num / (x.den : Int))]]) (az w _ W0) gm [] kr rfl (Rg.fq.pick ⟨Rg.ae _, au _, Rg.ae _, au _, au _, trivial⟩) (az.begin (aa HO))
  (ag (Ez (b := w.heap.size) (off := 0) rfl aF rfl rfl)
  (ag (fw ny ky (aT 0) [] [.z x.num] [.z (x.den : Int)])
  (ag (Cn (b := w.heap.size) (off := 0) rfl aF rfl rfl)
  (ag (fw ny ky (aT 2) [.z x.num] [.z (x.den : Int)] [])
  (ag (sc2 Tryz.func182 (aT 1) (aT 3) (fun W v0 v1 hG h0 h1 => avs (aa HX).1 (aa HX).2.1 (aa HX).2.2.1 (aa HX).2.2.2 W _ h0 _ h1))
  Rg.bg))))) ?_
 intro v1 V1 hG1 hv1 hne1
 simp only [Rg.puts, Act.put, tA]
 have hO := hG1.1
 refine jd hO 0 [] zZ [.z (x.num / (x.den : Int))] [] rfl Bo rfl (show ai [.z (x.num / (x.den : Int))] V1 (v1 4) from hv1 4 (by decide)) rfl rfl rfl ?_
 intro uo gy hk0
 replace hO := gy
 clear gy
 clear HO
 have HO := hide hO
 clear hO hG1 hv1 hne1 hk0
 go_wp2_with fail
 exact xu Tryz.results154 Rp rfl (aa HO) me0 rfl rfl
theorem Wi {n d p e : Int} (ok : Wd.xh n d ∧ Wd.xh p e) (w : World) (u0 : Value) (h0 : ai [iv n, iv d, iv p, iv e] w u0) :
  Calls Tryz.prog 95 #[u0] w (il (ai [.q (Wd.qR n d), .q (Wd.qR p e)]) w) := by
 have Jr := hide ok
 clear ok
 have hu0 := Bg h0
 subst hu0
 go_enter Tryz.func95, Tryz.ntmps95
 go_upto_region 1 with fail
 have hO := (Own.push (T := 108) (ls := zE) (cs := [.int .i64 0, .bool false, .slice none 0 0, .int .i64 0, .bool false, .slice none 0 0, .int .i64 0, .bool false, .slice none 0 0, .int .i64 0, .bool false, .slice none 0 0]) (Own.push (T := 41) (ls := [iv n, iv d, iv p, iv e]) (cs := [.int .i64 n, .int .i64 d, .int .i64 p, .int .i64 e]) (Own.nil w) (gu.v (jm _) (gu.v (jm _) (gu.v (jm _) (gu.v (jm _) rfl)))) (w.heap.size) rfl) (((gu.vs w [.int .i64 0, .bool false, .slice none 0 0, .int .i64 0, .bool false, .slice none 0 0, .int .i64 0, .bool false, .slice none 0 0, .int .i64 0, .bool false, .slice none 0 0] rfl) : gu w zE [.int .i64 0, .bool false, .slice none 0 0, .int .i64 0, .bool false, .slice none 0 0, .int .i64 0, .bool false, .slice none 0 0, .int .i64 0, .bool false, .slice none 0 0]).below (by repeat (first | exact Below.refl _ _ | refine jc ?_ _))) (w.heap.size + 1) (by simp only [World.size_alloc]))
 generalize (w.alloc (.cells #[.int .i64 n, .int .i64 d, .int .i64 p, .int .i64 e] 41)).alloc (.cells #[.int .i64 0, .bool false, .slice none 0 0, .int .i64 0, .bool false, .slice none 0 0, .int .i64 0, .bool false, .slice none 0 0, .int .i64 0, .bool false, .slice none 0 0] 108) = W0 at *
 have HO := hide hO
 clear hO
 go_upto_region 1 with fail
 refine Rg.region 7 10 (Rg.pick [Rg.ax (.pointer (some ⟨w.heap.size, 0, none⟩)), ai [iv n, iv d], ai [.q (Wd.qR n d)], Rg.ax (.pointer (some ⟨w.heap.size, 2, none⟩)), ai [iv p, iv e], ai [.q (Wd.qR p e)], ai [.q (Wd.qR n d), .q (Wd.qR p e)]]) (az w _ W0) gm [] kr kr rfl (Rg.fq.pick ⟨Rg.ae _, au _, au _, Rg.ae _, au _, au _, au _, trivial⟩) (az.start (aa HO))
  (ag (Cm (b := w.heap.size) (off := 0) rfl aF rfl rfl)
  (ag (fw xc ky (aT 0) [] [iv n, iv d] [iv p, iv e])
  (ag (sc1 Tryz.func57 (aT 1) (fun W v0 hG h0 => beb (aa Jr).1 h0))
  (ag (Dc (b := w.heap.size) (off := 0) rfl aF rfl rfl)
  (ag (fw xc ky (aT 3) [iv n, iv d] [iv p, iv e] [])
  (ag (sc1 Tryz.func57 (aT 4) (fun W v0 hG h0 => beb (aa Jr).2 h0))
  (ag (xx akf rfl (aT 2) (aT 5) rfl rfl rfl)
  Rg.bg))))))) ?_
 intro v1 V1 hG1 hv1 hne1
 simp only [Rg.puts, Act.put, tA]
 have hO := hG1.1
 refine jd hO 0 [] zE [.q (Wd.qR n d), .q (Wd.qR p e)] [] rfl Oe rfl (show ai [.q (Wd.qR n d), .q (Wd.qR p e)] V1 (v1 6) from hv1 6 (by decide)) rfl rfl rfl ?_
 intro uo gy hk0
 replace hO := gy
 clear gy
 clear HO
 have HO := hide hO
 clear hO hG1 hv1 hne1 hk0
 go_wp2_with fail
 exact xu Tryz.results95 Om rfl (aa HO) me0 rfl rfl
theorem bas : (Rat.divInt 2 1).num ≠ 0 := by rw [(Wd.Bw 2).1]; decide
theorem bba : Sm 1 (Rat.divInt 2 1) := ⟨⟨by rw [(Wd.Bw 2).1]; exact Wd.Sz.of_le (by rw [ic]; omega) qj (Nat.le_refl _), by rw [(Wd.Bw 2).2]; exact Wd.Sz.of_le (by rw [ic]; omega) qj (Nat.le_refl _)⟩, by omega⟩
theorem avr {x y : Rat} {K : Nat} (sx : Sm K x) (sy : Sm K y) (hK : K + K + 1 ≤ 1000000) (w : World) (hT : qy w) (u0 : Value) (h0 : ai [.q x, .q y] w u0) :
  Calls Tryz.prog 101 #[u0] w (il (ai [.q ((x + y) / Rat.divInt 2 1)]) w) := by
 have HX := hide (And.intro sx (And.intro sy (And.intro (sx.add sy hK w hT) (bba.mono (show 1 ≤ K + K + 1 by omega) hK))))
 have HT := hide hT
 clear sx sy hK hT
 obtain ⟨zz, uy, ru, c0a, rq, Bv, ym, vg, c0b, ve, Lp, Lv, Nb, Mq, Me, Lm, Lu, Na, Mo, Md, rfl, f0a, Aw, Vz, Vy⟩ := Px h0
 go_enter Tryz.func101, Tryz.ntmps101
 go_upto_region 1 with fail
 have hO := (Own.push (T := 74) (ls := zQ) (cs := [.int .i64 0, .bool false, .slice none 0 0, .int .i64 0, .bool false, .slice none 0 0]) (Own.push (T := 108) (ls := [.q x, .q y]) (cs := [.int .i64 zz, .bool uy, .slice ru (List.length rq) c0a, .int .i64 Bv, .bool ym, .slice vg (List.length ve) c0b, .int .i64 Lp, .bool Lv, .slice Nb (List.length Me) Mq, .int .i64 Lm, .bool Lu, .slice Na (List.length Md) Mo]) (Own.nil w) (gu.q f0a Aw (gu.q Vz Vy rfl)) (w.heap.size) rfl) (((gu.vs w [.int .i64 0, .bool false, .slice none 0 0, .int .i64 0, .bool false, .slice none 0 0] rfl) : gu w zQ [.int .i64 0, .bool false, .slice none 0 0, .int .i64 0, .bool false, .slice none 0 0]).below (by repeat (first | exact Below.refl _ _ | refine jc ?_ _))) (w.heap.size + 1) (by simp only [World.size_alloc]))
 generalize (w.alloc (.cells #[.int .i64 zz, .bool uy, .slice ru (List.length rq) c0a, .int .i64 Bv, .bool ym, .slice vg (List.length ve) c0b, .int .i64 Lp, .bool Lv, .slice Nb (List.length Me) Mq, .int .i64 Lm, .bool Lu, .slice Na (List.length Md) Mo] 108)).alloc (.cells #[.int .i64 0, .bool false, .slice none 0 0, .int .i64 0, .bool false, .slice none 0 0] 74) = W0 at *
 have HO := hide hO
 clear hO
 go_upto_region 1 with fail
 refine Rg.dz 7 10 (Rg.pick [Rg.ax (.pointer (some ⟨w.heap.size, 0, none⟩)), ai [.q x], Rg.ax (.pointer (some ⟨w.heap.size, 6, none⟩)), ai [.q y], ai [.q (x + y)], ai [.q (Rat.divInt 2 1)], ai [.q ((x + y) / Rat.divInt 2 1)]]) (az w _ W0) gm [] kr rfl (Rg.fq.pick ⟨Rg.ae _, au _, Rg.ae _, au _, au _, au _, au _, trivial⟩) (az.begin (aa HO))
  (ag (Bu (b := w.heap.size) (off := 0) rfl aF rfl rfl)
  (ag (fw lu ky (aT 0) [] [.q x] [.q y])
  (ag (Co (b := w.heap.size) (off := 0) rfl aF rfl rfl)
  (ag (fw lu ky (aT 2) [.q x] [.q y] [])
  (ag (sc2 Tryz.func78 (aT 1) (aT 3) (fun W v0 v1 hG h0 h1 => amv ((aa HT).below hG.bel) (aa HX).1 (aa HX).2.1 h0 h1))
  (ag (sc1 Tryz.func77 (Rg.je _) (fun W v0 hG h0 => by cases h0; exact acg 2 om om W))
  (ag (sc2 Tryz.func113 (aT 4) (aT 5) (fun W v0 v1 hG h0 h1 => bgl ((aa HT).below hG.bel) (aa HX).2.2.1 (aa HX).2.2.2 bas h0 h1))
  Rg.bg))))))) ?_
 intro v1 V1 hG1 hv1 hne1
 simp only [Rg.puts, Act.put, tA]
 have hO := hG1.1
 refine jd hO 0 [] zQ [.q ((x + y) / Rat.divInt 2 1)] [] rfl zb rfl (show ai [.q ((x + y) / Rat.divInt 2 1)] V1 (v1 6) from hv1 6 (by decide)) rfl rfl rfl ?_
 intro uo gy hk0
 replace hO := gy
 clear gy
 clear HO
 have HO := hide hO
 clear hO hG1 hv1 hne1 hk0
 go_wp2_with fail
 exact xu Tryz.results101 Kw rfl (aa HO) me0 rfl rfl
theorem ahs {W : World} {v0 : Value} {x : Rat} (h0 : ai [.q x] W v0) : Calls Tryz.prog 59 #[v0] W (il (qa [ai [.v (.int .i64 (Wd.told x).n), .v (.int .i64 (Wd.told x).d)], Rg.ax (.int .i64 (Wd.told x).e)]) W) :=
 (bgk h0).mono fun e w' ⟨u, h1, h2, h3⟩ => ⟨u, h1, h2, by
  have h4 : u = _ := h3
  subst h4
  exact ⟨[_, _], rfl, _, _, rfl, Uf _ _ _, _, _, rfl, rfl, rfl⟩⟩
theorem aoi {x y : Rat} (xn xd xe yn yd ye r1 r2 r3 r4 re : Int) (w : World) (u0 : Value) (h0 : ai [.q x, .q y] w u0)
  (cx : ∀ (W : World) (v0 : Value), ai [.q x] W v0 → Calls Tryz.prog 59 #[v0] W (il (qa [ai [.v (.int .i64 xn), .v (.int .i64 xd)], Rg.ax (.int .i64 xe)]) W))
  (cy : ∀ (W : World) (v0 : Value), ai [.q y] W v0 → Calls Tryz.prog 59 #[v0] W (il (qa [ai [.v (.int .i64 yn), .v (.int .i64 yd)], Rg.ax (.int .i64 ye)]) W))
  (hr : (xe ≠ 0 → r1 = 0 ∧ r2 = 0 ∧ r3 = 0 ∧ r4 = 0 ∧ xe = re) ∧ (ye ≠ 0 → r1 = 0 ∧ r2 = 0 ∧ r3 = 0 ∧ r4 = 0 ∧ ye = re) ∧ (xe = 0 → ye = 0 → xn = r1 ∧ xd = r2 ∧ yn = r3 ∧ yd = r4 ∧ re = 0)) :
  Calls Tryz.prog 97 #[u0] w (il (qa [ai [.v (.int .i64 r1), .v (.int .i64 r2), .v (.int .i64 r3), .v (.int .i64 r4)], Rg.ax (.int .i64 re)]) w) := by
 have HCX := hide cx
 have HCY := hide cy
 have HR := hide hr
 clear cx cy hr
 obtain ⟨zz, uy, ru, c0a, rq, Bv, ym, vg, c0b, ve, Lp, Lv, Nb, Mq, Me, Lm, Lu, Na, Mo, Md, rfl, f0a, Aw, Vz, Vy⟩ := Px h0
 go_enter Tryz.func97, Tryz.ntmps97
 go_upto_region 1 with fail
 have hO := (Own.push (T := 41) (ls := zS) (cs := [.int .i64 0, .int .i64 0, .int .i64 0, .int .i64 0]) (Own.push (T := 108) (ls := [.q x, .q y]) (cs := [.int .i64 zz, .bool uy, .slice ru (List.length rq) c0a, .int .i64 Bv, .bool ym, .slice vg (List.length ve) c0b, .int .i64 Lp, .bool Lv, .slice Nb (List.length Me) Mq, .int .i64 Lm, .bool Lu, .slice Na (List.length Md) Mo]) (Own.nil w) (gu.q f0a Aw (gu.q Vz Vy rfl)) (w.heap.size) rfl) (((gu.vs w [.int .i64 0, .int .i64 0, .int .i64 0, .int .i64 0] rfl) : gu w zS [.int .i64 0, .int .i64 0, .int .i64 0, .int .i64 0]).below (by repeat (first | exact Below.refl _ _ | refine jc ?_ _))) (w.heap.size + 1) (by simp only [World.size_alloc]))
 generalize (w.alloc (.cells #[.int .i64 zz, .bool uy, .slice ru (List.length rq) c0a, .int .i64 Bv, .bool ym, .slice vg (List.length ve) c0b, .int .i64 Lp, .bool Lv, .slice Nb (List.length Me) Mq, .int .i64 Lm, .bool Lu, .slice Na (List.length Md) Mo] 108)).alloc (.cells #[.int .i64 0, .int .i64 0, .int .i64 0, .int .i64 0] 41) = W0 at *
 have HO := hide hO
 clear hO
 go_upto_region 1 with fail
 refine Rg.dz 7 30 (Rg.pick [Rg.ax (.pointer (some ⟨w.heap.size, 0, none⟩)), ai [.q x], qa [ai [iv xn, iv xd], Rg.ax (.int .i64 xe)], qa [ai [iv xn, iv xd], Rg.ax (.int .i64 xe)], ai [iv xn, iv xd], Rg.ax (.int .i64 xe), qf 23 zR W0.heap.size]) (az w _ W0) gm [6] kr rfl (Rg.fq.pick ⟨Rg.ae _, au _, ko ⟨(au _), (Rg.ae _), trivial⟩, ko ⟨(au _), (Rg.ae _), trivial⟩, au _, Rg.ae _, qh _ _ _, trivial⟩) (az.begin (aa HO))
  (ag (Bu (b := w.heap.size) (off := 0) rfl aF rfl rfl)
  (ag (fw lu ky (aT 0) [] [.q x] [.q y])
  (ag (sc1 Tryz.func59 (aT 1) (fun W v0 hG h0 => aa HCX W v0 h0))
  (ag (dm rfl (aT 2))
  (ag (ma (ts := [ai [iv xn, iv xd], Rg.ax (.int .i64 xe)]) rfl (aT 3) (of_decide_eq_true rfl) rfl)
  (ag (ma (ts := [ai [iv xn, iv xd], Rg.ax (.int .i64 xe)]) rfl (aT 3) (of_decide_eq_true rfl) rfl)
  (ag (si Hq rfl az.step az.size rfl (uw (by intro j hj; simp at hj; (repeat' (first | (rcases hj with rfl | hj))) <;> first | (subst hj; exact ⟨_, _, _, rfl⟩) | exact ⟨_, _, _, rfl⟩)))
  Rg.bg))))))) ?_
 intro v1 V1 hG1 hv1 hne1
 simp only [Rg.puts, Act.put, tA]
 have e5 : v1 5 = .int .i64 xe := hv1 5 (by decide)
 obtain ⟨Zj, e6, xg, Ar⟩ := (show qf 23 zR W0.heap.size V1 (v1 6) from hv1 6 (by decide))
 simp only [e5, e6]
 have hO := hG1.1
 replace hO := Own.add (aa HO) hG1.2 xg Ar
 clear xg Ar
 refine jd hO 0 [] zR [iv xn, iv xd] [] rfl Di rfl (show ai [iv xn, iv xd] V1 (v1 4) from hv1 4 (by decide)) rfl rfl rfl ?_
 intro uo gy hk0
 replace hO := gy
 clear gy
 clear HO
 have HO := hide hO
 clear hO hG1 hv1 hne1 hk0
 try clear e5 e6
 by_cases g : xe = 0
 ·
  have hx0 := g
  have d1 : (xe != 0) = false := by simp [bne, beq_iff_eq.2 g]
  clear g
  go_upto_region 2 with fail
  refine Rg.dz 2 30 (Rg.pick [Rg.ax (.int .i64 xe), Rg.ax (.bool false)]) (az w _ uo) gm [] kr rfl (Rg.fq.pick ⟨Rg.ae _, Rg.ae _, trivial⟩) (az.begin (aa HO))
   (ag (dm rfl aF)
   (ag (Au rfl (aT 0) (Rg.je _) rfl d1)
   Rg.bg)) ?_
  intro v2 V2 hG2 hv2 hne2
  simp only [Rg.puts, Act.put, tA]
  have e1 : v2 1 = .bool false := hv2 1 (by decide)
  simp only [e1]
  have hO := hG2.1
  clear HO
  have HO := hide hO
  clear hO hG2 hv2 hne2
  try clear e1
  go_upto_region 4 with fail
  refine Rg.dz 7 30 (Rg.pick [Rg.ax (.pointer (some ⟨w.heap.size, 6, none⟩)), ai [.q y], qa [ai [iv yn, iv yd], Rg.ax (.int .i64 ye)], qa [ai [iv yn, iv yd], Rg.ax (.int .i64 ye)], ai [iv yn, iv yd], Rg.ax (.int .i64 ye), qf 23 zR V2.heap.size]) (az w _ V2) gm [6] kr rfl (Rg.fq.pick ⟨Rg.ae _, au _, ko ⟨(au _), (Rg.ae _), trivial⟩, ko ⟨(au _), (Rg.ae _), trivial⟩, au _, Rg.ae _, qh _ _ _, trivial⟩) (az.begin (aa HO))
   (ag (Co (b := w.heap.size) (off := 0) rfl aF rfl rfl)
   (ag (fw lu rf (aT 0) [.q x] [.q y] [])
   (ag (sc1 Tryz.func59 (aT 1) (fun W v0 hG h0 => aa HCY W v0 h0))
   (ag (dm rfl (aT 2))
   (ag (ma (ts := [ai [iv yn, iv yd], Rg.ax (.int .i64 ye)]) rfl (aT 3) (of_decide_eq_true rfl) rfl)
   (ag (ma (ts := [ai [iv yn, iv yd], Rg.ax (.int .i64 ye)]) rfl (aT 3) (of_decide_eq_true rfl) rfl)
   (ag (si Hq rfl az.step az.size rfl (uw (by intro j hj; simp at hj; (repeat' (first | (rcases hj with rfl | hj))) <;> first | (subst hj; exact ⟨_, _, _, rfl⟩) | exact ⟨_, _, _, rfl⟩)))
   Rg.bg))))))) ?_
  intro v3 V3 hG3 hv3 mf
  simp only [Rg.puts, Act.put, tA]
  have e5 : v3 5 = .int .i64 ye := hv3 5 (by decide)
  obtain ⟨bqr, e6, xg, Ar⟩ := (show qf 23 zR V2.heap.size V3 (v3 6) from hv3 6 (by decide))
  simp only [e5, e6]
  have hO := hG3.1
  replace hO := Own.add (aa HO) hG3.2 xg Ar
  clear xg Ar
  refine jd hO 0 [] zR [iv yn, iv yd] [] rfl Di rfl (show ai [iv yn, iv yd] V3 (v3 4) from hv3 4 (by decide)) rfl rfl rfl ?_
  intro Da gy hk0
  replace hO := gy
  clear gy
  clear HO
  have HO := hide hO
  clear hO hG3 hv3 mf hk0
  try clear e5 e6
  by_cases g2 : ye = 0
  ·
   have d2 : (ye != 0) = false := by simp [bne, beq_iff_eq.2 g2]
   have hr := (aa HR).2.2 hx0 g2
   clear HR
   obtain ⟨rfl, rfl, rfl, rfl, rfl⟩ := hr
   go_upto_region 5 with fail
   refine Rg.dz 2 30 (Rg.pick [Rg.ax (.int .i64 ye), Rg.ax (.bool false)]) (az w _ Da) gm [] kr rfl (Rg.fq.pick ⟨Rg.ae _, Rg.ae _, trivial⟩) (az.begin (aa HO))
    (ag (dm rfl aF)
    (ag (Au rfl (aT 0) (Rg.je _) rfl d2)
    Rg.bg)) ?_
   intro v4 V4 hG4 hv4 ry
   simp only [Rg.puts, Act.put, tA]
   have e1 : v4 1 = .bool false := hv4 1 (by decide)
   simp only [e1]
   have hO := hG4.1
   clear HO
   have HO := hide hO
   clear hO hG4 hv4 ry
   try clear e1
   go_upto_region 7 with fail
   refine Rg.dz 3 30 (Rg.pick [ai [iv xn, iv xd], ai [iv yn, iv yd], ai [iv xn, iv xd, iv yn, iv yd]]) (az w _ V4) gm [] kr rfl (Rg.fq.pick ⟨au _, au _, au _, trivial⟩) (az.begin (aa HO))
    (ag (fw xc ky aF [] [iv xn, iv xd] [])
    (ag (fw xc me0 aF [] [iv yn, iv yd] [])
    (ag (xx Ht rfl (aT 0) (aT 1) rfl rfl rfl)
    Rg.bg))) ?_
   intro v5 V5 xq hv5 hne5
   simp only [Rg.puts, Act.put, tA]
   have hO := xq.1
   refine jd hO 2 [] zS [iv xn, iv xd, iv yn, iv yd] [] rfl mg rfl (show ai [iv xn, iv xd, iv yn, iv yd] V5 (v5 2) from hv5 2 (by decide)) rfl rfl rfl ?_
   intro Ld gy hk0
   replace hO := gy
   clear gy
   clear HO
   have HO := hide hO
   clear hO xq hv5 hne5 hk0
   go_wp2_with fail
   exact yz Tryz.results97 qg rfl rfl (aa HO) rf rfl rfl
  ·
   have d2 : (ye != 0) = true := by simp [bne, beq_eq_false_iff_ne.2 g2]
   have hr := (aa HR).2.1 g2
   clear HR
   obtain ⟨rfl, rfl, rfl, rfl, rfl⟩ := hr
   go_upto_region 5 with fail
   refine Rg.dz 2 30 (Rg.pick [Rg.ax (.int .i64 ye), Rg.ax (.bool true)]) (az w _ Da) gm [] kr rfl (Rg.fq.pick ⟨Rg.ae _, Rg.ae _, trivial⟩) (az.begin (aa HO))
    (ag (dm rfl aF)
    (ag (Au rfl (aT 0) (Rg.je _) rfl d2)
    Rg.bg)) ?_
   intro v4 V4 hG4 hv4 ry
   simp only [Rg.puts, Act.put, tA]
   have e1 : v4 1 = .bool true := hv4 1 (by decide)
   simp only [e1]
   have hO := hG4.1
   clear HO
   have HO := hide hO
   clear hO hG4 hv4 ry
   try clear e1
   go_upto_region 6 with fail
   refine Rg.dz 2 30 (Rg.pick [ai zS, Rg.ax (.int .i64 ye)]) (az w _ V4) gm [] kr rfl (Rg.fq.pick ⟨au _, Rg.ae _, trivial⟩) (az.begin (aa HO))
    (ag (ui uj rfl rfl rfl)
    (ag (dm rfl aF)
    Rg.bg)) ?_
   intro v5 V5 xq hv5 hne5
   simp only [Rg.puts, Act.put, tA]
   have e1 : v5 1 = .int .i64 ye := hv5 1 (by decide)
   simp only [e1]
   have hO := xq.1
   refine jd hO 2 [] zS zS [] rfl mg rfl (show ai zS V5 (v5 0) from hv5 0 (by decide)) rfl rfl rfl ?_
   intro Ld gy hk0
   replace hO := gy
   clear gy
   clear HO
   have HO := hide hO
   clear hO xq hv5 hne5 hk0
   try clear e1
   go_wp2_with fail
   exact yz Tryz.results97 qg rfl rfl (aa HO) rf rfl rfl
 ·
  have d1 : (xe != 0) = true := by simp [bne, beq_eq_false_iff_ne.2 g]
  have hr := (aa HR).1 g
  clear HR
  obtain ⟨rfl, rfl, rfl, rfl, rfl⟩ := hr
  go_upto_region 2 with fail
  refine Rg.dz 2 30 (Rg.pick [Rg.ax (.int .i64 xe), Rg.ax (.bool true)]) (az w _ uo) gm [] kr rfl (Rg.fq.pick ⟨Rg.ae _, Rg.ae _, trivial⟩) (az.begin (aa HO))
   (ag (dm rfl aF)
   (ag (Au rfl (aT 0) (Rg.je _) rfl d1)
   Rg.bg)) ?_
  intro v2 V2 hG2 hv2 hne2
  simp only [Rg.puts, Act.put, tA]
  have e1 : v2 1 = .bool true := hv2 1 (by decide)
  simp only [e1]
  have hO := hG2.1
  clear HO
  have HO := hide hO
  clear hO hG2 hv2 hne2
  try clear e1
  go_upto_region 3 with fail
  refine Rg.dz 2 30 (Rg.pick [ai zS, Rg.ax (.int .i64 xe)]) (az w _ V2) gm [] kr rfl (Rg.fq.pick ⟨au _, Rg.ae _, trivial⟩) (az.begin (aa HO))
   (ag (ui uj rfl rfl rfl)
   (ag (dm rfl aF)
   Rg.bg)) ?_
  intro v3 V3 hG3 hv3 mf
  simp only [Rg.puts, Act.put, tA]
  have e1 : v3 1 = .int .i64 xe := hv3 1 (by decide)
  simp only [e1]
  have hO := hG3.1
  refine jd hO 1 [] zS zS [] rfl mg rfl (show ai zS V3 (v3 0) from hv3 0 (by decide)) rfl rfl rfl ?_
  intro Da gy hk0
  replace hO := gy
  clear gy
  clear HO
  have HO := hide hO
  clear hO hG3 hv3 mf hk0
  try clear e1
  go_wp2_with fail
  exact yz Tryz.results97 qg rfl rfl (aa HO) ky rfl rfl
structure Er where
 a : Int
 b : Int
 c : Int
 d : Int
 e : Int
def Ea (x y : Rat) : Er := if Wd.fits x ∧ Wd.fits y then ⟨x.num, x.den, y.num, y.den, 0⟩ else ⟨0, 0, 0, 0, 3⟩
abbrev Im (t : Er) : World → Value → Prop := qa [ai [.v (.int .i64 t.a), .v (.int .i64 t.b), .v (.int .i64 t.c), .v (.int .i64 t.d)], Rg.ax (.int .i64 t.e)]
theorem ahr {x y : Rat} (w : World) (u0 : Value) (h0 : ai [.q x, .q y] w u0) : Calls Tryz.prog 97 #[u0] w (il (Im (Ea x y)) w) := by
 refine aoi _ _ _ _ _ _ _ _ _ _ _ w u0 h0 (fun W v h => ahs h) (fun W v h => ahs h) ?_
 unfold Ea Wd.told
 by_cases f1 : Wd.fits x <;> by_cases f2 : Wd.fits y <;> simp [f1, f2]
end Sb

end Go.Proofs.YtjdnmdlnaoedoaaGreatDoor
