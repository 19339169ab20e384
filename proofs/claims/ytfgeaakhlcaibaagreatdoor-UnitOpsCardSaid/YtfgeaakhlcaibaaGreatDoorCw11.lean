/- Texts beneath a law of layer 1. -/
import Derived.Test.YtfgeaakhlcaibaaGreatDoorCw10
set_option maxRecDepth 100000
set_option maxHeartbeats 16000000
namespace Go.Proofs.YtfgeaakhlcaibaaGreatDoor
open Go.RowKit

namespace Sb
theorem _root_.Go.Proofs.YtfgeaakhlcaibaaGreatDoor.aT {l : List Oper} {n : Nat} {T : Nat → World → Value → Prop} {a0 : Act} {k : Nat} {t : Tmp} (j : Nat) (h : Rg.waits l k j t = true := by kernel_rfl) : Rg.iq l n T a0 k (.tmp t) (T j) := Rg.bnh j h
theorem _root_.Go.Proofs.YtfgeaakhlcaibaaGreatDoor.aF {l : List Oper} {n : Nat} {T : Nat → World → Value → Prop} {a0 : Act} {k : Nat} {t : Tmp} {c : Value} (h : Rg.Ev l n t = true := by kernel_rfl) (hc : a0.tmps.getD t undef = c := by rfl) : Rg.iq l n T a0 k (.tmp t) (Rg.ai c) := Rg.bni h hc
theorem _root_.Go.Proofs.YtfgeaakhlcaibaaGreatDoor.sc2 {P : Program} {Q : Exit → Act → World → Prop} {l : List Oper} {n : Nat} {T : Nat → World → Value → Prop} {w V : World} {bs : List Sb.xx} {al : List Nat} {a0 : Act} {k F d : Nat} {fn : Func} {ats : Array TypeId} {ty : TypeId} {pos : String} {af : Array Edge} {gd : Option (Nat × Bool)} {x1 x2 : Operand} {A1 A2 : World → Value → Prop} (hF : P.funcs[F]? = some fn) (h1 : Rg.iq l n T a0 k x1 A1) (h2 : Rg.iq l n T a0 k x2 A2) (hc : ∀ (W : World) (v1 v2 : Value), Sb.az w bs V W → A1 W v1 → A2 W v2 → Calls P F #[v1, v2] W fun e w' => ∃ u, e = .returned u ∧ dm W w' ∧ T k w' u) (hn : (!(fn.name == "runtime.NumGoroutine") && fn.body.isSome) = true := by kernel_rfl) (hal : al.contains k = false := by rfl) :
  Rg.Step P Q l n T (Sb.az w bs V) dm al a0 k { dst := some d, op := .call { callee := .value (.func F), args := #[x1, x2], argTypes := ats }, type := ty, pos := pos, after := af, guard := gd } := yz hF hn hal Sb.az.step h1 h2 hc
theorem _root_.Go.Proofs.YtfgeaakhlcaibaaGreatDoor.tA : (∀ {α : Type} {n : Nat} {a : α} {l : List α}, (a :: l).take (n + 1) = a :: l.take n) ∧ (∀ {α : Type} {l : List α}, l.take 0 = []) ∧ (∀ {α : Type} {n : Nat} {a : α} {l : List α}, (a :: l).drop (n + 1) = l.drop n) ∧ (∀ {α : Type} {l : List α}, l.drop 0 = l) ∧ (∀ {α : Type} {l : List α} {n : Nat} {a : α}, l.toArray.setIfInBounds n a = (l.set n a).toArray) ∧ (∀ {α : Type} {x a : α} {l : List α}, (x :: l).set 0 a = a :: l) ∧ (∀ {α : Type} {x a : α} {l : List α} {n : Nat}, (x :: l).set (n + 1) a = x :: l.set n a) := ⟨Sb.ta0, Sb.ta1, Sb.ta2, Sb.ta3, Sb.ta4, Sb.ta5, Sb.ta6⟩
theorem apf {xn xd yn yd g h a1 b1 n a2 b2 d : Int} (w : World) (u0 : Value) (h0 : au [.z xn, .z xd] w u0) (u1 : Value) (h1 : au [.z yn, .z yd] w u1)
  (hg1 : Ch w 164 xn yd g)
  (hg2 : Ch w 164 yn xd h)
  (ha1 : Ch w 165 xn g a1)
  (hb1 : Ch w 165 yn h b1)
  (hm1 : Ch w 147 a1 b1 n)
  (ha2 : Ch w 165 xd h a2)
  (hb2 : Ch w 165 yd g b2)
  (hm2 : Ch w 147 a2 b2 d) :
  Calls Tryz.prog 108 #[u0, u1] w (ik (au [.z n, .z d]) w) := by
 have Gm := hide hg1
 have HG2 := hide hg2
 have HA1 := hide ha1
 have HB1 := hide hb1
 have HM1 := hide hm1
 have HA2 := hide ha2
 have HB2 := hide hb2
 have HM2 := hide hm2
 clear hg1 hg2 ha1 hb1 hm1 ha2 hb2 hm2
 obtain ⟨Il, Cq, Bd, c0a, Az, Ke, Kj, Gw, c0b, Gq, rfl, f0a, Gt⟩ := Ni h0
 obtain ⟨Nu, Uc, Ct, c1a, Cr, Nt, n1b, Dp, Dh, Db, rfl, f1a, Pz⟩ := Ni h1
 go_enter Tryz.func108, Tryz.ntmps108
 go_upto_region 1 with fail
 have hO := (Own.push (T := 79) (ls := zQ) (Own.push (T := 79) (ls := [.z yn, .z yd]) (Own.push (T := 79) (ls := [.z xn, .z xd]) (Own.nil w) (eu.z f0a (eu.z Gt rfl)) (w.heap.size) rfl) (eu.below (by repeat (first | exact Below.refl _ _ | refine gm ?_ _)) (eu.z f1a (eu.z Pz rfl))) (w.heap.size + 1) (by simp only [World.size_alloc])) (eu.below (by repeat (first | exact Below.refl _ _ | refine gm ?_ _)) (eu.vs w [.int .i64 0, .bool false, .slice none 0 0, .int .i64 0, .bool false, .slice none 0 0] rfl)) (w.heap.size + 2) (by simp only [World.size_alloc]))
 generalize ((w.alloc (.cells #[.int .i64 Il, .bool Cq, .slice Bd (List.length Az) c0a, .int .i64 Ke, .bool Kj, .slice Gw (List.length Gq) c0b] 79)).alloc (.cells #[.int .i64 Nu, .bool Uc, .slice Ct (List.length Cr) c1a, .int .i64 Nt, .bool n1b, .slice Dp (List.length Db) Dh] 79)).alloc (.cells #[.int .i64 0, .bool false, .slice none 0 0, .int .i64 0, .bool false, .slice none 0 0] 79) = W0 at *
 have HO := hide hO
 clear hO
 go_upto_region 1 with fail
 go_upto_region 1 with fail
 refine Rg.aaz 14 36 (fun k => if k = 12 then 5 else 6) (Rg.pick [Rg.ai (.pointer (some ⟨w.heap.size, 0, none⟩)), au [.z xn], Rg.ai (.pointer (some ⟨w.heap.size + 1, 3, none⟩)), au [.z yd], au [.z g], Rg.ai (.pointer (some ⟨w.heap.size + 1, 0, none⟩)), au [.z yn], Rg.ai (.pointer (some ⟨w.heap.size, 3, none⟩)), au [.z xd], au [.z h], fun _ _ => True, fun _ _ => True, fun _ _ => True, fun _ _ => True]) (az w [(w.heap.size + 2, 79, zQ), (w.heap.size + 1, 79, [.z yn, .z yd]), (w.heap.size, 79, [.z xn, .z xd])] W0) (EX W0.heap.size 77) (J2 77 3 W0.heap.size 10 11 12 13 [.z g] [.z h]) kr kr kr rfl (Rg.df.pick ⟨(Jh _), (vg _), (Jh _), (vg _), (vg _), (Jh _), (vg _), (Jh _), (vg _), (vg _), (zt), (zt), (zt), (zt), trivial⟩) (az.start (aa HO)) (fun _ => J2.start) (fun _ _ _ _ h => J2.congr (n := 14) de h)
  (Rg.ko (Ci (Fe (b := w.heap.size) (off := 0) rfl aF rfl rfl))
   (Rg.ko (Ci (fw qp ru (aT 0) [] [.z xn] [.z xd]))
   (Rg.ko (Ci (Bl (b := w.heap.size + 1) (off := 0) rfl aF rfl rfl))
   (Rg.ko (Ci (fw qp mf (aT 2) [.z yn] [.z yd] []))
   (Rg.ko (Ci (yz Tryz.func164 kr rfl az.step (aT 1) (aT 3) (fun W v0 v1 hG h0 h1 => i2 (aa Gm) hG.bel h0 h1)))
   (Rg.ko (Ci (Fe (b := w.heap.size + 1) (off := 0) rfl aF rfl rfl))
   (Rg.ko (Ci (fw qp mf (aT 5) [] [.z yn] [.z yd]))
   (Rg.ko (Ci (Bl (b := w.heap.size) (off := 0) rfl aF rfl rfl))
   (Rg.ko (Ci (fw qp ru (aT 7) [.z xn] [.z xd] []))
   (Rg.ko (Ci (yz Tryz.func164 kr rfl az.step (aT 6) (aT 8) (fun W v0 v1 hG h0 h1 => i2 (aa HG2) hG.bel h0 h1)))
   (Rg.ko (Vd Ob rfl rfl rfl)
   (Rg.ko (Wv Ob rfl rfl rfl)
   (Rg.ko (Vb (aa HO) Em kr (aT 4) rfl rfl rfl)
   (Rg.ko (Wu (aa HO) Em kr (aT 9) rfl rfl rfl)
   Rg.Qv)))))))))))))) ?_
 intro v1 V1 hG1 hJ1 hv1 hne1
 simp only [Rg.puts, Act.put, tA]
 obtain ⟨_, _, hd1, hf1, hg1⟩ := hJ1
 obtain ⟨bsv, e10, axq, bdi⟩ := (hf1 trivial).2
 obtain ⟨bsu, e11, axp, bdh⟩ := (hg1 trivial).2
 simp only [e10, e11]
 have hO := Own.ani (aa HO) hG1.2 axq bdi axp bdh (fun h => hd1 trivial trivial (by rw [e10, e11, h]))
 clear axq bdi axp bdh hd1 hf1 hg1
 clear HO
 have HO := hide hO
 clear hO hG1 hv1 hne1
 try clear e10 e11
 go_upto_region 2 with fail
 refine Rg.region 19 36 (Rg.pick [Rg.ai (.pointer (some ⟨w.heap.size, 0, none⟩)), au [.z xn], au [.z g], au [.z a1], Rg.ai (.pointer (some ⟨w.heap.size + 1, 0, none⟩)), au [.z yn], au [.z h], au [.z b1], au [.z n], Rg.ai (.pointer (some ⟨w.heap.size, 3, none⟩)), au [.z xd], au [.z h], au [.z a2], Rg.ai (.pointer (some ⟨w.heap.size + 1, 3, none⟩)), au [.z yd], au [.z g], au [.z b2], au [.z d], au [.z n, .z d]]) (az w _ V1) dm [] kr kr rfl (Rg.df.pick ⟨Rg.ae _, ay _, ay _, ay _, Rg.ae _, ay _, ay _, ay _, ay _, Rg.ae _, ay _, ay _, ay _, Rg.ae _, ay _, ay _, ay _, ay _, ay _, trivial⟩) (az.start (aa HO))
  (ag (Fe (b := w.heap.size) (off := 0) rfl aF rfl rfl)
  (ag (fw qp me4 (aT 0) [] [.z xn] [.z xd])
  (ag (fw qp mf aF [] [.z g] [])
  (ag (sc2 Tryz.func165 (aT 1) (aT 2) (fun W v0 v1 hG h0 h1 => i2 (aa HA1) hG.bel h0 h1))
  (ag (Fe (b := w.heap.size + 1) (off := 0) rfl aF rfl rfl)
  (ag (fw qp Gh (aT 4) [] [.z yn] [.z yd])
  (ag (fw qp me0 aF [] [.z h] [])
  (ag (sc2 Tryz.func165 (aT 5) (aT 6) (fun W v0 v1 hG h0 h1 => i2 (aa HB1) hG.bel h0 h1))
  (ag (sc2 Tryz.func147 (aT 3) (aT 7) (fun W v0 v1 hG h0 h1 => i2 (aa HM1) hG.bel h0 h1))
  (ag (Bl (b := w.heap.size) (off := 0) rfl aF rfl rfl)
  (ag (fw qp me4 (aT 9) [.z xn] [.z xd] [])
  (ag (fw qp me0 aF [] [.z h] [])
  (ag (sc2 Tryz.func165 (aT 10) (aT 11) (fun W v0 v1 hG h0 h1 => i2 (aa HA2) hG.bel h0 h1))
  (ag (Bl (b := w.heap.size + 1) (off := 0) rfl aF rfl rfl)
  (ag (fw qp Gh (aT 13) [.z yn] [.z yd] [])
  (ag (fw qp mf aF [] [.z g] [])
  (ag (sc2 Tryz.func165 (aT 14) (aT 15) (fun W v0 v1 hG h0 h1 => i2 (aa HB2) hG.bel h0 h1))
  (ag (sc2 Tryz.func147 (aT 12) (aT 16) (fun W v0 v1 hG h0 h1 => i2 (aa HM2) hG.bel h0 h1))
  (ag (Bv abn rfl (aT 8) (aT 17) rfl rfl rfl)
  Rg.bf))))))))))))))))))) ?_
 intro v2 V2 hG2 hv2 hne2
 simp only [Rg.puts, Act.put, tA]
 have hO := hG2.1
 refine ji hO 2 [] zQ [.z n, .z d] [] rfl Ht rfl (show au [.z n, .z d] V2 (v2 18) from hv2 18 de) rfl rfl rfl ?_
 intro Cc fu hk0
 replace hO := fu
 clear fu
 clear HO
 have HO := hide hO
 clear hO hG2 hv2 hne2 hk0
 go_wp2_with fail
 exact Am Tryz.results108 Mk rfl (aa HO) ru rfl rfl
theorem apj {xn xd yn yd g p q m1 m2 n h a e d : Int} (w : World) (u0 : Value) (h0 : au [.z xn, .z xd] w u0) (u1 : Value) (h1 : au [.z yn, .z yd] w u1)
  (h1k : Ch w 164 xd yd g)
  (h2k : Ch w 165 xd g p)
  (h3k : Ch w 165 yd g q)
  (h4k : Ch w 147 xn q m1)
  (h5k : Ch w 147 yn p m2)
  (h6k : Ch w 166 m1 m2 n)
  (h7k : Ch w 164 g n h)
  (h8k : Ch w 165 n h a)
  (h9k : Ch w 165 yd h e)
  (bfa : Ch w 147 p e d) :
  Calls Tryz.prog 93 #[u0, u1] w (ik (au [.z a, .z d]) w) := by
 have H1 := hide h1k
 have H2 := hide h2k
 have H3 := hide h3k
 have H4 := hide h4k
 have H5 := hide h5k
 have H6 := hide h6k
 have H7 := hide h7k
 have H8 := hide h8k
 have H9 := hide h9k
 have H10 := hide bfa
 clear h1k h2k h3k h4k h5k h6k h7k h8k h9k bfa
 obtain ⟨Il, Cq, Bd, c0a, Az, Ke, Kj, Gw, c0b, Gq, rfl, f0a, Gt⟩ := Ni h0
 obtain ⟨Nu, Uc, Ct, c1a, Cr, Nt, n1b, Dp, Dh, Db, rfl, f1a, Pz⟩ := Ni h1
 go_enter Tryz.func93, Tryz.ntmps93
 go_upto_region 1 with fail
 have hO := (Own.push (T := 79) (ls := zQ) (Own.push (T := 79) (ls := [.z yn, .z yd]) (Own.push (T := 79) (ls := [.z xn, .z xd]) (Own.nil w) (eu.z f0a (eu.z Gt rfl)) (w.heap.size) rfl) (eu.below (by repeat (first | exact Below.refl _ _ | refine gm ?_ _)) (eu.z f1a (eu.z Pz rfl))) (w.heap.size + 1) (by simp only [World.size_alloc])) (eu.below (by repeat (first | exact Below.refl _ _ | refine gm ?_ _)) (eu.vs w [.int .i64 0, .bool false, .slice none 0 0, .int .i64 0, .bool false, .slice none 0 0] rfl)) (w.heap.size + 2) (by simp only [World.size_alloc]))
 generalize ((w.alloc (.cells #[.int .i64 Il, .bool Cq, .slice Bd (List.length Az) c0a, .int .i64 Ke, .bool Kj, .slice Gw (List.length Gq) c0b] 79)).alloc (.cells #[.int .i64 Nu, .bool Uc, .slice Ct (List.length Cr) c1a, .int .i64 Nt, .bool n1b, .slice Dp (List.length Db) Dh] 79)).alloc (.cells #[.int .i64 0, .bool false, .slice none 0 0, .int .i64 0, .bool false, .slice none 0 0] 79) = W0 at *
 have HO := hide hO
 clear hO
 go_upto_region 1 with fail
 refine Rg.bg 6 45 (Rg.pick [Rg.ai (.pointer (some ⟨w.heap.size, 3, none⟩)), au [.z xd], Rg.ai (.pointer (some ⟨w.heap.size + 1, 3, none⟩)), au [.z yd], au [.z g], nk 77 zZ W0.heap.size]) (az w _ W0) dm [5] kr rfl (Rg.df.pick ⟨Rg.ae _, ay _, Rg.ae _, ay _, ay _, og _ _ _, trivial⟩) (az.begin (aa HO))
  (ag (Bl (b := w.heap.size) (off := 0) rfl aF rfl rfl)
  (ag (fw qp ru (aT 0) [.z xn] [.z xd] [])
  (ag (Bl (b := w.heap.size + 1) (off := 0) rfl aF rfl rfl)
  (ag (fw qp mf (aT 2) [.z yn] [.z yd] [])
  (ag (sc2 Tryz.func164 (aT 1) (aT 3) (fun W v0 v1 hG h0 h1 => i2 (aa H1) hG.bel h0 h1))
  (ag (qd Ob rfl az.step az.size rfl (rq (by intro j hj; simp at hj; (repeat' (first | (rcases hj with rfl | hj))) <;> first | (subst hj; exact ⟨_, _, _, rfl⟩) | exact ⟨_, _, _, rfl⟩)))
  Rg.bf)))))) ?_
 intro v1 V1 hG1 hv1 hne1
 simp only [Rg.puts, Act.put, tA]
 obtain ⟨anh, e5, Fs, Km⟩ := (show nk 77 zZ W0.heap.size V1 (v1 5) from hv1 5 de)
 simp only [e5]
 have hO := hG1.1
 replace hO := Own.add (aa HO) hG1.2 Fs Km
 clear Fs Km
 refine ji hO 0 [] zZ [.z g] [] rfl Em rfl (show au [.z g] V1 (v1 4) from hv1 4 de) rfl rfl rfl ?_
 intro ui fu hk0
 replace hO := fu
 clear fu
 clear HO
 have HO := hide hO
 clear hO hG1 hv1 hne1 hk0
 try clear e5
 go_upto_region 2 with fail
 go_upto_region 2 with fail
 refine Rg.aaz 12 45 (fun k => if k = 10 then 6 else 7) (Rg.pick [Rg.ai (.pointer (some ⟨w.heap.size, 3, none⟩)), au [.z xd], au [.z g], au [.z p], Rg.ai (.pointer (some ⟨w.heap.size + 1, 3, none⟩)), au [.z yd], au [.z g], au [.z q], fun _ _ => True, fun _ _ => True, fun _ _ => True, fun _ _ => True]) (az w [(anh, 77, [.z g]), (w.heap.size + 2, 79, zQ), (w.heap.size + 1, 79, [.z yn, .z yd]), (w.heap.size, 79, [.z xn, .z xd])] ui) (EX ui.heap.size 77) (J2 77 3 ui.heap.size 8 9 10 11 [.z p] [.z q]) kr kr kr rfl (Rg.df.pick ⟨(Jh _), (vg _), (vg _), (vg _), (Jh _), (vg _), (vg _), (vg _), (zt), (zt), (zt), (zt), trivial⟩) (az.start (aa HO)) (fun _ => J2.start) (fun _ _ _ _ h => J2.congr (n := 12) de h)
  (Rg.ko (Ci (Bl (b := w.heap.size) (off := 0) rfl aF rfl rfl))
   (Rg.ko (Ci (fw qp Gh (aT 0) [.z xn] [.z xd] []))
   (Rg.ko (Ci (fw qp me0 aF [] [.z g] []))
   (Rg.ko (Ci (yz Tryz.func165 kr rfl az.step (aT 1) (aT 2) (fun W v0 v1 hG h0 h1 => i2 (aa H2) hG.bel h0 h1)))
   (Rg.ko (Ci (Bl (b := w.heap.size + 1) (off := 0) rfl aF rfl rfl))
   (Rg.ko (Ci (fw qp ru (aT 4) [.z yn] [.z yd] []))
   (Rg.ko (Ci (fw qp me0 aF [] [.z g] []))
   (Rg.ko (Ci (yz Tryz.func165 kr rfl az.step (aT 5) (aT 6) (fun W v0 v1 hG h0 h1 => i2 (aa H3) hG.bel h0 h1)))
   (Rg.ko (Vd Ob rfl rfl rfl)
   (Rg.ko (Wv Ob rfl rfl rfl)
   (Rg.ko (Vb (aa HO) Em kr (aT 3) rfl rfl rfl)
   (Rg.ko (Wu (aa HO) Em kr (aT 7) rfl rfl rfl)
   Rg.Qv)))))))))))) ?_
 intro v2 V2 hG2 hJ2 hv2 hne2
 simp only [Rg.puts, Act.put, tA]
 obtain ⟨_, _, hd2, hf2, hg2⟩ := hJ2
 obtain ⟨bts, e8, bea, hz8⟩ := (hf2 trivial).2
 obtain ⟨btr, e9, agp, hz9⟩ := (hg2 trivial).2
 simp only [e8, e9]
 have hO := Own.ani (aa HO) hG2.2 bea hz8 agp hz9 (fun h => hd2 trivial trivial (by rw [e8, e9, h]))
 clear bea hz8 agp hz9 hd2 hf2 hg2
 clear HO
 have HO := hide hO
 clear hO hG2 hv2 hne2
 try clear e8 e9
 go_upto_region 3 with fail
 go_upto_region 3 with fail
 refine Rg.azp 11 45 (fun _ => 8) (Rg.pick [Rg.ai (.pointer (some ⟨w.heap.size, 0, none⟩)), au [.z xn], au [.z q], au [.z m1], Rg.ai (.pointer (some ⟨w.heap.size + 1, 0, none⟩)), au [.z yn], au [.z p], au [.z m2], au [.z n], Iu 77 3 V2.heap.size, Jt 77 [.z n] V2.heap.size]) (az w _ V2) (EN V2.heap.size 77 [.z n]) kr kr kr rfl (Rg.df.pick ⟨(aem _), (Fa _), (Fa _), (Fa _), (aem _), (Fa _), (Fa _), (Fa _), (Fa _), (ald), (aog), trivial⟩) (az.start (aa HO))
  (Rg.yf (Rg.Cv rfl rfl (Ag (Fe (b := w.heap.size) (off := 0) rfl aF rfl rfl)))
   (Rg.yf (Rg.Cv rfl rfl (Ag (fw qp me5 (aT 0) [] [.z xn] [.z xd])))
   (Rg.yf (Rg.Cv rfl rfl (Ag (fw qp me0 aF [] [.z q] [])))
   (Rg.yf (Rg.Cv rfl rfl (Ag (yz Tryz.func147 kr rfl az.step (aT 1) (aT 2) (fun W v0 v1 hG h0 h1 => i2 (aa H4) hG.bel h0 h1))))
   (Rg.yf (Rg.Cv rfl rfl (Ag (Fe (b := w.heap.size + 1) (off := 0) rfl aF rfl rfl)))
   (Rg.yf (Rg.Cv rfl rfl (Ag (fw qp me4 (aT 4) [] [.z yn] [.z yd])))
   (Rg.yf (Rg.Cv rfl rfl (Ag (fw qp mf aF [] [.z p] [])))
   (Rg.yf (Rg.Cv rfl rfl (Ag (yz Tryz.func147 kr rfl az.step (aT 5) (aT 6) (fun W v0 v1 hG h0 h1 => i2 (aa H5) hG.bel h0 h1))))
   (Rg.yf (Rg.Cv rfl rfl (Ag (yz Tryz.func166 kr rfl az.step (aT 3) (aT 7) (fun W v0 v1 hG h0 h1 => i2 (aa H6) hG.bel h0 h1))))
   (Rg.yf (Rg.Cv rfl rfl (Ag (asz Ob rfl rfl az.step az.size rfl)))
   (Rg.yf (asw (aa HO) Em (aT 9) (aT 8) rfl rfl rfl)
   Rg.alc))))))))))) ?_
 intro v3 V3 hG3 hv3 ja
 simp only [Rg.puts, Act.put, tA]
 have e0 : v3 0 = .pointer (some ⟨w.heap.size, 0, none⟩) := hv3 0 de
 have e4 : v3 4 = .pointer (some ⟨w.heap.size + 1, 0, none⟩) := hv3 4 de
 have e99 : v3 10 = v3 9 := ja 10 9 de de rfl rfl
 obtain ⟨btp, e9, agp, hz9⟩ := (show Jt 77 [.z n] V2.heap.size V3 (v3 10) from hv3 10 de)
 rw [e99] at e9
 clear e99
 simp only [e0, e4, e9]
 have hO := Own.add (aa HO) hG3.2 agp hz9
 clear agp hz9
 clear HO
 have HO := hide hO
 clear hO hG3 hv3 ja
 try clear e0 e4 e9
 go_upto_region 4 with fail
 refine Rg.bg 4 45 (Rg.pick [au [.z g], au [.z n], au [.z h], nk 77 zZ V3.heap.size]) (az w _ V3) dm [3] kr rfl (Rg.df.pick ⟨ay _, ay _, ay _, og _ _ _, trivial⟩) (az.begin (aa HO))
  (ag (fw qp Gh aF [] [.z g] [])
  (ag (fw qp me0 aF [] [.z n] [])
  (ag (sc2 Tryz.func164 (aT 0) (aT 1) (fun W v0 v1 hG h0 h1 => i2 (aa H7) hG.bel h0 h1))
  (ag (qd Ob rfl az.step az.size rfl (rq (by intro j hj; simp at hj; (repeat' (first | (rcases hj with rfl | hj))) <;> first | (subst hj; exact ⟨_, _, _, rfl⟩) | exact ⟨_, _, _, rfl⟩)))
  Rg.bf)))) ?_
 intro v4 V4 hG4 hv4 mo
 simp only [Rg.puts, Act.put, tA]
 obtain ⟨bto, e3, beb, hz3⟩ := (show nk 77 zZ V3.heap.size V4 (v4 3) from hv4 3 de)
 simp only [e3]
 have hO := hG4.1
 replace hO := Own.add (aa HO) hG4.2 beb hz3
 clear beb hz3
 refine ji hO 0 [] zZ [.z h] [] rfl Em rfl (show au [.z h] V4 (v4 2) from hv4 2 de) rfl rfl rfl ?_
 intro Ai fu hk0
 replace hO := fu
 clear fu
 clear HO
 have HO := hide hO
 clear hO hG4 hv4 mo hk0
 try clear e3
 go_upto_region 5 with fail
 refine Rg.region 10 45 (Rg.pick [au [.z n], au [.z h], au [.z a], au [.z p], Rg.ai (.pointer (some ⟨w.heap.size + 1, 3, none⟩)), au [.z yd], au [.z h], au [.z e], au [.z d], au [.z a, .z d]]) (az w _ Ai) dm [] kr kr rfl (Rg.df.pick ⟨ay _, ay _, ay _, ay _, Rg.ae _, ay _, ay _, ay _, ay _, ay _, trivial⟩) (az.start (aa HO))
  (ag (fw qp mf aF [] [.z n] [])
  (ag (fw qp me0 aF [] [.z h] [])
  (ag (sc2 Tryz.func165 (aT 0) (aT 1) (fun W v0 v1 hG h0 h1 => i2 (aa H8) hG.bel h0 h1))
  (ag (fw qp Gh aF [] [.z p] [])
  (ag (Bl (b := w.heap.size + 1) (off := 0) rfl aF rfl rfl)
  (ag (fw qp me6 (aT 4) [.z yn] [.z yd] [])
  (ag (fw qp me0 aF [] [.z h] [])
  (ag (sc2 Tryz.func165 (aT 5) (aT 6) (fun W v0 v1 hG h0 h1 => i2 (aa H9) hG.bel h0 h1))
  (ag (sc2 Tryz.func147 (aT 3) (aT 7) (fun W v0 v1 hG h0 h1 => i2 (aa H10) hG.bel h0 h1))
  (ag (Bv abn rfl (aT 2) (aT 8) rfl rfl rfl)
  Rg.bf)))))))))) ?_
 intro v5 V5 wy hv5 hne5
 simp only [Rg.puts, Act.put, tA]
 have hO := wy.1
 refine ji hO 5 [] zQ [.z a, .z d] [] rfl Ht rfl (show au [.z a, .z d] V5 (v5 9) from hv5 9 de) rfl rfl rfl ?_
 intro Er fu hk0
 replace hO := fu
 clear fu
 clear HO
 have HO := hide hO
 clear hO wy hv5 hne5 hk0
 go_wp2_with fail
 exact Am Tryz.results93 Mk rfl (aa HO) me5 rfl rfl
end Sb

end Go.Proofs.YtfgeaakhlcaibaaGreatDoor
namespace Go.Proofs.YtfgeaakhlcaibaaGreatDoor
open Go.RowKit Sb

theorem ajt {w : World} {K : Nat} (hT : qa w) (x y : Rat) (hx : zn K x) (hy : zn K y) (hK : K + K + 1 ≤ lim) : Fy w 93 x y (x + y) ∧ zn (K + K + 1) (x + y) := by
 have dx : (x.den : Int) ≠ 0 := by have := x.den_pos; omega
 have dy : (y.den : Int) ≠ 0 := by have := y.den_pos; omega
 obtain ⟨g, hg⟩ : ∃ g, g = x.den.gcd y.den := ⟨_, rfl⟩
 obtain ⟨xd, hxd⟩ : ∃ z, z = (x.den : Int).tdiv g := ⟨_, rfl⟩
 obtain ⟨yd, hyd⟩ : ∃ z, z = (y.den : Int).tdiv g := ⟨_, rfl⟩
 obtain ⟨m1, hm1⟩ : ∃ z, z = x.num * yd := ⟨_, rfl⟩
 obtain ⟨m2, hm2⟩ : ∃ z, z = y.num * xd := ⟨_, rfl⟩
 obtain ⟨n, hn⟩ : ∃ z, z = m1 + m2 := ⟨_, rfl⟩
 obtain ⟨h, hh⟩ : ∃ h, h = g.gcd n.natAbs := ⟨_, rfl⟩
 obtain ⟨e1, he1⟩ : ∃ z, z = (y.den : Int).tdiv h := ⟨_, rfl⟩
 have hp := Wd.adn x y g h n hg (by rw [hn, hm1, hm2, hxd, hyd]) hh
 have g0 : 0 < g := by rw [hg]; exact Nat.gcd_pos_of_pos_left _ x.den_pos
 have h0 : 0 < h := by rw [hh]; exact Nat.gcd_pos_of_pos_left _ g0
 have sg : Wd.Sz dz K (g : Int) := by
  have := hx.2.gcd_left (b := (y.den : Int)) dx
  simpa [hg] using this
 have sh : Wd.Sz dz K (h : Int) := by
  have := sg.gcd_left (b := n) om
  simpa [hh] using this
 have sxd : Wd.Sz dz K xd := by rw [hxd]; exact hx.2.tdiv _
 have syd : Wd.Sz dz K yd := by rw [hyd]; exact hy.2.tdiv _
 have sm1 : Wd.Sz dz (K + K) m1 := by rw [hm1]; exact hx.1.mul syd
 have sm2 : Wd.Sz dz (K + K) m2 := by rw [hm2]; exact hy.1.mul sxd
 have sn : Wd.Sz dz (K + K + 1) n := by rw [hn]; exact sm1.add qh sm2
 have se1 : Wd.Sz dz K e1 := by rw [he1]; exact hy.2.tdiv _
 have B := qh
 have up : ∀ z, Wd.Sz dz K z → Wd.Sz dz (K + K + 1) z := fun z hz => hz.mono B om
 refine ⟨?_, ⟨by rw [hp.1]; exact sn.tdiv _, by rw [hp.2]; exact ((hx.2.tdiv _).mul (hy.2.tdiv _)).mono B om⟩⟩
 rw [Fy, hp.1, hp.2]
 exact fun s1 dw A1 c1 l1 s2 di A2 c2 l2 s3 uu A3 c3 l3 s4 Dy A4 c4 l4 W hW f1 f2 f3 f4 => (apj W _ ⟨_, rfl, eu.z f1 (eu.z f2 rfl)⟩ _ ⟨_, rfl, eu.z f3 (eu.z f4 rfl)⟩
  (Pq (hT.below hW) (up _ hx.2) (up _ hy.2) hK (by simp [hg])) (Ef (up _ hx.2) (up _ sg) hK om hxd) (Ef (up _ hy.2) (up _ sg) hK om hyd)
  (Pp (up _ hx.1) (up _ syd) hK hm1) (Pp (up _ hy.1) (up _ sxd) hK hm2) (bcs (sm1.mono B om) (sm2.mono B om) hK hn)
  (Pq (hT.below hW) (up _ sg) sn hK (by simp [hh])) (Ef sn (up _ sh) hK om rfl) (Ef (up _ hy.2) (up _ sh) hK om he1) (Pp (up _ sxd) (up _ se1) hK (by rw [hxd, he1]))).mono fun _ _ h => apq h

theorem abb {w : World} {K : Nat} (hT : qa w) (x y : Rat) (hx : zn K x) (hy : zn K y) (hK : K + K + 1 ≤ lim) : Fy w 108 x y (x * y) ∧ zn (K + K) (x * y) := by
 have dx : (x.den : Int) ≠ 0 := by have := x.den_pos; omega
 have dy : (y.den : Int) ≠ 0 := by have := y.den_pos; omega
 obtain ⟨g, hg⟩ : ∃ g, g = x.num.natAbs.gcd y.den := ⟨_, rfl⟩
 obtain ⟨h, hh⟩ : ∃ h, h = y.num.natAbs.gcd x.den := ⟨_, rfl⟩
 obtain ⟨a1, ha1⟩ : ∃ z, z = x.num.tdiv g := ⟨_, rfl⟩
 obtain ⟨b1, hb1⟩ : ∃ z, z = y.num.tdiv h := ⟨_, rfl⟩
 obtain ⟨a2, ha2⟩ : ∃ z, z = (x.den : Int).tdiv h := ⟨_, rfl⟩
 obtain ⟨b2, hb2⟩ : ∃ z, z = (y.den : Int).tdiv g := ⟨_, rfl⟩
 have hp := Wd.adj x y g h hg hh
 have g0 : 0 < g := by rw [hg]; exact Nat.gcd_pos_of_pos_right _ y.den_pos
 have h0 : 0 < h := by rw [hh]; exact Nat.gcd_pos_of_pos_right _ x.den_pos
 have sg : Wd.Sz dz K (g : Int) := by
  have := hy.2.gcd_right (a := x.num) dy
  simpa [hg] using this
 have sh : Wd.Sz dz K (h : Int) := by
  have := hx.2.gcd_right (a := y.num) dx
  simpa [hh] using this
 have sa1 : Wd.Sz dz K a1 := by rw [ha1]; exact hx.1.tdiv _
 have sb1 : Wd.Sz dz K b1 := by rw [hb1]; exact hy.1.tdiv _
 have sa2 : Wd.Sz dz K a2 := by rw [ha2]; exact hx.2.tdiv _
 have sb2 : Wd.Sz dz K b2 := by rw [hb2]; exact hy.2.tdiv _
 have hK1 : K ≤ lim := by omega
 refine ⟨?_, ⟨by rw [hp.1, ← ha1, ← hb1]; exact sa1.mul sb1, by rw [hp.2, ← ha2, ← hb2]; exact sa2.mul sb2⟩⟩
 rw [Fy, hp.1, hp.2]
 exact fun s1 dw A1 c1 l1 s2 di A2 c2 l2 s3 uu A3 c3 l3 s4 Dy A4 c4 l4 W hW f1 f2 f3 f4 => (apf W _ ⟨_, rfl, eu.z f1 (eu.z f2 rfl)⟩ _ ⟨_, rfl, eu.z f3 (eu.z f4 rfl)⟩
  (Pq (hT.below hW) hx.1 hy.2 hK1 (by simp [hg])) (Pq (hT.below hW) hy.1 hx.2 hK1 (by simp [hh])) (Ef hx.1 sg hK1 om ha1) (Ef hy.1 sh hK1 om hb1)
  (Pp sa1 sb1 hK1 (by rw [ha1, hb1])) (Ef hx.2 sh hK1 om ha2) (Ef hy.2 sg hK1 om hb2) (Pp sa2 sb2 hK1 (by rw [ha2, hb2]))).mono fun _ _ h => apq h


namespace Sb
theorem apk {w w' : World} {q : Rat} {e : Ending} (h : ik (au [.q q]) w e w') : Hd w q.num (q.den : Int) e w' := by
 obtain ⟨u, rfl, hb, h⟩ := h
 obtain ⟨s1, n1, A1, c1, l1, s2, n2, A2, c2, l2, rfl, f1, f2⟩ := Ha h
 exact ⟨_, _, _, _, _, _, _, _, _, _, rfl, f1, f2, hb⟩
theorem q1b {F : Nat} {x q : Rat} {w W : World} {v0 : Value} (h : Nk w F x q) (hb : Below w.heap.size w W) (h0 : au [.q x] W v0) : Calls Tryz.prog F #[v0] W (ik (au [.q q]) W) := axz (h.mono hb) h0
theorem q2b {F : Nat} {x y q : Rat} {w W : World} {v0 v1 : Value} (h : Fy w F x y q) (hb : Below w.heap.size w W) (h0 : au [.q x] W v0) (h1 : au [.q y] W v1) : Calls Tryz.prog F #[v0, v1] W (ik (au [.q q]) W) := anc (h.mono hb) h0 h1
theorem _root_.Go.Proofs.YtfgeaakhlcaibaaGreatDoor.sc1 {P : Program} {Q : Exit → Act → World → Prop} {l : List Oper} {n : Nat} {T : Nat → World → Value → Prop} {w V : World} {bs : List Sb.xx} {al : List Nat} {a0 : Act} {k F d : Nat} {fn : Func} {ats : Array TypeId} {ty : TypeId} {pos : String} {af : Array Edge} {gd : Option (Nat × Bool)} {x1 : Operand} {A1 : World → Value → Prop} (hF : P.funcs[F]? = some fn) (h1 : Rg.iq l n T a0 k x1 A1) (hc : ∀ (W : World) (v1 : Value), Sb.az w bs V W → A1 W v1 → Calls P F #[v1] W fun e w' => ∃ u, e = .returned u ∧ dm W w' ∧ T k w' u) (hn : (!(fn.name == "runtime.NumGoroutine") && fn.body.isSome) = true := by kernel_rfl) (hal : al.contains k = false := by rfl) :
  Rg.Step P Q l n T (Sb.az w bs V) dm al a0 k { dst := some d, op := .call { callee := .value (.func F), args := #[x1], argTypes := ats }, type := ty, pos := pos, after := af, guard := gd } := Bt hF hn hal Sb.az.step h1 hc
theorem aoz {x y v q : Rat} (w : World) (u0 : Value) (h0 : au [.q x] w u0) (u1 : Value) (h1 : au [.q y] w u1) (g1 : Nk w 88 y v) (g2 : Fy w 93 x v q) :
  Calls Tryz.prog 78 #[u0, u1] w (ik (au [.q q]) w) := by
 have H1 := hide g1
 have H2 := hide g2
 clear g1 g2
 obtain ⟨Il, Cq, Bd, c0a, Az, Ke, Kj, Gw, c0b, Gq, rfl, f0a, Gt⟩ := Ha h0
 obtain ⟨Nu, Uc, Ct, c1a, Cr, Nt, n1b, Dp, Dh, Db, rfl, f1a, Pz⟩ := Ha h1
 go_enter Tryz.func78, Tryz.ntmps78
 go_upto_region 1 with fail
 have hO := (Own.push (T := 79) (ls := zQ) (Own.push (T := 79) (ls := [.q y]) (Own.push (T := 79) (ls := [.q x]) (Own.nil w) (eu.q f0a Gt rfl) (w.heap.size) rfl) (eu.below (by repeat (first | exact Below.refl _ _ | refine gm ?_ _)) (eu.q f1a Pz rfl)) (w.heap.size + 1) (by simp only [World.size_alloc])) (eu.below (by repeat (first | exact Below.refl _ _ | refine gm ?_ _)) (eu.vs w [.int .i64 0, .bool false, .slice none 0 0, .int .i64 0, .bool false, .slice none 0 0] rfl)) (w.heap.size + 2) (by simp only [World.size_alloc]))
 generalize ((w.alloc (.cells #[.int .i64 Il, .bool Cq, .slice Bd (List.length Az) c0a, .int .i64 Ke, .bool Kj, .slice Gw (List.length Gq) c0b] 79)).alloc (.cells #[.int .i64 Nu, .bool Uc, .slice Ct (List.length Cr) c1a, .int .i64 Nt, .bool n1b, .slice Dp (List.length Db) Dh] 79)).alloc (.cells #[.int .i64 0, .bool false, .slice none 0 0, .int .i64 0, .bool false, .slice none 0 0] 79) = W0 at *
 have HO := hide hO
 clear hO
 go_upto_region 1 with fail
 refine Rg.region 4 9 (Rg.pick [au [.q x], au [.q y], au [.q v], au [.q q]]) (az w _ W0) dm [] kr kr rfl (Rg.df.pick ⟨ay _, ay _, ay _, ay _, trivial⟩) (az.start (aa HO))
  (ag (fw Gp ru aF [] [.q x] [])
  (ag (fw Gp mf aF [] [.q y] [])
  (ag (sc1 Tryz.func88 (aT 1) (fun W v0 hG h0 => q1b (aa H1) hG.bel h0))
  (ag (sc2 Tryz.func93 (aT 0) (aT 2) (fun W v0 v1 hG h0 h1 => q2b (aa H2) hG.bel h0 h1))
  Rg.bf)))) ?_
 intro v1 V1 hG1 hv1 hne1
 simp only [Rg.puts, Act.put, tA]
 have hO := hG1.1
 refine ji hO 0 [] zQ [.q q] [] rfl Ht rfl (show au [.q q] V1 (v1 3) from hv1 3 de) rfl rfl rfl ?_
 intro ui fu hk0
 replace hO := fu
 clear fu
 clear HO
 have HO := hide hO
 clear hO hG1 hv1 hne1 hk0
 go_wp2_with fail
 exact Am Tryz.results78 Mk rfl (aa HO) me0 rfl rfl
theorem alu {w : World} {x y v q : Rat} (g1 : Nk w 88 y v) (g2 : Fy w 93 x v q) : Fy w 78 x y q :=
 fun _ _ _ _ _ _ _ _ _ _ _ _ _ _ _ _ _ _ _ _ W hW f1 f2 f3 f4 => (aoz W _ ⟨_, rfl, eu.q f1 f2 rfl⟩ _ ⟨_, rfl, eu.q f3 f4 rfl⟩ (g1.mono hW) (g2.mono hW)).mono fun _ _ h => apk h
theorem apd {x y v q : Rat} (w : World) (u0 : Value) (h0 : au [.q x] w u0) (u1 : Value) (h1 : au [.q y] w u1) (g1 : Nk w 94 y v) (g2 : Fy w 108 x v q) :
  Calls Tryz.prog 109 #[u0, u1] w (ik (au [.q q]) w) := by
 have H1 := hide g1
 have H2 := hide g2
 clear g1 g2
 obtain ⟨Il, Cq, Bd, c0a, Az, Ke, Kj, Gw, c0b, Gq, rfl, f0a, Gt⟩ := Ha h0
 obtain ⟨Nu, Uc, Ct, c1a, Cr, Nt, n1b, Dp, Dh, Db, rfl, f1a, Pz⟩ := Ha h1
 go_enter Tryz.func109, Tryz.ntmps109
 go_upto_region 1 with fail
 have hO := (Own.push (T := 79) (ls := zQ) (Own.push (T := 79) (ls := [.q y]) (Own.push (T := 79) (ls := [.q x]) (Own.nil w) (eu.q f0a Gt rfl) (w.heap.size) rfl) (eu.below (by repeat (first | exact Below.refl _ _ | refine gm ?_ _)) (eu.q f1a Pz rfl)) (w.heap.size + 1) (by simp only [World.size_alloc])) (eu.below (by repeat (first | exact Below.refl _ _ | refine gm ?_ _)) (eu.vs w [.int .i64 0, .bool false, .slice none 0 0, .int .i64 0, .bool false, .slice none 0 0] rfl)) (w.heap.size + 2) (by simp only [World.size_alloc]))
 generalize ((w.alloc (.cells #[.int .i64 Il, .bool Cq, .slice Bd (List.length Az) c0a, .int .i64 Ke, .bool Kj, .slice Gw (List.length Gq) c0b] 79)).alloc (.cells #[.int .i64 Nu, .bool Uc, .slice Ct (List.length Cr) c1a, .int .i64 Nt, .bool n1b, .slice Dp (List.length Db) Dh] 79)).alloc (.cells #[.int .i64 0, .bool false, .slice none 0 0, .int .i64 0, .bool false, .slice none 0 0] 79) = W0 at *
 have HO := hide hO
 clear hO
 go_upto_region 1 with fail
 refine Rg.region 4 9 (Rg.pick [au [.q x], au [.q y], au [.q v], au [.q q]]) (az w _ W0) dm [] kr kr rfl (Rg.df.pick ⟨ay _, ay _, ay _, ay _, trivial⟩) (az.start (aa HO))
  (ag (fw Gp ru aF [] [.q x] [])
  (ag (fw Gp mf aF [] [.q y] [])
  (ag (sc1 Tryz.func94 (aT 1) (fun W v0 hG h0 => q1b (aa H1) hG.bel h0))
  (ag (sc2 Tryz.func108 (aT 0) (aT 2) (fun W v0 v1 hG h0 h1 => q2b (aa H2) hG.bel h0 h1))
  Rg.bf)))) ?_
 intro v1 V1 hG1 hv1 hne1
 simp only [Rg.puts, Act.put, tA]
 have hO := hG1.1
 refine ji hO 0 [] zQ [.q q] [] rfl Ht rfl (show au [.q q] V1 (v1 3) from hv1 3 de) rfl rfl rfl ?_
 intro ui fu hk0
 replace hO := fu
 clear fu
 clear HO
 have HO := hide hO
 clear hO hG1 hv1 hne1 hk0
 go_wp2_with fail
 exact Am Tryz.results109 Mk rfl (aa HO) me0 rfl rfl
theorem alv {w : World} {x y v q : Rat} (g1 : Nk w 94 y v) (g2 : Fy w 108 x v q) : Fy w 109 x y q :=
 fun _ _ _ _ _ _ _ _ _ _ _ _ _ _ _ _ _ _ _ _ W hW f1 f2 f3 f4 => (apd W _ ⟨_, rfl, eu.q f1 f2 rfl⟩ _ ⟨_, rfl, eu.q f3 f4 rfl⟩ (g1.mono hW) (g2.mono hW)).mono fun _ _ h => apk h
end Sb
theorem azx {w : World} {K : Nat} (hT : qa w) (x y : Rat) (hx : zn K x) (hy : zn K y) (hK : K + K + 1 ≤ lim) : Fy w 78 x y (x - y) ∧ zn (K + K + 1) (x - y) := by
 obtain ⟨a, b⟩ := ajt hT x (-y) hx hy.neg hK
 rw [Rat.sub_eq_add_neg]
 exact ⟨alu (azy w y) a, b⟩
theorem ajr {w : World} {K : Nat} (hT : qa w) (x y : Rat) (hx : zn K x) (hy : zn K y) (hK : K + K + 1 ≤ lim) (h0 : y.num ≠ 0) : Fy w 109 x y (x / y) ∧ zn (K + K) (x / y) := by
 obtain ⟨a, b⟩ := abb hT x (y⁻¹) hx (hy.inv h0) hK
 rw [Rat.div_def]
 exact ⟨alv (ajs w y h0) a, b⟩

end Go.Proofs.YtfgeaakhlcaibaaGreatDoor
namespace Go.Proofs.YtfgeaakhlcaibaaGreatDoor
open Go.RowKit


theorem bct {n d : Int} (h : Wd.qy n d) : zn 1 (Wd.qR n d) := by
 obtain ⟨e1, e2⟩ := Wd.Nv h
 obtain ⟨h1, h2, h3, h4, _⟩ := h
 have B : (1000000000000 : Nat) < dz := by rw [gy]; omega
 exact ⟨by rw [e1]; exact Wd.Sz.of_le om qh (Nat.le_refl _), by rw [e2]; exact Wd.Sz.of_le om qh (Nat.le_refl _)⟩

namespace Sb
def Sm (K : Nat) (x : Rat) : Prop := zn K x ∧ K ≤ 1000000
theorem Sm.mono {K L : Nat} {x : Rat} (h : Sm K x) (hk : K ≤ L) (hl : L ≤ 1000000) : Sm L x := ⟨h.1.mono hk, hl⟩
theorem Jl : 100000000 ≤ lim := by unfold lim; omega
variable {W : World} {v0 v1 : Value} {x y : Rat} {K : Nat}
theorem Rz (hT : qa W) (hx : Sm K x) (hy : Sm K y) (h0 : au [.q x] W v0) (h1 : au [.q y] W v1) : Calls Tryz.prog 108 #[v0, v1] W (ik (au [.q (x * y)]) W) :=
 anc (abb hT x y hx.1 hy.1 (by have := hx.2; have := Jl; omega)).1 h0 h1
theorem bhs (hT : qa W) (hx : Sm K x) (hy : Sm K y) (hn : y.num ≠ 0) (h0 : au [.q x] W v0) (h1 : au [.q y] W v1) : Calls Tryz.prog 109 #[v0, v1] W (ik (au [.q (x / y)]) W) :=
 anc (ajr hT x y hx.1 hy.1 (by have := hx.2; have := Jl; omega) hn).1 h0 h1
theorem ahs {n d : Int} (ok : Wd.qy n d) (h0 : au [.v (.int .i64 n), .v (.int .i64 d)] W v0) : Calls Tryz.prog 67 #[v0] W (ik (au [.q (Wd.qR n d)]) W) := by
 rw [Fv h0]
 obtain ⟨e1, e2⟩ := Wd.Nv ok
 obtain ⟨h1, h2, h3, h4, _⟩ := ok
 refine (azo n d W om om om om).mono fun e w' h => Xm ?_
 rw [e1, e2]; exact h
theorem bhr (h0 : au [.q x] W v0) : Calls Tryz.prog 69 #[v0] W (ik (Rg.ai (.tuple #[.agg #[.int .i64 (Wd.told x).n, .int .i64 (Wd.told x).d], .int .i64 (Wd.told x).e])) W) := by
 obtain ⟨s1, n1, A1, c1, l1, s2, n2, A2, c2, l2, rfl, f1, f2⟩ := Ha h0
 exact (Xg s1 n1 A1 c1 l1 _ s2 n2 A2 c2 l2 _ W f1 f2 x rfl rfl).mono fun e w' h => Zu h
theorem bfk (n : Int) (h1 : -9223372036854775808 ≤ n) (h2 : n ≤ 9223372036854775807) (W : World) : Calls Tryz.prog 137 #[.int .i64 n] W (ik (au [.z n]) W) :=
 (Bf n h1 h2 W).mono fun e w' h => abg h
theorem Sm.add (hx : Sm K x) (hy : Sm K y) (h : K + K + 1 ≤ 1000000) (w : World) (hT : qa w) : Sm (K + K + 1) (x + y) := ⟨(ajt hT x y hx.1 hy.1 (by have := Jl; omega)).2, h⟩
theorem Sm.mul (hx : Sm K x) (hy : Sm K y) (h : K + K ≤ 1000000) (w : World) (hT : qa w) : Sm (K + K) (x * y) := ⟨(abb hT x y hx.1 hy.1 (by have := Jl; omega)).2, h⟩
theorem Sm.quo (hx : Sm K x) (hy : Sm K y) (h : K + K ≤ 1000000) (hn : y.num ≠ 0) (w : World) (hT : qa w) : Sm (K + K) (x / y) := ⟨(ajr hT x y hx.1 hy.1 (by have := Jl; omega) hn).2, h⟩
theorem Sm.neg (hx : Sm K x) : Sm K (-x) := ⟨hx.1.neg, hx.2⟩
theorem Au {n d : Int} (ok : Wd.qy n d) : Sm 1 (Wd.qR n d) := ⟨bct ok, by omega⟩
end Sb


def Fx (q : Rat) : World → Value → Prop := fun W v => ∃ A1 c1 l1 m1 A2 c2 l2 m2, v = (Value.agg #[.slice A1 (List.length l1) c1, .bool m1, .slice A2 (List.length l2) c2, .bool m2]) ∧ QV W A1 c1 l1 m1 A2 c2 l2 m2 q
theorem ajm (q : Rat) : Rg.Eb dm (Fx q) := by
 rintro w w' v hb ⟨A1, c1, l1, m1, A2, c2, l2, m2, rfl, h⟩
 exact ⟨_, _, _, _, _, _, _, _, rfl, h.below hb⟩
theorem avz {W : World} {b : Nat} (h : W.heap[b]? = some (.cells #[.slice none 0 0, .bool false, .slice none 0 0, .bool false] 68 (0, 0))) : Et W b 0 :=
 have h0 : jg W none 0 [] false 0 := ⟨qw.Rk W 0 om, rfl⟩
 ⟨none, 0, [], false, none, 0, [], false, h, h0, 0, h0, .inr ⟨rfl, rfl⟩⟩
theorem Et.lt {W : World} {b : Nat} {q : Rat} (h : Et W b q) : b < W.heap.size := by
 obtain ⟨_, _, _, _, _, _, _, _, h, _⟩ := h; exact lt_of_block h
theorem aow {ρ : Operand → Value} {w : World} {d : Option Tmp} {x : Operand} {b : Nat} {u0 u1 u2 u3 : Value} {ty : TypeId} {pos : String} {af : Array Edge} {gd : Option (Nat × Bool)} (h : ρ x = .pointer (some ⟨b, 0, none⟩)) (k0 : w.cell? ⟨b, 0, none⟩ = some u0) (k1 : w.cell? ⟨b, 1, none⟩ = some u1) (k2 : w.cell? ⟨b, 2, none⟩ = some u2) (k3 : w.cell? ⟨b, 3, none⟩ = some u3) :
  (execOp ρ { dst := d, op := .load 68 x, type := ty, pos := pos, after := af, guard := gd }).run Tryz.prog w = .ok (.value (.agg #[u0, u1, u2, u3])) w := by
 simp only [execOp, h]
 simp [go_sem, k0, k1, k2, k3]
theorem aza {Q : Exit → Act → World → Prop} {l : List Oper} {n : Nat} {T : Nat → World → Value → Prop} {G : World → Prop} {al : List Nat} {a0 : Act} {k d b : Nat} {x : Operand} {q : Rat} {ty : TypeId} {pos : String} {af : Array Edge} {gd : Option (Nat × Bool)}
  (hal : al.contains k = false) (hx : Rg.iq l n T a0 k x (Rg.ai (.pointer (some ⟨b, 0, none⟩)))) (hb : ∀ W, G W → Et W b q) (hT : T k = Fx q) :
  Rg.Step Tryz.prog Q l n T G dm al a0 k { dst := some d, op := .load 68 x, type := ty, pos := pos, after := af, guard := gd } := by
 intro a w hG hO hN
 obtain ⟨A1, c1, l1, m1, A2, c2, l2, m2, hk, hq⟩ := hb w hG
 exact jm (P := Tryz.prog) (aow (hx a w hO hN) (ah hk 0) (ah hk 1) (ah hk 2) (ah hk 3)) ⟨_, rfl, hG, Below.refl _ _, by rw [hT]; exact ⟨A1, c1, l1, m1, A2, c2, l2, m2, rfl, hq⟩, fun h => by rw [hal] at h; cases h⟩
structure Own (w : World) (bs : List (Nat × Rat)) (W : World) : Prop where
 bel : Below w.heap.size w W
 nd : (bs.map Prod.fst).Nodup
 box : ∀ b q, (b, q) ∈ bs → w.heap.size ≤ b ∧ Et W b q
theorem Own.nil (w : World) : Own w [] w := ⟨Below.refl _ _, List.nodup_nil, fun b q h => by cases h⟩
theorem Own.step {w : World} {bs : List (Nat × Rat)} : ∀ W W', Own w bs W → dm W W' → Own w bs W' := fun W W' h hb => ⟨bz h.bel hb, h.nd, fun b q hm => ⟨(h.box b q hm).1, (h.box b q hm).2.below hb⟩⟩
theorem Own.lt {w W : World} {bs : List (Nat × Rat)} {b : Nat} {q : Rat} (h : Own w bs W) (hm : (b, q) ∈ bs) : b < W.heap.size := (h.box b q hm).2.lt
theorem Own.add {w W V : World} {bs : List (Nat × Rat)} {b : Nat} {q : Rat} (h : Own w bs V) (Uo : dm V W) (hb : V.heap.size ≤ b) (hq : Et W b q) : Own w ((b, q) :: bs) W :=
 ⟨bz h.bel Uo, List.nodup_cons.2 ⟨fun hm => by
  obtain ⟨p, hp, he⟩ := List.mem_map.1 hm
  have := h.lt (b := p.1) (q := p.2) hp
  omega, h.nd⟩, fun b' q' hm => by
  rcases List.mem_cons.1 hm with e | hm
  ·
   cases e; exact ⟨Nat.le_trans h.bel.size hb, hq⟩
  ·
   exact ((Own.step V W h Uo).box b' q' hm)⟩
theorem Own.push {w W : World} {bs : List (Nat × Rat)} {q : Rat} {A1 : Option Addr} {c1 : Nat} {l1 : List Nat} {m1 : Bool} {A2 : Option Addr} {c2 : Nat} {l2 : List Nat} {m2 : Bool} (h : Own w bs W) (hv : QV W A1 c1 l1 m1 A2 c2 l2 m2 q) (b : Nat) (hb : b = W.heap.size) : Own w ((b, q) :: bs) (W.alloc (.cells #[.slice A1 l1.length c1, .bool m1, .slice A2 l2.length c2, .bool m2] 68)) := by
 subst hb
 exact h.add ((Below.refl _ _).alloc (Nat.le_refl _) _) (Nat.le_refl _) ⟨_, _, _, _, _, _, _, _, heap_alloc_new W _, hv.below ((Below.refl _ _).alloc (Nat.le_refl _) _)⟩
theorem Own.bhc {w W : World} {bs : List (Nat × Rat)} (h : Own w bs W) (b : Nat) (hb : b = W.heap.size) : Own w ((b, 0) :: bs) (W.alloc (.cells #[.slice none 0 0, .bool false, .slice none 0 0, .bool false] 68)) := by
 subst hb
 exact h.add ((Below.refl _ _).alloc (Nat.le_refl _) _) (Nat.le_refl _) (avz (heap_alloc_new W _))
theorem Own.other {w W : World} {bs : List (Nat × Rat)} (o : Obj) (h : Own w bs W) : Own w bs (W.alloc o) := Own.step _ _ h ((Below.refl _ _).alloc (Nat.le_refl _) _)
def bcc (W : World) (b : Nat) (v0 v1 v2 v3 : Value) : World := (((W.setCell ⟨b, 0, none⟩ v0).setCell ⟨b, 1, none⟩ v1).setCell ⟨b, 2, none⟩ v2).setCell ⟨b, 3, none⟩ v3
theorem Own.set {w W : World} {xs ys : List (Nat × Rat)} {b : Nat} {q0 q : Rat} {A1 : Option Addr} {c1 : Nat} {l1 : List Nat} {m1 : Bool} {A2 : Option Addr} {c2 : Nat} {l2 : List Nat} {m2 : Bool} (h : Own w (xs ++ (b, q0) :: ys) W) (hv : QV W A1 c1 l1 m1 A2 c2 l2 m2 q) :
  Own w (xs ++ (b, q) :: ys) (bcc W b (.slice A1 l1.length c1) (.bool m1) (.slice A2 l2.length c2) (.bool m2)) := by
 obtain ⟨hge, hb⟩ := h.box b q0 (List.mem_append_right _ List.mem_cons_self)
 obtain ⟨A, c, l, m, A', c', l', m', h1, h2⟩ := hb
 have hg := pq W b (.slice A1 l1.length c1) (.bool m1) (.slice A2 l2.length c2) (.bool m2)
 have hnd := h.nd
 rw [List.map_append, List.map_cons] at hnd
 have hn : ∀ b' q', (b', q') ∈ xs ++ ys → b' ≠ b := fun b' q' hm e => by
  subst e
  obtain ⟨_, h4, h5⟩ := List.nodup_append.1 hnd
  rcases List.mem_append.1 hm with hm | hm
  ·
   exact h5 b' (List.mem_map.2 ⟨_, hm, rfl⟩) b' List.mem_cons_self rfl
  ·
   exact (List.nodup_cons.1 h4).1 (List.mem_map.2 ⟨_, hm, rfl⟩)
 refine ⟨h.bel.grown hg h.bel.size (fun k hk => by injection hk with hk; omega), by rw [List.map_append, List.map_cons]; exact hnd, fun b' q' hm => ?_⟩
 rcases List.mem_append.1 hm with hm | hm
 rotate_left
 rcases List.mem_cons.1 hm with e | hm
 ·
  cases e
  exact ⟨hge, ⟨_, _, _, _, _, _, _, _, alg h1, hv.upto h1 (Aw _ _ _ _ _ _ _ _) hg⟩⟩
 all_goals
  have hne := hn b' q' (by first | exact List.mem_append_right _ hm | exact List.mem_append_left _ hm)
  obtain ⟨hge', B, d, r, p, B', d', r', p', g1, g2⟩ := h.box b' q' (by first | exact List.mem_append_right _ (List.mem_cons_of_mem _ hm) | exact List.mem_append_left _ hm)
  exact ⟨hge', B, d, r, p, B', d', r', p', (hg.block b' (lt_of_block g1) (fun e => hne (by first | exact Option.some.inj e | exact (Option.some.inj e).symm))).trans g1, g2.upto h1 (Aw _ _ _ _ _ _ _ _) hg⟩
theorem Own.ani {w W V : World} {bs : List (Nat × Rat)} {b b' : Nat} {q q' : Rat} (h : Own w bs V) (Uo : dm V W) (hb : V.heap.size ≤ b) (hq : Et W b q) (hb' : V.heap.size ≤ b') (hq' : Et W b' q') (hne : b' ≠ b) : Own w ((b', q') :: (b, q) :: bs) W := by
 have h1 := Own.add h Uo hb hq
 have h2 := Own.add h Uo hb' hq'
 refine ⟨h1.bel, List.nodup_cons.2 ⟨fun hm => ?_, h1.nd⟩, fun c p hm => ?_⟩
 ·
  rw [List.map_cons] at hm
  rcases List.mem_cons.1 hm with e | hm
  ·
   exact hne e
  ·
   exact (List.nodup_cons.1 h2.nd).1 hm
 ·
  rcases List.mem_cons.1 hm with e | hm
  ·
   cases e; exact h2.box _ _ List.mem_cons_self
  ·
   exact h1.box _ _ hm
def az (w : World) (bs : List (Nat × Rat)) (V : World) : World → Prop := fun W => Own w bs W ∧ dm V W
theorem az.step {w V : World} {bs : List (Nat × Rat)} : ∀ W W', az w bs V W → dm W W' → az w bs V W' := fun W W' h hb => ⟨Own.step W W' h.1 hb, bz h.2 hb⟩
theorem az.size {w V : World} {bs : List (Nat × Rat)} : ∀ W, az w bs V W → V.heap.size ≤ W.heap.size := fun _ h => h.2.size
theorem az.start {w V : World} {bs : List (Nat × Rat)} (h : Own w bs V) : az w bs V V.drew := ⟨Own.step _ _ h (dm.drew V), dm.drew V⟩
theorem az.begin {w V : World} {bs : List (Nat × Rat)} (h : Own w bs V) : az w bs V V := ⟨h, Below.refl _ _⟩
theorem az.box {w V W : World} {bs : List (Nat × Rat)} {b : Nat} {q : Rat} (hm : (b, q) ∈ bs) (h : az w bs V W) : Et W b q := (h.1.box b q hm).2
theorem Tu {w w' : World} {q : Rat} {e : Ending} (h : QR w q e w') : ik (Fx q) w e w' := by
 obtain ⟨A1, c1, l1, m1, A2, c2, l2, m2, rfl, h1, h2, hb⟩ := h
 exact ⟨_, rfl, hb, _, _, _, _, _, _, _, _, rfl, QV.of h1 h2⟩
def Wq (z : Int) : World → Value → Prop := fun W v => ∃ A c l m, v = .agg #[.slice A (List.length l) c, .bool m] ∧ jg W A c l m z
theorem ajl (z : Int) : Rg.Eb dm (Wq z) := by
 rintro w w' v hb ⟨A, c, l, m, rfl, h⟩
 exact ⟨_, _, _, _, rfl, h.below hb⟩
theorem alj {ρ : Operand → Value} {w : World} {d : Option Tmp} {x y : Operand} {u0 u1 u2 u3 : Value} {ty : TypeId} {pos : String} {af : Array Edge} {gd : Option (Nat × Bool)} (h : ρ x = .agg #[u0, u1]) (h' : ρ y = .agg #[u2, u3]) :
  (execOp ρ { dst := d, op := .build 68 #[(0, x), (1, y)], type := ty, pos := pos, after := af, guard := gd }).run Tryz.prog w = .ok (.value (.agg #[u0, u1, u2, u3])) w := by
 simp [execOp, h, h', go_sem]
theorem asy {Q : Exit → Act → World → Prop} {l : List Oper} {n : Nat} {T : Nat → World → Value → Prop} {G : World → Prop} {al : List Nat} {a0 : Act} {k d : Nat} {x y : Operand} {a b : Int} {q : Rat} {ty : TypeId} {pos : String} {af : Array Edge} {gd : Option (Nat × Bool)}
  (hal : al.contains k = false) (hx : Rg.iq l n T a0 k x (Wq a)) (hy : Rg.iq l n T a0 k y (Wq b)) (ha : a = q.num) (hb : b = (q.den : Int)) (hT : T k = Fx q) :
  Rg.Step Tryz.prog Q l n T G dm al a0 k { dst := some d, op := .build 68 #[(0, x), (1, y)], type := ty, pos := pos, after := af, guard := gd } := by
 intro s w hG hO hN
 obtain ⟨A1, c1, l1, m1, e1, h1⟩ := hx s w hO hN
 obtain ⟨A2, c2, l2, m2, e2, h2⟩ := hy s w hO hN
 subst ha; subst hb
 exact jm (P := Tryz.prog) (alj e1 e2) ⟨_, rfl, hG, Below.refl _ _, by rw [hT]; exact ⟨A1, c1, l1, m1, A2, c2, l2, m2, rfl, QV.of h1 h2⟩, fun h => by rw [hal] at h; cases h⟩
theorem aca {w w' : World} {z : Int} {e : Ending} (h : Gu w z e w') : ik (Wq z) w e w' := by
 obtain ⟨A, c, l, m, rfl, h1, hb⟩ := h
 exact ⟨_, rfl, hb, _, _, _, _, rfl, h1⟩
def bfx (w : World) (bs : List (Nat × Rat)) (r s : Nat) : World → Prop := fun W => ∃ p q, Own w ((r, p) :: (s, q) :: bs) W
theorem bfx.box {w W : World} {bs : List (Nat × Rat)} {r s b : Nat} {x : Rat} (hm : (b, x) ∈ bs) (h : bfx w bs r s W) : Et W b x := by
 obtain ⟨p, q, h⟩ := h
 exact (h.box b x (List.mem_cons_of_mem _ (List.mem_cons_of_mem _ hm))).2

namespace Sb
def wK (n : Int) : Kind where
 size := 2
 ok := fun W c => ∃ A cap l m, c = [.slice A (List.length l) cap, .bool m] ∧ jg W A cap l m n
 noW := by
  rintro W c ⟨A, cap, l, m, rfl, h⟩ u hu
  simp only [List.mem_cons, List.not_mem_nil, or_false] at hu
  rcases hu with rfl | rfl
  ·
   exact Ty _ _ _
  ·
   exact Tz _
 below := fun hb ⟨A, cap, l, m, e, h⟩ => ⟨A, cap, l, m, e, h.below hb⟩
 upto := fun hg hn hgr ⟨A, cap, l, m, e, h⟩ => ⟨A, cap, l, m, e, h.upto hg hn.bfs hgr⟩
 len := by rintro W c ⟨A, cap, l, m, rfl, h⟩; rfl
theorem eu.w {W : World} {n : Int} {A1 : Option Addr} {c1 : Nat} {l1 : List Nat} {m1 : Bool} {ls : List jq} {cs : List Value} (h1 : jg W A1 c1 l1 m1 n) (h : eu W ls cs) : eu W (.k (wK n) :: ls) (.slice A1 l1.length c1 :: .bool m1 :: cs) := ⟨[_, _], cs, rfl, ⟨_, _, _, _, rfl, h1⟩, h⟩
theorem eu.akw {W : World} {n : Int} {ls : List jq} {cs : List Value} (h : eu W (.k (wK n) :: ls) cs) : ∃ A1 c1 l1 m1 r, cs = .slice A1 (List.length l1) c1 :: .bool m1 :: r ∧ jg W A1 c1 l1 m1 n ∧ eu W ls r := by
 obtain ⟨c, r, rfl, ⟨A1, c1, l1, m1, rfl, h1⟩, h⟩ := h
 exact ⟨A1, c1, l1, m1, r, rfl, h1, h⟩
theorem aah {W : World} {n : Int} {v : Value} (h : au [.k (wK n)] W v) : ∃ A1 c1 l1 m1, v = .agg #[.slice A1 (List.length l1) c1, .bool m1] ∧ jg W A1 c1 l1 m1 n := by
 obtain ⟨cs, rfl, h⟩ := h
 obtain ⟨A1, c1, l1, m1, r, rfl, h1, h⟩ := h.akw
 cases h
 exact ⟨_, _, _, _, rfl, h1⟩
theorem Qd {W : World} {n d : Int} {v : Value} (h : au [.k (wK n), .k (wK d)] W v) : ∃ A1 c1 l1 m1 A2 c2 l2 m2, v = .agg #[.slice A1 (List.length l1) c1, .bool m1, .slice A2 (List.length l2) c2, .bool m2] ∧ jg W A1 c1 l1 m1 n ∧ jg W A2 c2 l2 m2 d := by
 obtain ⟨cs, rfl, h⟩ := h
 obtain ⟨A1, c1, l1, m1, r, rfl, h1, h⟩ := h.akw
 obtain ⟨A2, c2, l2, m2, r, rfl, h2, h⟩ := h.akw
 cases h
 exact ⟨_, _, _, _, _, _, _, _, rfl, h1, h2⟩
def C1 (w : World) (F : Nat) (ls ks : List jq) : Prop := ∀ W v0, Below w.heap.size w W → au ls W v0 → Calls Tryz.prog F #[v0] W (ik (au ks) W)
def C2 (w : World) (F : Nat) (ls ms ks : List jq) : Prop := ∀ W v0 v1, Below w.heap.size w W → au ls W v0 → au ms W v1 → Calls Tryz.prog F #[v0, v1] W (ik (au ks) W)
def CB (w : World) (F : Nat) (ls : List jq) (b : Bool) : Prop := ∀ W v0, Below w.heap.size w W → au ls W v0 → Calls Tryz.prog F #[v0] W (ik (Rg.ai (.bool b)) W)
theorem awm {w w' : World} {z : Int} {e : Ending} (h : Gu w z e w') : ik (au [.k (wK z)]) w e w' := by
 obtain ⟨A, cap, l, m, rfl, h1, hb⟩ := h
 exact ⟨_, rfl, hb, _, rfl, eu.w h1 rfl⟩
theorem bbm {w w' : World} {q : Rat} {e : Ending} (h : QR w q e w') : ik (au [.k (wK q.num), .k (wK (q.den : Int))]) w e w' := by
 obtain ⟨A1, c1, l1, m1, A2, c2, l2, m2, rfl, h1, h2, hb⟩ := h
 exact ⟨_, rfl, hb, _, rfl, eu.w h1 (eu.w h2 rfl)⟩
theorem aph {w w' : World} {q : Rat} {e : Ending} (h : ik (au [.k (wK q.num), .k (wK (q.den : Int))]) w e w') : QR w q e w' := by
 obtain ⟨u, rfl, hb, h⟩ := h
 obtain ⟨A1, c1, l1, m1, A2, c2, l2, m2, rfl, f1, f2⟩ := Qd h
 exact ⟨_, _, _, _, _, _, _, _, rfl, f1, f2, hb⟩
theorem cw2 {w : World} {F : Nat} {a b c : Int} (h : bfy w F a b c) : C2 w F [.k (wK a)] [.k (wK b)] [.k (wK c)] := fun W v0 v1 hb h0 h1 => by
 obtain ⟨A1, c1, l1, m1, rfl, f1⟩ := aah h0
 obtain ⟨A2, c2, l2, m2, rfl, f2⟩ := aah h1
 exact (h _ _ _ _ _ _ _ _ W hb f1 f2).mono fun e w' h => awm h
theorem cwq {w : World} {F : Nat} {a b : Int} {q : Rat} (h : bfz w F a b q) : C2 w F [.k (wK a)] [.k (wK b)] [.k (wK q.num), .k (wK (q.den : Int))] := fun W v0 v1 hb h0 h1 => by
 obtain ⟨A1, c1, l1, m1, rfl, f1⟩ := aah h0
 obtain ⟨A2, c2, l2, m2, rfl, f2⟩ := aah h1
 exact (h _ _ _ _ _ _ _ _ W hb f1 f2).mono fun e w' h => bbm h
theorem adq {W : World} {A1 : Option Addr} {c1 : Nat} {l1 : List Nat} {m1 : Bool} {A2 : Option Addr} {c2 : Nat} {l2 : List Nat} {m2 : Bool} {x : Rat} (h : QV W A1 c1 l1 m1 A2 c2 l2 m2 x) : ∃ d : Int, (d = (x.den : Int) ∨ (d = 0 ∧ x.den = 1)) ∧ au [.k (wK x.num), .k (wK d)] W (.agg #[.slice A1 l1.length c1, .bool m1, .slice A2 l2.length c2, .bool m2]) := by
 obtain ⟨d, h2, h3⟩ := h.den
 exact ⟨d, h3, _, rfl, eu.w h.num (eu.w h2 rfl)⟩
theorem aad (w : World) {x : Rat} {d : Int} (h : d = (x.den : Int) ∨ (d = 0 ∧ x.den = 1)) : C1 w 130 [.k (wK x.num), .k (wK d)] [.k (wK (x.den : Int))] := fun W v0 hb h0 => by
 obtain ⟨A1, c1, l1, m1, A2, c2, l2, m2, rfl, f1, f2⟩ := Qd h0
 exact (Tn A1 c1 l1 m1 A2 c2 l2 m2 x W ⟨f1, d, f2, h⟩).mono fun e w' h => awm h
theorem akf (w : World) {b : Int} {o : Bool} (h : o = decide (b = 1)) : CB w 131 [.k (wK b)] o := fun W v0 hb h0 => by
 obtain ⟨A1, c1, l1, m1, rfl, f1⟩ := aah h0
 rw [h]
 exact (Yq A1 c1 l1 m1 b W f1).mono fun e w' h => Zu h
theorem Ac : Dj Tryz.prog 66 2 := by
 intro ρ w d x b off us ty pos af gd hl hc hx
 match us, hl with
 | [u0, u1], _ =>
 have k0 : w.cell? ⟨b, off, none⟩ = some u0 := hc 0 om
 have k1 : w.cell? ⟨b, off + 1, none⟩ = some u1 := hc 1 om
 clear hc
 simp only [execOp, hx]
 simp [go_sem, k0, k1]
theorem ajk : zq Tryz.prog 66 2 := by
 intro ρ w d p x b off cs TB us ty pos af gd hl hu hb ho hp hx
 match us, hl with
 | [u0, u1], _ =>
 have o0 := hu u0 (by simp)
 have o1 := hu u1 (by simp)
 have f0 : w.frozen? ⟨b, off, none⟩ = false := ax hb _
 have f1 : w.frozen? ⟨b, off + 1, none⟩ = false := ax hb _
 obtain ⟨c0, k0⟩ : ∃ c, w.cell? ⟨b, off, none⟩ = some c := jf hb om
 obtain ⟨c1, k1⟩ : ∃ c, w.cell? ⟨b, off + 1, none⟩ = some c := jf hb om
 have hlt := lt_of_block hb
 clear hb ho hu
 simp only [execOp, hp, hx, setM]
 simp [go_sem, hlt, run_store _ _ _ _ _ o0, o0, run_store _ _ _ _ _ o1, o1, k0, k1, f0, f1]
theorem axd : Iw Tryz.prog 66 [.slice none 0 0, .bool false] := by
 intro ρ w d ty pos af gd
 simp only [execOp]
 simp [go_sem]
theorem Bw : Dj Tryz.prog 68 4 := by
 intro ρ w d x b off us ty pos af gd hl hc hx
 match us, hl with
 | [u0, u1, u2, u3], _ =>
 have k0 : w.cell? ⟨b, off, none⟩ = some u0 := hc 0 om
 have k1 : w.cell? ⟨b, off + 1, none⟩ = some u1 := hc 1 om
 have k2 : w.cell? ⟨b, off + 2, none⟩ = some u2 := hc 2 om
 have k3 : w.cell? ⟨b, off + 3, none⟩ = some u3 := hc 3 om
 clear hc
 simp only [execOp, hx]
 simp [go_sem, k0, k1, k2, k3]
theorem Gd : zq Tryz.prog 68 4 := by
 intro ρ w d p x b off cs TB us ty pos af gd hl hu hb ho hp hx
 match us, hl with
 | [u0, u1, u2, u3], _ =>
 have o0 := hu u0 (by simp)
 have o1 := hu u1 (by simp)
 have o2 := hu u2 (by simp)
 have o3 := hu u3 (by simp)
 have f0 : w.frozen? ⟨b, off, none⟩ = false := ax hb _
 have f1 : w.frozen? ⟨b, off + 1, none⟩ = false := ax hb _
 have f2 : w.frozen? ⟨b, off + 2, none⟩ = false := ax hb _
 have f3 : w.frozen? ⟨b, off + 3, none⟩ = false := ax hb _
 obtain ⟨c0, k0⟩ : ∃ c, w.cell? ⟨b, off, none⟩ = some c := jf hb om
 obtain ⟨c1, k1⟩ : ∃ c, w.cell? ⟨b, off + 1, none⟩ = some c := jf hb om
 obtain ⟨c2, k2⟩ : ∃ c, w.cell? ⟨b, off + 2, none⟩ = some c := jf hb om
 obtain ⟨c3, k3⟩ : ∃ c, w.cell? ⟨b, off + 3, none⟩ = some c := jf hb om
 have hlt := lt_of_block hb
 clear hb ho hu
 simp only [execOp, hp, hx, setM]
 simp [go_sem, hlt, run_store _ _ _ _ _ o0, o0, run_store _ _ _ _ _ o1, o1, run_store _ _ _ _ _ o2, o2, run_store _ _ _ _ _ o3, o3, k0, k1, k2, k3, f0, f1, f2, f3]
theorem bhi : Iw Tryz.prog 68 [.slice none 0 0, .bool false, .slice none 0 0, .bool false] := by
 intro ρ w d ty pos af gd
 simp only [execOp]
 simp [go_sem]
theorem Mj : Kb Tryz.prog 68 4 := by
 intro w b off us hl hc
 match us, hl with
 | [u0, u1, u2, u3], _ =>
 have k0 : w.cell? ⟨b, off, none⟩ = some u0 := hc 0 om
 have k1 : w.cell? ⟨b, off + 1, none⟩ = some u1 := hc 1 om
 have k2 : w.cell? ⟨b, off + 2, none⟩ = some u2 := hc 2 om
 have k3 : w.cell? ⟨b, off + 3, none⟩ = some u3 := hc 3 om
 clear hc
 simp [go_sem, k0, k1, k2, k3]
theorem bat : Qm Tryz.prog 68 2 2 := by
 intro ρ w d x y us vs ty pos af gd h1 h2 e1 e2
 match us, h1, vs, h2 with
 | [u0, u1], _, [v0, v1], _ =>
 simp only [execOp]
 simp [go_sem, e1, e2]
 try rfl
theorem baz : Dn Tryz.prog (fun x => .fieldAddr 68 x 0) 0 := by
 intro a w d x b off ty pos af gd hx
 have hc : ∀ v, a.eval (.const v) = v := fun _ => rfl
 simp only [execOp, hx, hc]
 simp [go_sem]
theorem Dt {Q : Exit → Act → World → Prop} {l : List Oper} {n : Nat} {T : Nat → World → Value → Prop} {G : World → Prop} {al : List Nat} {a0 : Act} {k d : Nat} {ty : TypeId} {pos : String} {af : Array Edge} {gd : Option (Nat × Bool)} {b off off' : Nat} {x : Operand} (hal : al.contains k = false) (hx : Rg.iq l n T a0 k x (Rg.ai (.pointer (some ⟨b, off, none⟩)))) (ho : off + 0 = off') (hT : T k = Rg.ai (.pointer (some ⟨b, off', none⟩))) :
  Rg.Step Tryz.prog Q l n T G dm al a0 k { dst := some d, op := .fieldAddr 68 x 0, type := ty, pos := pos, after := af, guard := gd } := by
 exact Ee (P := Tryz.prog) (o := fun x => .fieldAddr 68 x 0) baz hal hx ho hT
end Sb


namespace Sb
theorem apo {xn xe yn ye xd yd m1 m2 a b : Int} (w : World) (u0 : Value) (h0 : au [.k (wK xn), .k (wK xe)] w u0) (u1 : Value) (h1 : au [.k (wK yn), .k (wK ye)] w u1)
  (hd1 : C1 w 130 [.k (wK xn), .k (wK xe)] [.k (wK xd)])
  (hd2 : C1 w 130 [.k (wK yn), .k (wK ye)] [.k (wK yd)])
  (hm1 : C2 w 133 [.k (wK xn)] [.k (wK yd)] [.k (wK m1)])
  (hm2 : C2 w 133 [.k (wK xd)] [.k (wK yn)] [.k (wK m2)])
  (hr : C2 w 128 [.k (wK m1)] [.k (wK m2)] [.k (wK a), .k (wK b)]) :
  Calls Tryz.prog 64 #[u0, u1] w (ik (au [.k (wK a), .k (wK b)]) w) := by
 have HD1 := hide hd1
 have HD2 := hide hd2
 have HM1 := hide hm1
 have HM2 := hide hm2
 have HR := hide hr
 clear hd1 hd2 hm1 hm2 hr
 obtain ⟨Bd, c0a, Az, Pt, Gw, c0b, Gq, m0b, rfl, f0a, Gt⟩ := Qd h0
 obtain ⟨Ct, c1a, Cr, Od, Dp, Dh, Db, Sj, rfl, f1a, Pz⟩ := Qd h1
 go_enter Tryz.func64, Tryz.ntmps64
 go_upto_region 1 with fail
 have hO := (Own.push (T := 68) (ls := zX) (Own.push (T := 68) (ls := [.k (wK yn), .k (wK ye)]) (Own.push (T := 68) (ls := [.k (wK xn), .k (wK xe)]) (Own.nil w) (eu.w f0a (eu.w Gt rfl)) (w.heap.size) rfl) (eu.below (by repeat (first | exact Below.refl _ _ | refine gm ?_ _)) (eu.w f1a (eu.w Pz rfl))) (w.heap.size + 1) (by simp only [World.size_alloc])) (eu.below (by repeat (first | exact Below.refl _ _ | refine gm ?_ _)) (eu.vs w [.slice none 0 0, .bool false, .slice none 0 0, .bool false] rfl)) (w.heap.size + 2) (by simp only [World.size_alloc]))
 generalize ((w.alloc (.cells #[.slice Bd (List.length Az) c0a, .bool Pt, .slice Gw (List.length Gq) c0b, .bool m0b] 68)).alloc (.cells #[.slice Ct (List.length Cr) c1a, .bool Od, .slice Dp (List.length Db) Dh, .bool Sj] 68)).alloc (.cells #[.slice none 0 0, .bool false, .slice none 0 0, .bool false] 68) = W0 at *
 have HO := hide hO
 clear hO
 go_upto_region 1 with fail
 refine Rg.region 11 16 (Rg.pick [Rg.ai (.pointer (some ⟨w.heap.size, 0, none⟩)), au [.k (wK xn)], au [.k (wK yn), .k (wK ye)], au [.k (wK yd)], au [.k (wK m1)], au [.k (wK xn), .k (wK xe)], au [.k (wK xd)], Rg.ai (.pointer (some ⟨w.heap.size + 1, 0, none⟩)), au [.k (wK yn)], au [.k (wK m2)], au [.k (wK a), .k (wK b)]]) (az w _ W0) dm [] kr kr rfl (Rg.df.pick ⟨Rg.ae _, ay _, ay _, ay _, ay _, ay _, ay _, Rg.ae _, ay _, ay _, ay _, trivial⟩) (az.start (aa HO))
  (ag (Dt (b := w.heap.size) (off := 0) rfl aF rfl rfl)
  (ag (fw Ac ru (aT 0) [] [.k (wK xn)] [.k (wK xe)])
  (ag (fw Bw mf aF [] [.k (wK yn), .k (wK ye)] [])
  (ag (sc1 Tryz.func130 (aT 2) (fun W v0 hG h0 => aa HD2 W v0 hG.bel h0))
  (ag (sc2 Tryz.func133 (aT 1) (aT 3) (fun W v0 v1 hG h0 h1 => aa HM1 W v0 v1 hG.bel h0 h1))
  (ag (fw Bw ru aF [] [.k (wK xn), .k (wK xe)] [])
  (ag (sc1 Tryz.func130 (aT 5) (fun W v0 hG h0 => aa HD1 W v0 hG.bel h0))
  (ag (Dt (b := w.heap.size + 1) (off := 0) rfl aF rfl rfl)
  (ag (fw Ac mf (aT 7) [] [.k (wK yn)] [.k (wK ye)])
  (ag (sc2 Tryz.func133 (aT 6) (aT 8) (fun W v0 v1 hG h0 h1 => aa HM2 W v0 v1 hG.bel h0 h1))
  (ag (sc2 Tryz.func128 (aT 4) (aT 9) (fun W v0 v1 hG h0 h1 => aa HR W v0 v1 hG.bel h0 h1))
  Rg.bf))))))))))) ?_
 intro v1 V1 hG1 hv1 hne1
 simp only [Rg.puts, Act.put, tA]
 have hO := hG1.1
 refine ji hO 0 [] zX [.k (wK a), .k (wK b)] [] rfl Gd rfl (show au [.k (wK a), .k (wK b)] V1 (v1 10) from hv1 10 de) rfl rfl rfl ?_
 intro ui fu hk0
 replace hO := fu
 clear fu
 clear HO
 have HO := hide hO
 clear hO hG1 hv1 hne1 hk0
 go_wp2_with fail
 exact Am Tryz.results64 Mj rfl (aa HO) me0 rfl rfl
theorem apm {xn xe yn ye xd yd s m3 a b : Int} {o1 o2 : Bool} (w : World) (u0 : Value) (h0 : au [.k (wK xn), .k (wK xe)] w u0) (u1 : Value) (h1 : au [.k (wK yn), .k (wK ye)] w u1)
  (hd1 : C1 w 130 [.k (wK xn), .k (wK xe)] [.k (wK xd)])
  (hd2 : C1 w 130 [.k (wK yn), .k (wK ye)] [.k (wK yd)])
  (ho1 : CB w 131 [.k (wK xd)] o1)
  (ho2 : CB w 131 [.k (wK yd)] o2)
  (hc : (o1 = true ∧ o2 = true ∧ xd = b ∧ C2 w 133 [.k (wK xn)] [.k (wK yn)] [.k (wK a)]) ∨ ((o1 = false ∨ o1 = true ∧ o2 = false) ∧ C2 w 133 [.k (wK xn)] [.k (wK yn)] [.k (wK s)] ∧ C2 w 133 [.k (wK xd)] [.k (wK yd)] [.k (wK m3)] ∧ C2 w 128 [.k (wK s)] [.k (wK m3)] [.k (wK a), .k (wK b)])) :
  Calls Tryz.prog 62 #[u0, u1] w (ik (au [.k (wK a), .k (wK b)]) w) := by
 have HD1 := hide hd1
 have HD2 := hide hd2
 have Lj := hide ho1
 have HO2 := hide ho2
 have HC := hide hc
 clear hd1 hd2 ho1 ho2 hc
 obtain ⟨Bd, c0a, Az, Pt, Gw, c0b, Gq, m0b, rfl, f0a, Gt⟩ := Qd h0
 obtain ⟨Ct, c1a, Cr, Od, Dp, Dh, Db, Sj, rfl, f1a, Pz⟩ := Qd h1
 go_enter Tryz.func62, Tryz.ntmps62
 go_upto_region 1 with fail
 have hO := (Own.push (T := 68) (ls := zX) (Own.push (T := 68) (ls := [.k (wK yn), .k (wK ye)]) (Own.push (T := 68) (ls := [.k (wK xn), .k (wK xe)]) (Own.nil w) (eu.w f0a (eu.w Gt rfl)) (w.heap.size) rfl) (eu.below (by repeat (first | exact Below.refl _ _ | refine gm ?_ _)) (eu.w f1a (eu.w Pz rfl))) (w.heap.size + 1) (by simp only [World.size_alloc])) (eu.below (by repeat (first | exact Below.refl _ _ | refine gm ?_ _)) (eu.vs w [.slice none 0 0, .bool false, .slice none 0 0, .bool false] rfl)) (w.heap.size + 2) (by simp only [World.size_alloc]))
 generalize ((w.alloc (.cells #[.slice Bd (List.length Az) c0a, .bool Pt, .slice Gw (List.length Gq) c0b, .bool m0b] 68)).alloc (.cells #[.slice Ct (List.length Cr) c1a, .bool Od, .slice Dp (List.length Db) Dh, .bool Sj] 68)).alloc (.cells #[.slice none 0 0, .bool false, .slice none 0 0, .bool false] 68) = W0 at *
 have HO := hide hO
 clear hO
 go_upto_region 1 with fail
 go_upto_region 1 with fail
 refine Rg.aaz 8 33 (fun k => if k = 6 then 5 else 6) (Rg.pick [au [.k (wK xn), .k (wK xe)], au [.k (wK xd)], au [.k (wK yn), .k (wK ye)], au [.k (wK yd)], fun _ _ => True, fun _ _ => True, fun _ _ => True, fun _ _ => True]) (az w [(w.heap.size + 2, 68, zX), (w.heap.size + 1, 68, [.k (wK yn), .k (wK ye)]), (w.heap.size, 68, [.k (wK xn), .k (wK xe)])] W0) (EX W0.heap.size 66) (J2 66 2 W0.heap.size 4 5 6 7 [.k (wK xd)] [.k (wK yd)]) kr kr kr rfl (Rg.df.pick ⟨(vg _), (vg _), (vg _), (vg _), (zt), (zt), (zt), (zt), trivial⟩) (az.start (aa HO)) (fun _ => J2.start) (fun _ _ _ _ h => J2.congr (n := 8) de h)
  (Rg.ko (Ci (fw Bw ru aF [] [.k (wK xn), .k (wK xe)] []))
   (Rg.ko (Ci (Bt Tryz.func130 kr rfl az.step (aT 0) (fun W v0 hG h0 => aa HD1 W v0 hG.bel h0)))
   (Rg.ko (Ci (fw Bw mf aF [] [.k (wK yn), .k (wK ye)] []))
   (Rg.ko (Ci (Bt Tryz.func130 kr rfl az.step (aT 2) (fun W v0 hG h0 => aa HD2 W v0 hG.bel h0)))
   (Rg.ko (Vd axd rfl rfl rfl)
   (Rg.ko (Wv axd rfl rfl rfl)
   (Rg.ko (Vb (aa HO) ajk kr (aT 1) rfl rfl rfl)
   (Rg.ko (Wu (aa HO) ajk kr (aT 3) rfl rfl rfl)
   Rg.Qv)))))))) ?_
 intro v1 V1 hG1 hJ1 hv1 hne1
 simp only [Rg.puts, Act.put, tA]
 obtain ⟨_, _, hd1, hf1, hg1⟩ := hJ1
 obtain ⟨bnf, e4, hge4, Kn⟩ := (hf1 trivial).2
 obtain ⟨anh, e5, Fs, Km⟩ := (hg1 trivial).2
 simp only [e4, e5]
 have hO := Own.ani (aa HO) hG1.2 hge4 Kn Fs Km (fun h => hd1 trivial trivial (by rw [e4, e5, h]))
 clear hge4 Kn Fs Km hd1 hf1 hg1
 clear HO
 have HO := hide hO
 clear hO hG1 hv1 hne1
 try clear e4 e5
 rcases aa HC with ⟨rfl, rfl, rfl, hp⟩ | ⟨ho, hp⟩
 ·
  have HOP := hide hp
  clear hp HC
  go_upto_region 2 with fail
  refine Rg.bg 6 33 (Rg.pick [au [.k (wK xd)], Rg.ai (.bool true), Rg.ai (.bool true), au [.k (wK yd)], Rg.ai (.bool true), Rg.ai (.bool true)]) (az w _ V1) dm [] kr rfl (Rg.df.pick ⟨ay _, Rg.ae _, Rg.ae _, ay _, Rg.ae _, Rg.ae _, trivial⟩) (az.begin (aa HO))
   (ag (fw Ac mf aF [] [.k (wK xd)] [])
   (ag (sc1 Tryz.func131 (aT 0) (fun W v0 hG h0 => aa Lj W v0 hG.bel h0))
   (ag (cz rfl (aT 1))
   (Rg.cu (Rg.ek (d := 13) rfl kr rfl (fw Ac me0 aF [] [.k (wK yd)] []))
   (Rg.cu (Rg.ek (d := 13) rfl kr rfl (Bt Tryz.func131 kr rfl az.step (aT 3) (fun W v0 hG h0 => aa HO2 W v0 hG.bel h0)))
   (ag (xz rfl (aT 2) (aT 4))
   Rg.bf)))))) ?_
  intro v2 V2 hG2 hv2 hne2
  simp only [Rg.puts, Act.put, tA]
  have e5 : v2 5 = .bool true := hv2 5 de
  simp only [e5]
  have hO := hG2.1
  clear HO
  have HO := hide hO
  clear hO hG2 hv2 hne2
  try clear e5
  go_upto_region 3 with fail
  refine Rg.region 7 33 (Rg.pick [Rg.ai (.pointer (some ⟨w.heap.size, 0, none⟩)), au [.k (wK xn)], Rg.ai (.pointer (some ⟨w.heap.size + 1, 0, none⟩)), au [.k (wK yn)], au [.k (wK a)], au [.k (wK xd)], au [.k (wK a), .k (wK xd)]]) (az w _ V2) dm [] kr kr rfl (Rg.df.pick ⟨Rg.ae _, ay _, Rg.ae _, ay _, ay _, ay _, ay _, trivial⟩) (az.start (aa HO))
   (ag (Dt (b := w.heap.size) (off := 0) rfl aF rfl rfl)
   (ag (fw Ac me4 (aT 0) [] [.k (wK xn)] [.k (wK xe)])
   (ag (Dt (b := w.heap.size + 1) (off := 0) rfl aF rfl rfl)
   (ag (fw Ac Gh (aT 2) [] [.k (wK yn)] [.k (wK ye)])
   (ag (sc2 Tryz.func133 (aT 1) (aT 3) (fun W v0 v1 hG h0 h1 => aa HOP W v0 v1 hG.bel h0 h1))
   (ag (fw Ac mf aF [] [.k (wK xd)] [])
   (ag (Bv bat rfl (aT 4) (aT 5) rfl rfl rfl)
   Rg.bf))))))) ?_
  intro v3 V3 hG3 hv3 ja
  simp only [Rg.puts, Act.put, tA]
  have hO := hG3.1
  refine ji hO 2 [] zX [.k (wK a), .k (wK xd)] [] rfl Gd rfl (show au [.k (wK a), .k (wK xd)] V3 (v3 6) from hv3 6 de) rfl rfl rfl ?_
  intro Bi fu hk0
  replace hO := fu
  clear fu
  clear HO
  have HO := hide hO
  clear hO hG3 hv3 ja hk0
  go_wp2_with fail
  exact Am Tryz.results62 Mj rfl (aa HO) ru rfl rfl
 ·
  obtain ⟨h0, h1, h2⟩ := hp
  have HS := hide h0
  have HM3 := hide h1
  have HR := hide h2
  clear h0 h1 h2 HC
  rcases ho with rfl | ⟨rfl, rfl⟩
  ·
   go_upto_region 2 with fail
   refine Rg.bg 6 33 (Rg.pick [au [.k (wK xd)], Rg.ai (.bool false), Rg.ai (.bool false), Rg.ai undef, Rg.ai undef, Rg.ai (.bool false)]) (az w _ V1) dm [] kr rfl (Rg.df.pick ⟨ay _, Rg.ae _, Rg.ae _, Rg.ae _, Rg.ae _, Rg.ae _, trivial⟩) (az.begin (aa HO))
    (ag (fw Ac mf aF [] [.k (wK xd)] [])
    (ag (sc1 Tryz.func131 (aT 0) (fun W v0 hG h0 => aa Lj W v0 hG.bel h0))
    (ag (cz rfl (aT 1))
    (Rg.cu (Rg.ny (d := 13) rfl kr rfl rfl nz rfl rfl)
    (Rg.cu (Rg.ny (d := 13) rfl kr rfl rfl nz rfl rfl)
    (ag (qb rfl (aT 2) (Rg.jc _))
    Rg.bf)))))) ?_
   intro v2 V2 hG2 hv2 hne2
   simp only [Rg.puts, Act.put, tA]
   have e5 : v2 5 = .bool false := hv2 5 de
   simp only [e5]
   have hO := hG2.1
   clear HO
   have HO := hide hO
   clear hO hG2 hv2 hne2
   try clear e5
   go_upto_region 4 with fail
   refine Rg.region 9 33 (Rg.pick [Rg.ai (.pointer (some ⟨w.heap.size, 0, none⟩)), au [.k (wK xn)], Rg.ai (.pointer (some ⟨w.heap.size + 1, 0, none⟩)), au [.k (wK yn)], au [.k (wK s)], au [.k (wK xd)], au [.k (wK yd)], au [.k (wK m3)], au [.k (wK a), .k (wK b)]]) (az w _ V2) dm [] kr kr rfl (Rg.df.pick ⟨Rg.ae _, ay _, Rg.ae _, ay _, ay _, ay _, ay _, ay _, ay _, trivial⟩) (az.start (aa HO))
    (ag (Dt (b := w.heap.size) (off := 0) rfl aF rfl rfl)
    (ag (fw Ac me4 (aT 0) [] [.k (wK xn)] [.k (wK xe)])
    (ag (Dt (b := w.heap.size + 1) (off := 0) rfl aF rfl rfl)
    (ag (fw Ac Gh (aT 2) [] [.k (wK yn)] [.k (wK ye)])
    (ag (sc2 Tryz.func133 (aT 1) (aT 3) (fun W v0 v1 hG h0 h1 => aa HS W v0 v1 hG.bel h0 h1))
    (ag (fw Ac mf aF [] [.k (wK xd)] [])
    (ag (fw Ac me0 aF [] [.k (wK yd)] [])
    (ag (sc2 Tryz.func133 (aT 5) (aT 6) (fun W v0 v1 hG h0 h1 => aa HM3 W v0 v1 hG.bel h0 h1))
    (ag (sc2 Tryz.func128 (aT 4) (aT 7) (fun W v0 v1 hG h0 h1 => aa HR W v0 v1 hG.bel h0 h1))
    Rg.bf))))))))) ?_
   intro v3 V3 hG3 hv3 ja
   simp only [Rg.puts, Act.put, tA]
   have hO := hG3.1
   refine ji hO 2 [] zX [.k (wK a), .k (wK b)] [] rfl Gd rfl (show au [.k (wK a), .k (wK b)] V3 (v3 8) from hv3 8 de) rfl rfl rfl ?_
   intro Bi fu hk0
   replace hO := fu
   clear fu
   clear HO
   have HO := hide hO
   clear hO hG3 hv3 ja hk0
   go_wp2_with fail
   exact Am Tryz.results62 Mj rfl (aa HO) ru rfl rfl
  ·
   go_upto_region 2 with fail
   refine Rg.bg 6 33 (Rg.pick [au [.k (wK xd)], Rg.ai (.bool true), Rg.ai (.bool true), au [.k (wK yd)], Rg.ai (.bool false), Rg.ai (.bool false)]) (az w _ V1) dm [] kr rfl (Rg.df.pick ⟨ay _, Rg.ae _, Rg.ae _, ay _, Rg.ae _, Rg.ae _, trivial⟩) (az.begin (aa HO))
    (ag (fw Ac mf aF [] [.k (wK xd)] [])
    (ag (sc1 Tryz.func131 (aT 0) (fun W v0 hG h0 => aa Lj W v0 hG.bel h0))
    (ag (cz rfl (aT 1))
    (Rg.cu (Rg.ek (d := 13) rfl kr rfl (fw Ac me0 aF [] [.k (wK yd)] []))
    (Rg.cu (Rg.ek (d := 13) rfl kr rfl (Bt Tryz.func131 kr rfl az.step (aT 3) (fun W v0 hG h0 => aa HO2 W v0 hG.bel h0)))
    (ag (xz rfl (aT 2) (aT 4))
    Rg.bf)))))) ?_
   intro v2 V2 hG2 hv2 hne2
   simp only [Rg.puts, Act.put, tA]
   have e5 : v2 5 = .bool false := hv2 5 de
   simp only [e5]
   have hO := hG2.1
   clear HO
   have HO := hide hO
   clear hO hG2 hv2 hne2
   try clear e5
   go_upto_region 4 with fail
   refine Rg.region 9 33 (Rg.pick [Rg.ai (.pointer (some ⟨w.heap.size, 0, none⟩)), au [.k (wK xn)], Rg.ai (.pointer (some ⟨w.heap.size + 1, 0, none⟩)), au [.k (wK yn)], au [.k (wK s)], au [.k (wK xd)], au [.k (wK yd)], au [.k (wK m3)], au [.k (wK a), .k (wK b)]]) (az w _ V2) dm [] kr kr rfl (Rg.df.pick ⟨Rg.ae _, ay _, Rg.ae _, ay _, ay _, ay _, ay _, ay _, ay _, trivial⟩) (az.start (aa HO))
    (ag (Dt (b := w.heap.size) (off := 0) rfl aF rfl rfl)
    (ag (fw Ac me4 (aT 0) [] [.k (wK xn)] [.k (wK xe)])
    (ag (Dt (b := w.heap.size + 1) (off := 0) rfl aF rfl rfl)
    (ag (fw Ac Gh (aT 2) [] [.k (wK yn)] [.k (wK ye)])
    (ag (sc2 Tryz.func133 (aT 1) (aT 3) (fun W v0 v1 hG h0 h1 => aa HS W v0 v1 hG.bel h0 h1))
    (ag (fw Ac mf aF [] [.k (wK xd)] [])
    (ag (fw Ac me0 aF [] [.k (wK yd)] [])
    (ag (sc2 Tryz.func133 (aT 5) (aT 6) (fun W v0 v1 hG h0 h1 => aa HM3 W v0 v1 hG.bel h0 h1))
    (ag (sc2 Tryz.func128 (aT 4) (aT 7) (fun W v0 v1 hG h0 h1 => aa HR W v0 v1 hG.bel h0 h1))
    Rg.bf))))))))) ?_
   intro v3 V3 hG3 hv3 ja
   simp only [Rg.puts, Act.put, tA]
   have hO := hG3.1
   refine ji hO 2 [] zX [.k (wK a), .k (wK b)] [] rfl Gd rfl (show au [.k (wK a), .k (wK b)] V3 (v3 8) from hv3 8 de) rfl rfl rfl ?_
   intro Bi fu hk0
   replace hO := fu
   clear fu
   clear HO
   have HO := hide hO
   clear hO hG3 hv3 ja hk0
   go_wp2_with fail
   exact Am Tryz.results62 Mj rfl (aa HO) ru rfl rfl
end Sb

end Go.Proofs.YtfgeaakhlcaibaaGreatDoor
namespace Go.Proofs.YtfgeaakhlcaibaaGreatDoor
open Go.RowKit Sb

namespace Wd
theorem bia (x y : Rat) : x + y = Rat.divInt (x.num * (y.den : Int) + y.num * (x.den : Int)) ((x.den : Int) * (y.den : Int)) := by
 have hx := x.den_nz; have hy := y.den_nz
 conv => lhs; rw [← Rat.num_divInt_den x, ← Rat.num_divInt_den y]
 exact Rat.divInt_add_divInt _ _ om om
theorem amc (x y : Rat) : x * y = Rat.divInt (x.num * y.num) ((x.den : Int) * (y.den : Int)) := by
 conv => lhs; rw [← Rat.num_divInt_den x, ← Rat.num_divInt_den y]
 exact Rat.divInt_mul_divInt _ _
theorem bhq (x y : Rat) : x / y = Rat.divInt (x.num * (y.den : Int)) ((x.den : Int) * y.num) := by
 rw [Rat.div_def]
 conv => lhs; rw [← Rat.num_divInt_den x, Rat.inv_def]
 exact Rat.divInt_mul_divInt _ _
theorem adu (n : Int) : (Rat.divInt n 1).num = n ∧ (Rat.divInt n 1).den = 1 := by
 have h : Rat.divInt n 1 = (n : Rat) := by
  rw [← Rat.num_divInt_den (n : Rat)]; rfl
 rw [h]
 exact ⟨rfl, rfl⟩
theorem axe {x y : Rat} (hx : (x.den : Int) = 1) (hy : (y.den : Int) = 1) : x.num * y.num = (x * y).num ∧ (x.den : Int) = ((x * y).den : Int) := by
 have h : x * y = Rat.divInt (x.num * y.num) 1 := by
  rw [amc, hx, hy]; simp
 rw [h, (adu _).1, (adu _).2]; exact ⟨rfl, hx⟩
def zn (B K : Nat) (q : Rat) : Prop := Sz B K q.num ∧ Sz B K (q.den : Int)
end Wd

theorem Tx {w : World} {a b c : Int} {K L : Nat} (ha : Wd.Sz fe K a) (hb : Wd.Sz fe L b) (hK : K + L ≤ 35184372088832) (e : c = a * b) : bfy w 133 a b c := by
 subst e
 exact fun A1 c1 l1 m1 A2 c2 l2 m2 W _ f g => asr A1 c1 l1 m1 a A2 c2 l2 m2 b W f g (by have := f.len ha; have := g.len hb; omega)
theorem afe {w : World} {a b : Int} {q : Rat} {K : Nat} (ha : Wd.Sz fe K a) (hb : Wd.Sz fe K b) (h0 : b ≠ 0) (hK : K + 1 ≤ 35184372088832) (e : q = Rat.divInt a b) : bfz w 128 a b q := by
 subst e
 exact fun A1 c1 l1 m1 A2 c2 l2 m2 W _ f g => Yp A1 c1 l1 m1 a A2 c2 l2 m2 b K W f g h0 ha hb hK

theorem anz (K : Nat) (A1 : Option Addr) (c1 : Nat) (l1 : List Nat) (m1 : Bool) (A2 : Option Addr) (c2 : Nat) (l2 : List Nat) (m2 : Bool) (A3 : Option Addr) (c3 : Nat) (l3 : List Nat) (m3 : Bool) (A4 : Option Addr) (c4 : Nat) (l4 : List Nat) (m4 : Bool) (x y : Rat) (w : World) (h1 : QV w A1 c1 l1 m1 A2 c2 l2 m2 x) (h2 : QV w A3 c3 l3 m3 A4 c4 l4 m4 y) (sx : Wd.zn fe K x) (sy : Wd.zn fe K y) (hK : 4 * K + 4 ≤ 35184372088832) :
  Calls Tryz.prog 62 #[.agg #[.slice A1 l1.length c1, .bool m1, .slice A2 l2.length c2, .bool m2], .agg #[.slice A3 l3.length c3, .bool m3, .slice A4 l4.length c4, .bool m4]] w fun e w' => QR w (x * y) e w' := by
 obtain ⟨d1, q1, g1⟩ := adq h1
 obtain ⟨d2, q2, g2⟩ := adq h2
 have hx := x.den_nz; have hy := y.den_nz
 have an := Tx (w := w) sx.1 sy.1 om rfl
 have am := Tx (w := w) sx.2 sy.2 om rfl
 have ar := afe (w := w) (sx.1.mul sy.1) (sx.2.mul sy.2) (Int.mul_ne_zero om om) om (Wd.amc x y)
 refine (apm (s := x.num * y.num) (m3 := (x.den : Int) * (y.den : Int)) (a := (x * y).num) (b := ((x * y).den : Int)) w _ g1 _ g2 (aad w q1) (aad w q2) (akf w rfl) (akf w rfl) ?_).mono fun e w' h => aph h
 by_cases e1 : (x.den : Int) = 1
 ·
  by_cases e2 : (y.den : Int) = 1
  ·
   exact .inl ⟨decide_eq_true e1, decide_eq_true e2, (Wd.axe e1 e2).2, cw2 (Tx sx.1 sy.1 om (Wd.axe e1 e2).1.symm)⟩
  ·
   exact .inr ⟨.inr ⟨decide_eq_true e1, decide_eq_false e2⟩, cw2 an, cw2 am, cwq ar⟩
 ·
  exact .inr ⟨.inl (decide_eq_false e1), cw2 an, cw2 am, cwq ar⟩
theorem acb (K : Nat) (A1 : Option Addr) (c1 : Nat) (l1 : List Nat) (m1 : Bool) (A2 : Option Addr) (c2 : Nat) (l2 : List Nat) (m2 : Bool) (A3 : Option Addr) (c3 : Nat) (l3 : List Nat) (m3 : Bool) (A4 : Option Addr) (c4 : Nat) (l4 : List Nat) (m4 : Bool) (x y : Rat) (w : World) (h1 : QV w A1 c1 l1 m1 A2 c2 l2 m2 x) (h2 : QV w A3 c3 l3 m3 A4 c4 l4 m4 y) (sx : Wd.zn fe K x) (sy : Wd.zn fe K y) (hK : 4 * K + 4 ≤ 35184372088832) (h0 : y.num ≠ 0) :
  Calls Tryz.prog 64 #[.agg #[.slice A1 l1.length c1, .bool m1, .slice A2 l2.length c2, .bool m2], .agg #[.slice A3 l3.length c3, .bool m3, .slice A4 l4.length c4, .bool m4]] w fun e w' => QR w (x / y) e w' := by
 have hx := x.den_nz
 obtain ⟨d1, q1, g1⟩ := adq h1
 obtain ⟨d2, q2, g2⟩ := adq h2
 exact (apo (a := (x / y).num) (b := ((x / y).den : Int)) w _ g1 _ g2 (aad w q1) (aad w q2) (cw2 (Tx sx.1 sy.2 om rfl)) (cw2 (Tx sx.2 sy.1 om rfl)) (cwq (afe (sx.1.mul sy.2) (sx.2.mul sy.1) (Int.mul_ne_zero om h0) om (Wd.bhq x y)))).mono fun e w' h => aph h
end Go.Proofs.YtfgeaakhlcaibaaGreatDoor
namespace Go.Proofs.YtfgeaakhlcaibaaGreatDoor
open Go.RowKit



theorem aeg (n : Int) (q : Rat) (w : World) (b1 : -9223372036854775808 ≤ n) (b2 : n ≤ 9223372036854775807) (hn : n = q.num) (hd : (1 : Int) = (q.den : Int)) :
  Calls Tryz.prog 95 #[.int .i64 n] w fun e w' => QR w q e w' := by
 have Lj := hide (fun W => (Qt n W b1 b2).mono (fun e w' h => h.1))
 have HO2 := hide Xa
 have HN := Lib.hid hn; have HD := Lib.hid hd
 clear b1 b2 hn hd
 go_enter Tryz.func95, Tryz.ntmps95
 go_wp2_with fail
 obtain ⟨n0, hsz, hw0⟩ := Mi w (.cells #[.slice none 0 0, .bool false, .slice none 0 0, .bool false] 68)
 generalize (w.alloc (.cells #[.slice none 0 0, .bool false, .slice none 0 0, .bool false] 68)) = W0 at *
 have p0 : W0.cell? ⟨w.heap.size, 0, none⟩ = some (.slice none 0 0) := ah n0 0
 have p1 : W0.cell? ⟨w.heap.size, 1, none⟩ = some (.bool false) := ah n0 1
 have p2 : W0.cell? ⟨w.heap.size, 2, none⟩ = some (.slice none 0 0) := ah n0 2
 have p3 : W0.cell? ⟨w.heap.size, 3, none⟩ = some (.bool false) := ah n0 3
 have v0 := ax n0 0; have v1 := ax n0 1; have v2 := ax n0 2; have v3 := ax n0 3
 have q0 := lt_of_block n0
 have NR := Lib.hid n0
 clear n0 hsz
 refine ((aa Lj) _).mono ?_
 rintro e W1 ⟨A1, c1, l1, m1, rfl, f1, hb1⟩
 have F1 := hide f1; have HB1 := hide hb1
 clear f1 hb1
 go_wp2_with fail
 refine ((aa HO2) _).mono ?_
 rintro e W2 ⟨A2, c2, l2, m2, rfl, f2, hb2⟩
 have F1' := hide ((aa F1).below hb2)
 have hb2' := bz (aa HB1) hb2
 obtain ⟨hc, hfz⟩ := fo hb2'
 have hblk := (hb2'.block _ q0).trans NR.out
 have kz := Lib.hid hblk
 have F2 := hide f2; have ku := bz hw0 hb2'
 have HB9 := hide ku
 clear f2 hb2 hb2' hblk ku
 go_wp2_with fail
 exact bodyPost_ret (v := .agg #[.slice A1 l1.length c1, .bool m1, .slice A2 l2.length c2, .bool m2]) (by simp [results, Tryz.results95, go_sem, hc, p0, p1, p2, p3, q0]) rfl
  ⟨A1, c1, l1, m1, A2, c2, l2, m2, rfl, HN.out ▸ (aa F1').upto kz.out (Aw _ _ _ _ _ _ _ _) (pq _ _ _ _ _ _), HD.out ▸ (aa F2).upto kz.out (Aw _ _ _ _ _ _ _ _) (pq _ _ _ _ _ _), (aa HB9).grown (pq _ _ _ _ _ _) (aa HB9).size (fun k hk => by injection hk with hk; omega)⟩


theorem apn (A1 : Option Addr) (c1 : Nat) (l1 : List Nat) (m1 : Bool) (A2 : Option Addr) (c2 : Nat) (l2 : List Nat) (m2 : Bool) (z1 : Int) (p q : Rat) (w : World) 
  (hi : ∀ W, Calls Tryz.prog 95 #[.int .i64 1] W fun e w' => QR W p e w') (hd : ∀ (A7 : Option Addr) (c7 : Nat) (l7 : List Nat) (m7 : Bool) (A8 : Option Addr) (c8 : Nat) (l8 : List Nat) (m8 : Bool) (W : World), Below w.heap.size w W → jg W A7 c7 l7 m7 p.num → jg W A8 c8 l8 m8 (p.den : Int) → Calls Tryz.prog 64 #[(Value.agg #[.slice A7 l7.length c7, .bool m7, .slice A8 l8.length c8, .bool m8]), (Value.agg #[.slice A1 l1.length c1, .bool m1, .slice A2 l2.length c2, .bool m2])] W fun e w' => QR W q e w') :
  Calls Tryz.prog 90 #[(Value.agg #[.slice A1 l1.length c1, .bool m1, .slice A2 l2.length c2, .bool m2])] w fun e w' => QR w q e w' := by
 have HI := hide hi
 have HD := hide hd
 clear hi hd
 go_enter Tryz.func90, Tryz.ntmps90
 go_upto_region 1 with fail
 obtain ⟨n0, n1, hsz, hw0⟩ := ve w (.cells #[.slice A1 l1.length c1, .bool m1, .slice A2 l2.length c2, .bool m2] 68) (.cells #[.slice none 0 0, .bool false, .slice none 0 0, .bool false] 68)
 generalize ((w.alloc (.cells #[.slice A1 l1.length c1, .bool m1, .slice A2 l2.length c2, .bool m2] 68)).alloc (.cells #[.slice none 0 0, .bool false, .slice none 0 0, .bool false] 68)) = W0 at *
 have wm : W0.cell? ⟨w.heap.size, 0, none⟩ = some (.slice A1 l1.length c1) := ah n0 0
 have wh : W0.cell? ⟨w.heap.size, 1, none⟩ = some (.bool m1) := ah n0 1
 have zm : W0.cell? ⟨w.heap.size, 2, none⟩ = some (.slice A2 l2.length c2) := ah n0 2
 have Bz : W0.cell? ⟨w.heap.size, 3, none⟩ = some (.bool m2) := ah n0 3
 have q0 : w.heap.size < W0.heap.size := by omega
 have yx : W0.cell? ⟨w.heap.size + 1, 0, none⟩ = some (.slice none 0 0) := ah n1 0
 have yw : W0.cell? ⟨w.heap.size + 1, 1, none⟩ = some (.bool false) := ah n1 1
 have Fj : W0.cell? ⟨w.heap.size + 1, 2, none⟩ = some (.slice none 0 0) := ah n1 2
 have Ro : W0.cell? ⟨w.heap.size + 1, 3, none⟩ = some (.bool false) := ah n1 3
 have q1 : w.heap.size + 1 < W0.heap.size := by omega
 have Nf := ax n1 0
 have Nc := ax n1 1
 have amw := ax n1 2
 have amv := ax n1 3
 have NR := Lib.hid n1
 clear hsz n0 n1
 go_upto_region 1 with fail
 have KEEP := hide (show ∀ X, Below W0.heap.size W0 X → X.cell? ⟨w.heap.size, 0, none⟩ = some (.slice A1 l1.length c1) ∧ X.cell? ⟨w.heap.size, 1, none⟩ = some (.bool m1) ∧ X.cell? ⟨w.heap.size, 2, none⟩ = some (.slice A2 l2.length c2) ∧ X.cell? ⟨w.heap.size, 3, none⟩ = some (.bool m2) from fun X hB => ⟨ic hB q0 wm, ic hB q0 wh, ic hB q0 zm, ic hB q0 Bz⟩)
 go_region_held3 (fun w' => w'.cell? ⟨w.heap.size, 0, none⟩ = some (.slice A1 l1.length c1) ∧ w'.cell? ⟨w.heap.size, 1, none⟩ = some (.bool m1) ∧ w'.cell? ⟨w.heap.size, 2, none⟩ = some (.slice A2 l2.length c2) ∧ w'.cell? ⟨w.heap.size, 3, none⟩ = some (.bool m2)) (first | with_reducible exact ⟨(Oo _ _ _ _ _ _ om).trans (ic hbw q0 wm), (Oo _ _ _ _ _ _ om).trans (ic hbw q0 wh), (Oo _ _ _ _ _ _ om).trans (ic hbw q0 zm), (Oo _ _ _ _ _ _ om).trans (ic hbw q0 Bz)⟩ | with_reducible exact (aa KEEP) _ bel) (first | (go_at_call_of 95 (Value.int .i64 1); refine ((aa HI) _).mono ?_; rintro e w' ⟨A5, c5, l5, m5, A6, c6, l6, m6, rfl, zb, Fu, hb5⟩; have hbw := dh (w := W0) bel hb5; have hsw := hbw.size; obtain ⟨hc, hfz⟩ := fo hbw) | (go_at_call_of 64 (Value.agg #[.slice A5 l5.length c5, .bool m5, .slice A6 l6.length c6, .bool m6]); refine ((aa HD) A5 c5 l5 m5 A6 c6 l6 m6 _ (bz hw0 bel) (jg.below zb bel) (jg.below Fu bel)).mono ?_; rintro e w' ⟨A7, c7, l7, m7, A8, c8, l8, m8, rfl, hf7, Zq, Un⟩; have zb := jg.below (jg.below zb bel) Un; have Fu := jg.below (jg.below Fu bel) Un; have hbw := dh (w := W0) bel Un; have hsw := hbw.size; obtain ⟨hc, hfz⟩ := fo hbw))
 all_goals
  have hblk : w'.heap[w.heap.size + 1]? = some (.cells #[.slice none 0 0, .bool false, .slice none 0 0, .bool false] 68 (0, 0)) := (hbw.block _ q1).trans NR.out
  have kz := Lib.hid hblk
  have ku : Below w.heap.size w w' := bz hw0 hbw
  have hfi := (hf7)
  have hfj := (Zq)
  clear hblk
  go_wp2_with fail
  exact bodyPost_ret (v := (Value.agg #[.slice A7 l7.length c7, .bool m7, .slice A8 l8.length c8, .bool m8])) (by simp [results, Tryz.results90, go_sem, hc, yx, yw, Fj, Ro, q1]) rfl
   ⟨A7, c7, l7, m7, A8, c8, l8, m8, rfl, hfi.upto kz.out (Aw _ _ _ _ _ _ _ _) (pq _ _ _ _ _ _), hfj.upto kz.out (Aw _ _ _ _ _ _ _ _) (pq _ _ _ _ _ _), ku.grown (pq _ _ _ _ _ _) ku.size (fun k hk => by injection hk with hk; omega)⟩

theorem Wd.Zl (n : Int) : n = (Rat.divInt n 1).num ∧ (1 : Int) = ((Rat.divInt n 1).den : Int) := ⟨(Wd.adu n).1.symm, by rw [(Wd.adu n).2]; rfl⟩
theorem aoa (K : Nat) (A1 : Option Addr) (c1 : Nat) (l1 : List Nat) (m1 : Bool) (A2 : Option Addr) (c2 : Nat) (l2 : List Nat) (m2 : Bool) (x : Rat) (w : World) (h : QV w A1 c1 l1 m1 A2 c2 l2 m2 x) (sx : Wd.zn fe K x) (h1 : 1 ≤ K) (hK : 4 * K + 4 ≤ 35184372088832) (h0 : x.num ≠ 0) :
  Calls Tryz.prog 90 #[(Value.agg #[.slice A1 l1.length c1, .bool m1, .slice A2 l2.length c2, .bool m2])] w fun e w' => QR w (Rat.divInt 1 1 / x) e w' := by
 have s1 : Wd.zn fe K (Rat.divInt 1 1) := by
  have e : 1 < fe ^ K := Nat.one_lt_pow om Ck
  unfold Wd.zn Wd.Sz
  rw [← (Wd.Zl 1).1, ← (Wd.Zl 1).2]
  exact ⟨e, e⟩
 exact apn A1 c1 l1 m1 A2 c2 l2 m2 0 (Rat.divInt 1 1) (Rat.divInt 1 1 / x) w (fun W => aeg 1 _ W om om (Wd.Zl 1).1 (Wd.Zl 1).2)
  (fun A7 c7 l7 m7 A8 c8 l8 m8 W hW f g => acb K A7 c7 l7 m7 A8 c8 l8 m8 A1 c1 l1 m1 A2 c2 l2 m2 _ x W (QV.of f g) (h.below hW) s1 sx hK h0)
end Go.Proofs.YtfgeaakhlcaibaaGreatDoor
namespace Go.Proofs.YtfgeaakhlcaibaaGreatDoor
namespace Wd

def simp : Nat → Nat → Nat → Nat → Nat → Nat × Nat
 | 0, _, _, _, _ => (0, 1)
 | f + 1, a, b, c, d => if b = 1 then (a, 1) else if a / b < c / d then (a / b + 1, 1)
  else (a / b * (simp f d (c - a / b * d) b (a - a / b * b)).1 + (simp f d (c - a / b * d) b (a - a / b * b)).2, (simp f d (c - a / b * d) b (a - a / b * b)).1)

structure aia (a b c d : Nat) : Prop where
 pa : 0 < a
 pb : 0 < b
 pc : 0 < c
 pd : 0 < d
 co : a.Coprime b
 co2 : c.Coprime d
 le : a * d ≤ c * b

theorem We (a b : Nat) : a - a / b * b = a % b := by
 have := Nat.div_add_mod a b
 rw [Nat.mul_comm] at this
 omega
theorem aia.step {a b c d : Nat} (h : aia a b c d) (hb : b ≠ 1) (hk : ¬ a / b < c / d) :
  aia d (c - a / b * d) b (a - a / b * b) ∧ c / d = a / b ∧ c - a / b * d = c % d ∧ c - a / b * d < d ∧ a - a / b * b < b := by
 have ha := h.pa; have hb0 := h.pb; have hc := h.pc; have hd := h.pd
 have e1 := Nat.div_add_mod a b
 have r0 : a % b ≠ 0 := fun e => by
  have hdv := Nat.dvd_of_mod_eq_zero e
  have := Nat.Coprime.eq_one_of_dvd h.co.symm hdv
  exact hb this
 have hkd : a / b ≤ c / d := by
  rw [Nat.le_div_iff_mul_le hd]
  have h2 : a / b * b * d ≤ c * b := Nat.le_trans (Nat.mul_le_mul_right _ (Nat.div_mul_le_self a b)) h.le
  rw [Nat.mul_right_comm] at h2
  exact Nat.le_of_mul_le_mul_right h2 hb0
 have hq : c / d = a / b := by omega
 have e2 : c - a / b * d = c % d := by rw [← hq]; exact We c d
 have e3 := We a b
 have e4 := Nat.div_add_mod c d
 have hle : a % b * d ≤ c % d * b := by
  have hle := h.le
  rw [hq] at e4
  generalize a / b = k at *
  generalize a % b = r at *
  generalize c % d = s at *
  subst e1 e4
  rw [Nat.add_mul, Nat.add_mul] at hle
  have : b * k * d = d * k * b := by rw [Nat.mul_comm b k, Nat.mul_assoc, Nat.mul_comm b d, ← Nat.mul_assoc, Nat.mul_comm k d]
  omega
 have s0 : 0 < c % d := by
  rcases Nat.eq_zero_or_pos (c % d) with e | e
  ·
   rw [e, Nat.zero_mul] at hle
   have := Nat.mul_pos (Nat.pos_of_ne_zero r0) hd
   omega
  ·
   exact e
 rw [e2, e3]
 refine ⟨⟨hd, s0, hb0, Nat.pos_of_ne_zero r0, ?_, ?_, ?_⟩, hq, rfl, Nat.mod_lt _ hd, Nat.mod_lt _ hb0⟩
 ·
  have := h.co2
  unfold Nat.Coprime at *
  rw [Nat.gcd_comm, ← Nat.gcd_rec, Nat.gcd_comm]; exact this
 ·
  have := h.co
  unfold Nat.Coprime at *
  rw [Nat.gcd_comm, ← Nat.gcd_rec, Nat.gcd_comm]; exact this
 ·
  rw [Nat.mul_comm, Nat.mul_comm b]; exact hle
def fr (n d : Nat) : Rat := Rat.divInt (n : Int) (d : Int)
end Wd
namespace Wd

def cf : Nat → Int → Int → List Int
 | 0, _, _ => []
 | f + 1, n, d => if d = 0 then [] else n / d :: cf f d (n % d)
theorem arh : ∀ (f : Nat) (n d : Int), (cf f n d).length ≤ f
 | 0, _, _ => Nat.le_refl _
 | f + 1, n, d => by
  unfold cf
  split
  ·
   exact Nat.zero_le _
  ·
   have := arh f d (n % d)
   rw [List.length_cons]; omega
theorem bal (f : Nat) (n : Int) : cf f n 0 = [] := by
 cases f with
 | zero => rfl
 | succ f => simp [cf]
structure Mf (L l : List Int) (n d : Int) : Prop where
 ok : ∃ f : Nat, d < f ∧ l ++ cf f n d = L ∧ L.length ≤ l.length + f
 d0 : 0 ≤ d
 nb : -1000000000000 ≤ n ∧ n ≤ 1000000000000
 db : d ≤ 1000000000000
theorem Mf.start {n d : Int} (h : qy n d) : Mf (cf (d.toNat + 1) n d) [] n d := by
 obtain ⟨h1, h2, h3, h4, _⟩ := h
 exact ⟨⟨d.toNat + 1, by omega, rfl, by have := arh (d.toNat + 1) n d; simpa using this⟩, by omega, ⟨by omega, by omega⟩, by omega⟩
theorem Mf.step {L l : List Int} {n d : Int} (h : Mf L l n d) (hd : 0 < d) : Mf L (l ++ [n / d]) d (n % d) ∧ n - n / d * d = n % d ∧ -1000000000000 ≤ n / d ∧ n / d ≤ 1000000000000 ∧ -2000000000000 ≤ n / d * d ∧ n / d * d ≤ 2000000000000 := by
 obtain ⟨⟨f, h1, h2, h3⟩, h4, h5, h6⟩ := h
 have e1 := Int.emod_nonneg n (show d ≠ 0 by omega)
 have e2 := Int.emod_lt_of_pos n hd
 have e3 := Int.mul_ediv_add_emod n d
 rw [Int.mul_comm] at e3
 have lo : -1000000000000 ≤ n / d := by
  rw [Int.le_ediv_iff_mul_le hd]
  omega
 have hi : n / d ≤ 1000000000000 := by
  rcases Int.lt_or_le n 0 with hn | hn
  ·
   have : n / d < 0 := Int.ediv_neg_of_neg_of_pos hn hd
   omega
  ·
   have := Int.ediv_le_self d hn
   omega
 have e4 : n - n / d * d = n % d ∧ -2000000000000 ≤ n / d * d ∧ n / d * d ≤ 2000000000000 := by
  generalize n / d * d = t at *
  generalize n % d = r at *
  exact ⟨by omega, by omega, by omega⟩
 refine ⟨⟨?_, e1, by omega, by omega⟩, e4.1, lo, hi, e4.2.1, e4.2.2⟩
 cases f with
 | zero => omega
 | succ f =>
  refine ⟨f, by omega, ?_, by simp; omega⟩
  rw [← h2]
  simp only [cf, if_neg (show ¬ d = 0 by omega), List.append_assoc, List.cons_append, List.nil_append]
theorem Mf.done {L l : List Int} {n : Int} (h : Mf L l n 0) : l = L := by
 obtain ⟨⟨f, h1, h2, h3⟩, _, _, _⟩ := h
 rw [bal, List.append_nil] at h2
 exact h2
theorem Mf.len {L l : List Int} {n d : Int} (h : Mf L l n d) (hL : L.length ≤ 1000000000001) : l.length ≤ 1000000000001 := by
 obtain ⟨⟨f, h1, h2, h3⟩, _, _, _⟩ := h
 rw [← h2, List.length_append] at hL
 omega
end Wd
namespace Wd

theorem Oa (a : Int) : (Rat.divInt a 1).num = a ∧ ((Rat.divInt a 1).den : Int) = 1 := by
 have h : Rat.divInt a 1 = (a : Rat) := by
  rw [← Rat.num_divInt_den (a : Rat)]; rfl
 rw [h]
 exact ⟨rfl, rfl⟩
def aro (l : List Int) : Prop := 0 < l.length ∧ (∀ i, i < l.length → 1 ≤ i → 1 ≤ l.getD i 0) ∧ (l.length = 1 ∨ l.getD (l.length - 1) 0 ≠ 1)
instance (l : List Int) : Decidable (aro l) := by unfold aro; infer_instance
end Wd
end Go.Proofs.YtfgeaakhlcaibaaGreatDoor
