/- Texts beneath a law of layer 1. -/
import Derived.Test.YtfgeaakhlcaibaaGreatDoorCw14
set_option maxRecDepth 100000
set_option maxHeartbeats 16000000
namespace Go.Proofs.YtfgeaakhlcaibaaGreatDoor
open Go.RowKit

namespace Sb
theorem baw {f g : Nat → Int} {n d p q : Int} (h : oq f n d g p q = 0) : qf f n d ∧ qf g p q := by
 unfold oq xy at h
 by_cases k : qf f n d
 ·
  rw [if_pos k, if_pos rfl] at h
  by_cases k2 : qf g p q
  ·
   exact ⟨k, k2⟩
  ·
   rw [if_neg k2] at h; omega
 ·
  rw [if_neg k, if_neg de] at h; omega
theorem Jq {f g : Nat → Int} {n d p q : Int} (h : ¬ (qf f n d ∧ qf g p q)) : oq f n d g p q = 1 := by
 unfold oq xy
 by_cases k : qf f n d
 ·
  rw [if_pos k, if_pos rfl, if_neg (fun k2 => h ⟨k, k2⟩)]
 ·
  rw [if_neg k]; rfl
theorem Cb {f g : Nat → Int} {n d p q : Int} (h : qf f n d ∧ qf g p q) : oq f n d g p q = 0 := by
 unfold oq xy
 rw [if_pos h.1, if_pos rfl, if_pos h.2]
theorem Ps {f : Nat → Int} {n d : Int} (h : qf f n d) : 0 < Wd.qR n d := by
 have h1 := (Wd.Nv h.2.1).1
 have h2 : 0 < (Wd.qR n d).num := by rw [h1]; have := h.2.2; omega
 have h3 : 0 ≤ Wd.qR n d := Rat.num_nonneg.1 om
 refine Rat.lt_of_le_of_ne h3 (fun e => ?_)
 rw [← e] at h2
 exact absurd h2 de
theorem Da {f : Nat → Int} {n d : Int} (h : qf f n d) : (Wd.qR n d).num ≠ 0 := by
 have h1 := (Wd.Nv h.2.1).1
 rw [h1]; have := h.2.2; omega
theorem ard {f g pp h : Nat → Int} {n d p q m : Int} {y a : Rat} (t : Sd) (w : World) (hT : qa w) (u0 : Value) (h0 : au [.k (eK f), iv n, iv d] w u0) (u1 : Value) (h1 : au [.k (eK g), iv p, iv q] w u1)
  (hm : -((9 : Nat) : Int) ≤ m ∧ m ≤ (9 : Nat)) (he : Ae (Wd.qR p q) m = y ∧ (Wd.qR n d) * y = a)
  (ha : qf f n d → qf g p q → (∀ j, j < 7 → wrap64 (g j * m) = pp j) ∧ (∀ j, j < 7 → wrap64 (f j + pp j) = h j))
  (hr : ((oq f n d g p q) ≠ 0 → t = ⟨z7, 0, 0, (oq f n d g p q)⟩) ∧ ((oq f n d g p q) = 0 → t = gp h a)) :
  Calls Tryz.prog 98 #[u0, u1, .int .i64 m] w (ik (Kv t) w) := by
 have HM := hide hm
 have HE := hide he
 have HA := hide ha
 have HR := hide hr
 have HT := hide hT
 clear hm he ha hr hT
 have hu0 := pg h0
 subst hu0
 have hu1 := pg h1
 subst hu1
 go_enter Tryz.func98, Tryz.ntmps98
 go_upto_region 1 with fail
 have hO := (Own.push (T := 44) (ls := zU) (Own.push (T := 44) (ls := [.k (eK g), iv p, iv q]) (Own.push (T := 44) (ls := [.k (eK f), iv n, iv d]) (Own.nil w) (eu.e (eu.v (iw _) (eu.v (iw _) rfl))) (w.heap.size) rfl) (eu.below (by repeat (first | exact Below.refl _ _ | refine gm ?_ _)) (eu.e (eu.v (iw _) (eu.v (iw _) rfl)))) (w.heap.size + 1) (by simp only [World.size_alloc])) (eu.below (by repeat (first | exact Below.refl _ _ | refine gm ?_ _)) (eu.vs w [.int .i64 0, .int .i64 0, .int .i64 0, .int .i64 0, .int .i64 0, .int .i64 0, .int .i64 0, .int .i64 0, .int .i64 0] rfl)) (w.heap.size + 2) (by simp only [World.size_alloc]))
 generalize ((w.alloc (.cells #[.int .i64 (f 0), .int .i64 (f 1), .int .i64 (f 2), .int .i64 (f 3), .int .i64 (f 4), .int .i64 (f 5), .int .i64 (f 6), .int .i64 n, .int .i64 d] 44)).alloc (.cells #[.int .i64 (g 0), .int .i64 (g 1), .int .i64 (g 2), .int .i64 (g 3), .int .i64 (g 4), .int .i64 (g 5), .int .i64 (g 6), .int .i64 p, .int .i64 q] 44)).alloc (.cells #[.int .i64 0, .int .i64 0, .int .i64 0, .int .i64 0, .int .i64 0, .int .i64 0, .int .i64 0, .int .i64 0, .int .i64 0] 44) = W0 at *
 have HO := hide hO
 clear hO
 go_upto_region 1 with fail
 refine Rg.bg 4 26 (Rg.pick [au [.k (eK f), iv n, iv d], au [.k (eK g), iv p, iv q], Rg.ai (.int .i64 (oq f n d g p q)), Rg.ai (.int .i64 (oq f n d g p q))]) (az w _ W0) dm [] kr rfl (Rg.df.pick ⟨ay _, ay _, Rg.ae _, Rg.ae _, trivial⟩) (az.begin (aa HO))
  (ag (fw jb ru aF [] [.k (eK f), iv n, iv d] [])
  (ag (fw jb mf aF [] [.k (eK g), iv p, iv q] [])
  (ag (sc2 Tryz.func107 (aT 0) (aT 1) (fun W v0 v1 hG h0 h1 => ahv W ((aa HT).below hG.bel) _ h0 _ h1))
  (ag (ib rfl (aT 2))
  Rg.bf)))) ?_
 intro v1 V1 hG1 hv1 hne1
 simp only [Rg.puts, Act.put, tA]
 have e2 : v1 2 = .int .i64 (oq f n d g p q) := hv1 2 de
 have e3 : v1 3 = .int .i64 (oq f n d g p q) := hv1 3 de
 simp only [e2, e3]
 have hO := hG1.1
 clear HO
 have HO := hide hO
 clear hO hG1 hv1 hne1
 try clear e2 e3
 by_cases g0 : (oq f n d g p q) = 0
 ·
  have k1 : ((oq f n d g p q) != 0) = false := by simp [bne, beq_iff_eq.2 g0]
  have hr := (aa HR).2 g0
  have rf := hide (baw g0)
  have HA2 := hide ((aa HA) (aa rf).1 (aa rf).2)
  clear HR HA
  subst hr
  go_upto_region 2 with fail
  refine Rg.bg 2 26 (Rg.pick [Rg.ai (.int .i64 (oq f n d g p q)), Rg.ai (.bool false)]) (az w _ V1) dm [] kr rfl (Rg.df.pick ⟨Rg.ae _, Rg.ae _, trivial⟩) (az.begin (aa HO))
   (ag (cz rfl aF)
   (ag (mq rfl (aT 0) (Rg.jc _) rfl k1)
   Rg.bf)) ?_
  intro v2 V2 hG2 hv2 hne2
  simp only [Rg.puts, Act.put, tA]
  have e1 : v2 1 = .bool false := hv2 1 de
  simp only [e1]
  have hO := hG2.1
  clear HO
  have HO := hide hO
  clear hO hG2 hv2 hne2
  try clear e1
  clear k1 g0
  go_upto_region 4 with fail
  refine Rg.region 10 26 (Rg.pick [au [.k (eK f), iv n, iv d], au [.k (eK f), .q (Wd.qR n d)], au [.k (eK g), iv p, iv q], au [.k (eK g), .q (Wd.qR p q)], Rg.ai (.int .i64 m), au [.k (eK pp), .q y], au [.k (eK h), .q a], jk [au [.k (eK (gp h a).f), iv (gp h a).n, iv (gp h a).d], Rg.ai (.int .i64 (gp h a).e)], au [.k (eK (gp h a).f), iv (gp h a).n, iv (gp h a).d], Rg.ai (.int .i64 (gp h a).e)]) (az w _ V2) dm [] kr kr rfl (Rg.df.pick ⟨ay _, ay _, ay _, ay _, Rg.ae _, ay _, ay _, il ⟨(ay _), (Rg.ae _), trivial⟩, ay _, Rg.ae _, trivial⟩) (az.start (aa HO))
   (ag (fw jb ru aF [] [.k (eK f), iv n, iv d] [])
   (ag (sc1 Tryz.func103 (aT 0) (fun W v0 hG h0 => aab (aa rf).1.2.1 W _ h0))
   (ag (fw jb mf aF [] [.k (eK g), iv p, iv q] [])
   (ag (sc1 Tryz.func103 (aT 2) (fun W v0 hG h0 => aab (aa rf).2.2.1 W _ h0))
   (ag (cz rfl aF)
   (ag (sc2 Tryz.func104 (aT 3) (aT 4) (fun W v0 v1 hG h0 h1 => by cases h1; exact Tv W _ h0 (aa HA2).1 (fun W v0 hb h0 => (aa HE).1 ▸ ahr (K := 1) (b := 9) (Au (aa rf).2.2.1) (Da (aa rf).2) (aa HM) om om W v0 h0)))
   (ag (sc2 Tryz.func119 (aT 1) (aT 5) (fun W v0 v1 hG h0 h1 => Nr W _ h0 _ h1 (aa HA2).2 (fun W' v0 v1 hb h0 h1 => (aa HE).2 ▸ Rz ((aa HT).below (bz hG.bel hb)) ((Au (aa rf).1.2.1).mono om om) ((aa HE).1 ▸ Sm.Ae (b := 9) (Au (aa rf).2.2.1) (Da (aa rf).2) (aa HM) om) h0 h1)))
   (ag (sc1 Tryz.func105 (aT 6) (fun W v0 hG h0 => abm W _ h0))
   (ag (iy (ts := [au [.k (eK (gp h a).f), iv (gp h a).n, iv (gp h a).d], Rg.ai (.int .i64 (gp h a).e)]) rfl (aT 7) (of_decide_eq_true rfl) rfl)
   (ag (iy (ts := [au [.k (eK (gp h a).f), iv (gp h a).n, iv (gp h a).d], Rg.ai (.int .i64 (gp h a).e)]) rfl (aT 7) (of_decide_eq_true rfl) rfl)
   Rg.bf)))))))))) ?_
  intro v3 V3 hG3 hv3 ja
  simp only [Rg.puts, Act.put, tA]
  have e9 : v3 9 = .int .i64 (gp h a).e := hv3 9 de
  simp only [e9]
  have hO := hG3.1
  refine ji hO 0 [] zU [.k (eK (gp h a).f), iv (gp h a).n, iv (gp h a).d] [] rfl oo rfl (show au [.k (eK (gp h a).f), iv (gp h a).n, iv (gp h a).d] V3 (v3 8) from hv3 8 de) rfl rfl rfl ?_
  intro Bi fu hk0
  replace hO := fu
  clear fu
  clear HO
  have HO := hide hO
  clear hO hG3 hv3 ja hk0
  try clear e9
  go_wp2_with fail
  exact oz Tryz.results98 uh rfl rfl (aa HO) me0 rfl rfl
 ·
  have k1 : ((oq f n d g p q) != 0) = true := by simp [bne, beq_eq_false_iff_ne.2 g0]
  have hr := (aa HR).1 g0
  clear HR
  subst hr
  go_upto_region 2 with fail
  refine Rg.bg 2 26 (Rg.pick [Rg.ai (.int .i64 (oq f n d g p q)), Rg.ai (.bool true)]) (az w _ V1) dm [] kr rfl (Rg.df.pick ⟨Rg.ae _, Rg.ae _, trivial⟩) (az.begin (aa HO))
   (ag (cz rfl aF)
   (ag (mq rfl (aT 0) (Rg.jc _) rfl k1)
   Rg.bf)) ?_
  intro v2 V2 hG2 hv2 hne2
  simp only [Rg.puts, Act.put, tA]
  have e1 : v2 1 = .bool true := hv2 1 de
  simp only [e1]
  have hO := hG2.1
  clear HO
  have HO := hide hO
  clear hO hG2 hv2 hne2
  try clear e1
  go_upto_region 3 with fail
  refine Rg.bg 2 26 (Rg.pick [au [.k (eK z7), iv 0, iv 0], Rg.ai (.int .i64 (oq f n d g p q))]) (az w _ V2) dm [] kr rfl (Rg.df.pick ⟨ay _, Rg.ae _, trivial⟩) (az.begin (aa HO))
   (ag (Ik rfl rfl)
   (ag (cz rfl aF)
   Rg.bf)) ?_
  intro v3 V3 hG3 hv3 ja
  simp only [Rg.puts, Act.put, tA]
  have e1 : v3 1 = .int .i64 (oq f n d g p q) := hv3 1 de
  simp only [e1]
  have hO := hG3.1
  refine ji hO 0 [] zU [.k (eK z7), iv 0, iv 0] [] rfl oo rfl (show au [.k (eK z7), iv 0, iv 0] V3 (v3 0) from hv3 0 de) rfl rfl rfl ?_
  intro Bi fu hk0
  replace hO := fu
  clear fu
  clear HO
  have HO := hide hO
  clear hO hG3 hv3 ja hk0
  try clear e1
  go_wp2_with fail
  exact oz Tryz.results98 uh rfl rfl (aa HO) me0 rfl rfl
noncomputable def Fg (f : Nat → Int) (n d : Int) (g : Nat → Int) (p q m : Int) : Sd := if oq f n d g p q = 0 then gp (fun j => f j + g j * m) ((Wd.qR n d) * Ae (Wd.qR p q) m) else ⟨z7, 0, 0, 1⟩
theorem Nb {f g : Nat → Int} {m : Int} (hf : Ca f) (hg : Ca g) (hm : -9 ≤ m ∧ m ≤ 9) : (∀ j, j < 7 → wrap64 (g j * m) = g j * m) ∧ (∀ j, j < 7 → wrap64 (f j + g j * m) = f j + g j * m) := by
 have key : ∀ j, j < 7 → -81 ≤ g j * m ∧ g j * m ≤ 81 := fun j hj => by
  have h1 := hg j hj
  have h2 := Int.natAbs_mul (g j) m
  have h3 : (g j).natAbs * m.natAbs ≤ 9 * 9 := Nat.mul_le_mul om om
  omega
 exact ⟨fun j hj => IntWalk.wrap64_in _ (by have := key j hj; omega), fun j hj => IntWalk.wrap64_in _ (by have := key j hj; have := hf j hj; omega)⟩
theorem akg {f g : Nat → Int} {n d p q m : Int} (hm : -9 ≤ m ∧ m ≤ 9) (w : World) (hT : qa w) (u0 : Value) (h0 : au [.k (eK f), iv n, iv d] w u0) (u1 : Value) (h1 : au [.k (eK g), iv p, iv q] w u1) :
  Calls Tryz.prog 98 #[u0, u1, .int .i64 m] w (ik (Kv (Fg f n d g p q m)) w) := by
 refine ard (pp := fun j => g j * m) (h := fun j => f j + g j * m) _ w hT u0 h0 u1 h1 hm ⟨rfl, rfl⟩ (fun o1 o2 => Nb o1.1 o2.1 hm) ⟨fun h => ?_, fun h => ?_⟩
 ·
  unfold Fg
  rw [if_neg h, Jq (fun k => h (Cb k))]
 ·
  unfold Fg
  rw [if_pos h]
theorem _root_.Go.Proofs.YtfgeaakhlcaibaaGreatDoor.sc3 {P : Program} {Q : Exit → Act → World → Prop} {l : List Oper} {n : Nat} {T : Nat → World → Value → Prop} {w V : World} {bs : List Sb.xx} {al : List Nat} {a0 : Act} {k F d : Nat} {fn : Func} {ats : Array TypeId} {ty : TypeId} {pos : String} {af : Array Edge} {gd : Option (Nat × Bool)} {x1 x2 x3 : Operand} {A1 A2 A3 : World → Value → Prop} (hF : P.funcs[F]? = some fn) (h1 : Rg.iq l n T a0 k x1 A1) (h2 : Rg.iq l n T a0 k x2 A2) (h3 : Rg.iq l n T a0 k x3 A3) (hc : ∀ (W : World) (v1 v2 v3 : Value), Sb.az w bs V W → A1 W v1 → A2 W v2 → A3 W v3 → Calls P F #[v1, v2, v3] W fun e w' => ∃ u, e = .returned u ∧ dm W w' ∧ T k w' u) (hn : (!(fn.name == "runtime.NumGoroutine") && fn.body.isSome) = true := by kernel_rfl) (hal : al.contains k = false := by rfl) :
  Rg.Step P Q l n T (Sb.az w bs V) dm al a0 k { dst := some d, op := .call { callee := .value (.func F), args := #[x1, x2, x3], argTypes := ats }, type := ty, pos := pos, after := af, guard := gd } := ajo hF hn hal Sb.az.step h1 h2 h3 hc
theorem bfl {f g : Nat → Int} {n d p q : Int} (w : World) (hT : qa w) (u0 : Value) (h0 : au [.k (eK f), iv n, iv d] w u0) (u1 : Value) (h1 : au [.k (eK g), iv p, iv q] w u1) :
  Calls Tryz.prog 33 #[u0, u1] w (ik (Kv (Fg f n d g p q 1)) w) := by
 obtain ⟨t, ht⟩ : ∃ t, Fg f n d g p q 1 = t := ⟨_, rfl⟩
 rw [ht]
 have HE := hide ht
 have HT := hide hT
 clear ht hT
 have hu0 := pg h0
 subst hu0
 have hu1 := pg h1
 subst hu1
 go_enter Tryz.func33, Tryz.ntmps33
 go_upto_region 1 with fail
 have hO := (Own.push (T := 44) (ls := zU) (Own.push (T := 44) (ls := [.k (eK g), iv p, iv q]) (Own.push (T := 44) (ls := [.k (eK f), iv n, iv d]) (Own.nil w) (eu.e (eu.v (iw _) (eu.v (iw _) rfl))) (w.heap.size) rfl) (eu.below (by repeat (first | exact Below.refl _ _ | refine gm ?_ _)) (eu.e (eu.v (iw _) (eu.v (iw _) rfl)))) (w.heap.size + 1) (by simp only [World.size_alloc])) (eu.below (by repeat (first | exact Below.refl _ _ | refine gm ?_ _)) (eu.vs w [.int .i64 0, .int .i64 0, .int .i64 0, .int .i64 0, .int .i64 0, .int .i64 0, .int .i64 0, .int .i64 0, .int .i64 0] rfl)) (w.heap.size + 2) (by simp only [World.size_alloc]))
 generalize ((w.alloc (.cells #[.int .i64 (f 0), .int .i64 (f 1), .int .i64 (f 2), .int .i64 (f 3), .int .i64 (f 4), .int .i64 (f 5), .int .i64 (f 6), .int .i64 n, .int .i64 d] 44)).alloc (.cells #[.int .i64 (g 0), .int .i64 (g 1), .int .i64 (g 2), .int .i64 (g 3), .int .i64 (g 4), .int .i64 (g 5), .int .i64 (g 6), .int .i64 p, .int .i64 q] 44)).alloc (.cells #[.int .i64 0, .int .i64 0, .int .i64 0, .int .i64 0, .int .i64 0, .int .i64 0, .int .i64 0, .int .i64 0, .int .i64 0] 44) = W0 at *
 have HO := hide hO
 clear hO
 go_upto_region 1 with fail
 refine Rg.bg 5 11 (Rg.pick [au [.k (eK f), iv n, iv d], au [.k (eK g), iv p, iv q], jk [au [.k (eK t.f), iv t.n, iv t.d], Rg.ai (.int .i64 t.e)], au [.k (eK t.f), iv t.n, iv t.d], Rg.ai (.int .i64 t.e)]) (az w _ W0) dm [] kr rfl (Rg.df.pick ⟨ay _, ay _, il ⟨(ay _), (Rg.ae _), trivial⟩, ay _, Rg.ae _, trivial⟩) (az.begin (aa HO))
  (ag (fw jb ru aF [] [.k (eK f), iv n, iv d] [])
  (ag (fw jb mf aF [] [.k (eK g), iv p, iv q] [])
  (ag (sc3 Tryz.func98 (aT 0) (aT 1) (Rg.jc _) (fun W v0 v1 v2 hG h0 h1 h2 => by cases h2; exact (aa HE) ▸ akg om W ((aa HT).below hG.bel) _ h0 _ h1))
  (ag (iy (ts := [au [.k (eK t.f), iv t.n, iv t.d], Rg.ai (.int .i64 t.e)]) rfl (aT 2) (of_decide_eq_true rfl) rfl)
  (ag (iy (ts := [au [.k (eK t.f), iv t.n, iv t.d], Rg.ai (.int .i64 t.e)]) rfl (aT 2) (of_decide_eq_true rfl) rfl)
  Rg.bf))))) ?_
 intro v1 V1 hG1 hv1 hne1
 simp only [Rg.puts, Act.put, tA]
 have e4 : v1 4 = .int .i64 t.e := hv1 4 de
 simp only [e4]
 have hO := hG1.1
 refine ji hO 0 [] zU [.k (eK t.f), iv t.n, iv t.d] [] rfl oo rfl (show au [.k (eK t.f), iv t.n, iv t.d] V1 (v1 3) from hv1 3 de) rfl rfl rfl ?_
 intro ui fu hk0
 replace hO := fu
 clear fu
 clear HO
 have HO := hide hO
 clear hO hG1 hv1 hne1 hk0
 try clear e4
 go_wp2_with fail
 exact oz Tryz.results33 uh rfl rfl (aa HO) me0 rfl rfl
theorem bfn {f g : Nat → Int} {n d p q : Int} (w : World) (hT : qa w) (u0 : Value) (h0 : au [.k (eK f), iv n, iv d] w u0) (u1 : Value) (h1 : au [.k (eK g), iv p, iv q] w u1) :
  Calls Tryz.prog 35 #[u0, u1] w (ik (Kv (Fg f n d g p q (-1))) w) := by
 obtain ⟨t, ht⟩ : ∃ t, Fg f n d g p q (-1) = t := ⟨_, rfl⟩
 rw [ht]
 have HE := hide ht
 have HT := hide hT
 clear ht hT
 have hu0 := pg h0
 subst hu0
 have hu1 := pg h1
 subst hu1
 go_enter Tryz.func35, Tryz.ntmps35
 go_upto_region 1 with fail
 have hO := (Own.push (T := 44) (ls := zU) (Own.push (T := 44) (ls := [.k (eK g), iv p, iv q]) (Own.push (T := 44) (ls := [.k (eK f), iv n, iv d]) (Own.nil w) (eu.e (eu.v (iw _) (eu.v (iw _) rfl))) (w.heap.size) rfl) (eu.below (by repeat (first | exact Below.refl _ _ | refine gm ?_ _)) (eu.e (eu.v (iw _) (eu.v (iw _) rfl)))) (w.heap.size + 1) (by simp only [World.size_alloc])) (eu.below (by repeat (first | exact Below.refl _ _ | refine gm ?_ _)) (eu.vs w [.int .i64 0, .int .i64 0, .int .i64 0, .int .i64 0, .int .i64 0, .int .i64 0, .int .i64 0, .int .i64 0, .int .i64 0] rfl)) (w.heap.size + 2) (by simp only [World.size_alloc]))
 generalize ((w.alloc (.cells #[.int .i64 (f 0), .int .i64 (f 1), .int .i64 (f 2), .int .i64 (f 3), .int .i64 (f 4), .int .i64 (f 5), .int .i64 (f 6), .int .i64 n, .int .i64 d] 44)).alloc (.cells #[.int .i64 (g 0), .int .i64 (g 1), .int .i64 (g 2), .int .i64 (g 3), .int .i64 (g 4), .int .i64 (g 5), .int .i64 (g 6), .int .i64 p, .int .i64 q] 44)).alloc (.cells #[.int .i64 0, .int .i64 0, .int .i64 0, .int .i64 0, .int .i64 0, .int .i64 0, .int .i64 0, .int .i64 0, .int .i64 0] 44) = W0 at *
 have HO := hide hO
 clear hO
 go_upto_region 1 with fail
 refine Rg.bg 5 11 (Rg.pick [au [.k (eK f), iv n, iv d], au [.k (eK g), iv p, iv q], jk [au [.k (eK t.f), iv t.n, iv t.d], Rg.ai (.int .i64 t.e)], au [.k (eK t.f), iv t.n, iv t.d], Rg.ai (.int .i64 t.e)]) (az w _ W0) dm [] kr rfl (Rg.df.pick ⟨ay _, ay _, il ⟨(ay _), (Rg.ae _), trivial⟩, ay _, Rg.ae _, trivial⟩) (az.begin (aa HO))
  (ag (fw jb ru aF [] [.k (eK f), iv n, iv d] [])
  (ag (fw jb mf aF [] [.k (eK g), iv p, iv q] [])
  (ag (sc3 Tryz.func98 (aT 0) (aT 1) (Rg.jc _) (fun W v0 v1 v2 hG h0 h1 h2 => by cases h2; exact (aa HE) ▸ akg om W ((aa HT).below hG.bel) _ h0 _ h1))
  (ag (iy (ts := [au [.k (eK t.f), iv t.n, iv t.d], Rg.ai (.int .i64 t.e)]) rfl (aT 2) (of_decide_eq_true rfl) rfl)
  (ag (iy (ts := [au [.k (eK t.f), iv t.n, iv t.d], Rg.ai (.int .i64 t.e)]) rfl (aT 2) (of_decide_eq_true rfl) rfl)
  Rg.bf))))) ?_
 intro v1 V1 hG1 hv1 hne1
 simp only [Rg.puts, Act.put, tA]
 have e4 : v1 4 = .int .i64 t.e := hv1 4 de
 simp only [e4]
 have hO := hG1.1
 refine ji hO 0 [] zU [.k (eK t.f), iv t.n, iv t.d] [] rfl oo rfl (show au [.k (eK t.f), iv t.n, iv t.d] V1 (v1 3) from hv1 3 de) rfl rfl rfl ?_
 intro ui fu hk0
 replace hO := fu
 clear fu
 clear HO
 have HO := hide hO
 clear hO hG1 hv1 hne1 hk0
 try clear e4
 go_wp2_with fail
 exact oz Tryz.results35 uh rfl rfl (aa HO) me0 rfl rfl
theorem air {f pp : Nat → Int} {n d m : Int} {y : Rat} (t : Sd) (w : World) (hT : qa w) (u0 : Value) (h0 : au [.k (eK f), iv n, iv d] w u0)
  (he : Ae (Wd.qR n d) m = y) (ha : qf f n d → -9 ≤ m ∧ m ≤ 9 → (∀ j, j < 7 → wrap64 (f j * m) = pp j))
  (hr : (¬ qf f n d → t = ⟨z7, 0, 0, 1⟩) ∧ (qf f n d → (¬ (-9 ≤ m ∧ m ≤ 9) → t = ⟨z7, 0, 0, 1⟩) ∧ (-9 ≤ m ∧ m ≤ 9 → t = gp pp y))) :
  Calls Tryz.prog 37 #[u0, .int .i64 m] w (ik (Kv t) w) := by
 have HE := hide he
 have HA := hide ha
 have HR := hide hr
 have HT := hide hT
 clear he ha hr hT
 have hu0 := pg h0
 subst hu0
 go_enter Tryz.func37, Tryz.ntmps37
 go_upto_region 1 with fail
 have hO := (Own.push (T := 44) (ls := zU) (Own.push (T := 44) (ls := [.k (eK f), iv n, iv d]) (Own.nil w) (eu.e (eu.v (iw _) (eu.v (iw _) rfl))) (w.heap.size) rfl) (eu.below (by repeat (first | exact Below.refl _ _ | refine gm ?_ _)) (eu.vs w [.int .i64 0, .int .i64 0, .int .i64 0, .int .i64 0, .int .i64 0, .int .i64 0, .int .i64 0, .int .i64 0, .int .i64 0] rfl)) (w.heap.size + 1) (by simp only [World.size_alloc]))
 generalize (w.alloc (.cells #[.int .i64 (f 0), .int .i64 (f 1), .int .i64 (f 2), .int .i64 (f 3), .int .i64 (f 4), .int .i64 (f 5), .int .i64 (f 6), .int .i64 n, .int .i64 d] 44)).alloc (.cells #[.int .i64 0, .int .i64 0, .int .i64 0, .int .i64 0, .int .i64 0, .int .i64 0, .int .i64 0, .int .i64 0, .int .i64 0] 44) = W0 at *
 have HO := hide hO
 clear hO
 by_cases g0 : qf f n d
 ·
  by_cases g1 : m < -9
  ·
   have k0 : xy f n d = 0 := if_pos g0
   have k1 : decide (m < -9) = true := decide_eq_true g1
   have hr := ((aa HR).2 g0).1 om
   clear HR
   subst hr
   go_upto_region 1 with fail
   refine Rg.bg 3 27 (Rg.pick [au [.k (eK f), iv n, iv d], Rg.ai (.int .i64 0), Rg.ai (.int .i64 0)]) (az w _ W0) dm [] kr rfl (Rg.df.pick ⟨ay _, Rg.ae _, Rg.ae _, trivial⟩) (az.begin (aa HO))
    (ag (fw jb mf aF [] [.k (eK f), iv n, iv d] [])
    (ag (sc1 Tryz.func30 (aT 0) (fun W v0 hG h0 => k0 ▸ Ku W ((aa HT).below hG.bel) _ h0))
    (ag (ib rfl (aT 1))
    Rg.bf))) ?_
   intro v1 V1 hG1 hv1 hne1
   simp only [Rg.puts, Act.put, tA]
   have e1 : v1 1 = .int .i64 0 := hv1 1 de
   have e2 : v1 2 = .int .i64 0 := hv1 2 de
   simp only [e1, e2]
   have hO := hG1.1
   clear HO
   have HO := hide hO
   clear hO hG1 hv1 hne1
   try clear e1 e2
   go_upto_region 2 with fail
   refine Rg.bg 2 27 (Rg.pick [Rg.ai (.int .i64 0), Rg.ai (.bool false)]) (az w _ V1) dm [] kr rfl (Rg.df.pick ⟨Rg.ae _, Rg.ae _, trivial⟩) (az.begin (aa HO))
    (ag (cz rfl aF)
    (ag (mq rfl (aT 0) (Rg.jc _) rfl rfl)
    Rg.bf)) ?_
   intro v2 V2 hG2 hv2 hne2
   simp only [Rg.puts, Act.put, tA]
   have e1 : v2 1 = .bool false := hv2 1 de
   simp only [e1]
   have hO := hG2.1
   clear HO
   have HO := hide hO
   clear hO hG2 hv2 hne2
   try clear e1
   go_upto_region 4 with fail
   refine Rg.bg 6 27 (Rg.pick [Rg.ai (.int .i64 m), Rg.ai (.bool true), Rg.ai (.bool true), Rg.ai undef, Rg.ai undef, Rg.ai (.bool true)]) (az w _ V2) dm [] kr rfl (Rg.df.pick ⟨Rg.ae _, Rg.ae _, Rg.ae _, Rg.ae _, Rg.ae _, Rg.ae _, trivial⟩) (az.begin (aa HO))
    (ag (cz rfl aF)
    (ag (ry rfl (aT 0) (Rg.jc _) rfl k1)
    (ag (cz rfl (aT 1))
    (Rg.cu (Rg.ny (d := 15) rfl kr rfl rfl nz rfl rfl)
    (Rg.cu (Rg.ny (d := 15) rfl kr rfl rfl nz rfl rfl)
    (ag (xz rfl (aT 2) (Rg.jc _))
    Rg.bf)))))) ?_
   intro v3 V3 hG3 hv3 ja
   simp only [Rg.puts, Act.put, tA]
   have e5 : v3 5 = .bool true := hv3 5 de
   simp only [e5]
   have hO := hG3.1
   clear HO
   have HO := hide hO
   clear hO hG3 hv3 ja
   try clear e5
   go_upto_region 5 with fail
   refine Rg.bg 1 27 (Rg.pick [au [.k (eK z7), iv 0, iv 0]]) (az w _ V3) dm [] kr rfl (Rg.df.pick ⟨ay _, trivial⟩) (az.begin (aa HO))
    (ag (Ik rfl rfl)
    Rg.bf) ?_
   intro v4 V4 hG4 hv4 mo
   simp only [Rg.puts, Act.put, tA]
   have hO := hG4.1
   refine ji hO 0 [] zU [.k (eK z7), iv 0, iv 0] [] rfl oo rfl (show au [.k (eK z7), iv 0, iv 0] V4 (v4 0) from hv4 0 de) rfl rfl rfl ?_
   intro Ai fu hk0
   replace hO := fu
   clear fu
   clear HO
   have HO := hide hO
   clear hO hG4 hv4 mo hk0
   go_wp2_with fail
   exact oz Tryz.results37 uh rfl rfl (aa HO) me0 rfl rfl
  ·
   by_cases g2 : 9 < m
   ·
    have k0 : xy f n d = 0 := if_pos g0
    have k1 : decide (m < -9) = false := decide_eq_false g1
    have k2 : decide (9 < m) = true := decide_eq_true g2
    have hr := ((aa HR).2 g0).1 om
    clear HR
    subst hr
    go_upto_region 1 with fail
    refine Rg.bg 3 27 (Rg.pick [au [.k (eK f), iv n, iv d], Rg.ai (.int .i64 0), Rg.ai (.int .i64 0)]) (az w _ W0) dm [] kr rfl (Rg.df.pick ⟨ay _, Rg.ae _, Rg.ae _, trivial⟩) (az.begin (aa HO))
     (ag (fw jb mf aF [] [.k (eK f), iv n, iv d] [])
     (ag (sc1 Tryz.func30 (aT 0) (fun W v0 hG h0 => k0 ▸ Ku W ((aa HT).below hG.bel) _ h0))
     (ag (ib rfl (aT 1))
     Rg.bf))) ?_
    intro v1 V1 hG1 hv1 hne1
    simp only [Rg.puts, Act.put, tA]
    have e1 : v1 1 = .int .i64 0 := hv1 1 de
    have e2 : v1 2 = .int .i64 0 := hv1 2 de
    simp only [e1, e2]
    have hO := hG1.1
    clear HO
    have HO := hide hO
    clear hO hG1 hv1 hne1
    try clear e1 e2
    go_upto_region 2 with fail
    refine Rg.bg 2 27 (Rg.pick [Rg.ai (.int .i64 0), Rg.ai (.bool false)]) (az w _ V1) dm [] kr rfl (Rg.df.pick ⟨Rg.ae _, Rg.ae _, trivial⟩) (az.begin (aa HO))
     (ag (cz rfl aF)
     (ag (mq rfl (aT 0) (Rg.jc _) rfl rfl)
     Rg.bf)) ?_
    intro v2 V2 hG2 hv2 hne2
    simp only [Rg.puts, Act.put, tA]
    have e1 : v2 1 = .bool false := hv2 1 de
    simp only [e1]
    have hO := hG2.1
    clear HO
    have HO := hide hO
    clear hO hG2 hv2 hne2
    try clear e1
    go_upto_region 4 with fail
    refine Rg.bg 6 27 (Rg.pick [Rg.ai (.int .i64 m), Rg.ai (.bool false), Rg.ai (.bool false), Rg.ai (.int .i64 m), Rg.ai (.bool true), Rg.ai (.bool true)]) (az w _ V2) dm [] kr rfl (Rg.df.pick ⟨Rg.ae _, Rg.ae _, Rg.ae _, Rg.ae _, Rg.ae _, Rg.ae _, trivial⟩) (az.begin (aa HO))
     (ag (cz rfl aF)
     (ag (ry rfl (aT 0) (Rg.jc _) rfl k1)
     (ag (cz rfl (aT 1))
     (Rg.cu (Rg.ek (d := 15) rfl kr rfl (cz rfl aF))
     (Rg.cu (Rg.ek (d := 15) rfl kr rfl (Jv rfl (aT 3) (Rg.jc _) rfl k2))
     (ag (qb rfl (aT 2) (aT 4))
     Rg.bf)))))) ?_
    intro v3 V3 hG3 hv3 ja
    simp only [Rg.puts, Act.put, tA]
    have e5 : v3 5 = .bool true := hv3 5 de
    simp only [e5]
    have hO := hG3.1
    clear HO
    have HO := hide hO
    clear hO hG3 hv3 ja
    try clear e5
    go_upto_region 5 with fail
    refine Rg.bg 1 27 (Rg.pick [au [.k (eK z7), iv 0, iv 0]]) (az w _ V3) dm [] kr rfl (Rg.df.pick ⟨ay _, trivial⟩) (az.begin (aa HO))
     (ag (Ik rfl rfl)
     Rg.bf) ?_
    intro v4 V4 hG4 hv4 mo
    simp only [Rg.puts, Act.put, tA]
    have hO := hG4.1
    refine ji hO 0 [] zU [.k (eK z7), iv 0, iv 0] [] rfl oo rfl (show au [.k (eK z7), iv 0, iv 0] V4 (v4 0) from hv4 0 de) rfl rfl rfl ?_
    intro Ai fu hk0
    replace hO := fu
    clear fu
    clear HO
    have HO := hide hO
    clear hO hG4 hv4 mo hk0
    go_wp2_with fail
    exact oz Tryz.results37 uh rfl rfl (aa HO) me0 rfl rfl
   ·
    have k0 : xy f n d = 0 := if_pos g0
    have k1 : decide (m < -9) = false := decide_eq_false g1
    have k2 : decide (9 < m) = false := decide_eq_false g2
    have hr := ((aa HR).2 g0).2 om
    have rf := hide g0
    have HM := hide (show -((9 : Nat) : Int) ≤ m ∧ m ≤ (9 : Nat) by omega)
    have HA2 := hide ((aa HA) g0 om)
    clear HR HA
    subst hr
    go_upto_region 1 with fail
    refine Rg.bg 3 27 (Rg.pick [au [.k (eK f), iv n, iv d], Rg.ai (.int .i64 0), Rg.ai (.int .i64 0)]) (az w _ W0) dm [] kr rfl (Rg.df.pick ⟨ay _, Rg.ae _, Rg.ae _, trivial⟩) (az.begin (aa HO))
     (ag (fw jb mf aF [] [.k (eK f), iv n, iv d] [])
     (ag (sc1 Tryz.func30 (aT 0) (fun W v0 hG h0 => k0 ▸ Ku W ((aa HT).below hG.bel) _ h0))
     (ag (ib rfl (aT 1))
     Rg.bf))) ?_
    intro v1 V1 hG1 hv1 hne1
    simp only [Rg.puts, Act.put, tA]
    have e1 : v1 1 = .int .i64 0 := hv1 1 de
    have e2 : v1 2 = .int .i64 0 := hv1 2 de
    simp only [e1, e2]
    have hO := hG1.1
    clear HO
    have HO := hide hO
    clear hO hG1 hv1 hne1
    try clear e1 e2
    go_upto_region 2 with fail
    refine Rg.bg 2 27 (Rg.pick [Rg.ai (.int .i64 0), Rg.ai (.bool false)]) (az w _ V1) dm [] kr rfl (Rg.df.pick ⟨Rg.ae _, Rg.ae _, trivial⟩) (az.begin (aa HO))
     (ag (cz rfl aF)
     (ag (mq rfl (aT 0) (Rg.jc _) rfl rfl)
     Rg.bf)) ?_
    intro v2 V2 hG2 hv2 hne2
    simp only [Rg.puts, Act.put, tA]
    have e1 : v2 1 = .bool false := hv2 1 de
    simp only [e1]
    have hO := hG2.1
    clear HO
    have HO := hide hO
    clear hO hG2 hv2 hne2
    try clear e1
    go_upto_region 4 with fail
    refine Rg.bg 6 27 (Rg.pick [Rg.ai (.int .i64 m), Rg.ai (.bool false), Rg.ai (.bool false), Rg.ai (.int .i64 m), Rg.ai (.bool false), Rg.ai (.bool false)]) (az w _ V2) dm [] kr rfl (Rg.df.pick ⟨Rg.ae _, Rg.ae _, Rg.ae _, Rg.ae _, Rg.ae _, Rg.ae _, trivial⟩) (az.begin (aa HO))
     (ag (cz rfl aF)
     (ag (ry rfl (aT 0) (Rg.jc _) rfl k1)
     (ag (cz rfl (aT 1))
     (Rg.cu (Rg.ek (d := 15) rfl kr rfl (cz rfl aF))
     (Rg.cu (Rg.ek (d := 15) rfl kr rfl (Jv rfl (aT 3) (Rg.jc _) rfl k2))
     (ag (qb rfl (aT 2) (aT 4))
     Rg.bf)))))) ?_
    intro v3 V3 hG3 hv3 ja
    simp only [Rg.puts, Act.put, tA]
    have e5 : v3 5 = .bool false := hv3 5 de
    simp only [e5]
    have hO := hG3.1
    clear HO
    have HO := hide hO
    clear hO hG3 hv3 ja
    try clear e5
    clear k0 k1 k2 g0 g1 g2
    go_upto_region 6 with fail
    refine Rg.bg 7 27 (Rg.pick [au [.k (eK f), iv n, iv d], au [.k (eK f), .q (Wd.qR n d)], Rg.ai (.int .i64 m), au [.k (eK pp), .q y], jk [au [.k (eK (gp pp y).f), iv (gp pp y).n, iv (gp pp y).d], Rg.ai (.int .i64 (gp pp y).e)], au [.k (eK (gp pp y).f), iv (gp pp y).n, iv (gp pp y).d], Rg.ai (.int .i64 (gp pp y).e)]) (az w _ V3) dm [] kr rfl (Rg.df.pick ⟨ay _, ay _, Rg.ae _, ay _, il ⟨(ay _), (Rg.ae _), trivial⟩, ay _, Rg.ae _, trivial⟩) (az.begin (aa HO))
     (ag (fw jb mf aF [] [.k (eK f), iv n, iv d] [])
     (ag (sc1 Tryz.func103 (aT 0) (fun W v0 hG h0 => aab (aa rf).2.1 W _ h0))
     (ag (cz rfl aF)
     (ag (sc2 Tryz.func104 (aT 1) (aT 2) (fun W v0 v1 hG h0 h1 => by cases h1; exact Tv W _ h0 (aa HA2) (fun W v0 hb h0 => (aa HE) ▸ ahr (K := 1) (b := 9) (Au (aa rf).2.1) (Da (aa rf)) (aa HM) om om W v0 h0)))
     (ag (sc1 Tryz.func105 (aT 3) (fun W v0 hG h0 => abm W _ h0))
     (ag (iy (ts := [au [.k (eK (gp pp y).f), iv (gp pp y).n, iv (gp pp y).d], Rg.ai (.int .i64 (gp pp y).e)]) rfl (aT 4) (of_decide_eq_true rfl) rfl)
     (ag (iy (ts := [au [.k (eK (gp pp y).f), iv (gp pp y).n, iv (gp pp y).d], Rg.ai (.int .i64 (gp pp y).e)]) rfl (aT 4) (of_decide_eq_true rfl) rfl)
     Rg.bf))))))) ?_
    intro v4 V4 hG4 hv4 mo
    simp only [Rg.puts, Act.put, tA]
    have e6 : v4 6 = .int .i64 (gp pp y).e := hv4 6 de
    simp only [e6]
    have hO := hG4.1
    refine ji hO 0 [] zU [.k (eK (gp pp y).f), iv (gp pp y).n, iv (gp pp y).d] [] rfl oo rfl (show au [.k (eK (gp pp y).f), iv (gp pp y).n, iv (gp pp y).d] V4 (v4 5) from hv4 5 de) rfl rfl rfl ?_
    intro Ai fu hk0
    replace hO := fu
    clear fu
    clear HO
    have HO := hide hO
    clear hO hG4 hv4 mo hk0
    try clear e6
    go_wp2_with fail
    exact oz Tryz.results37 uh rfl rfl (aa HO) me0 rfl rfl
 ·
  have k0 : xy f n d = 1 := if_neg g0
  have hr := (aa HR).1 g0
  clear HR
  subst hr
  go_upto_region 1 with fail
  refine Rg.bg 3 27 (Rg.pick [au [.k (eK f), iv n, iv d], Rg.ai (.int .i64 1), Rg.ai (.int .i64 1)]) (az w _ W0) dm [] kr rfl (Rg.df.pick ⟨ay _, Rg.ae _, Rg.ae _, trivial⟩) (az.begin (aa HO))
   (ag (fw jb mf aF [] [.k (eK f), iv n, iv d] [])
   (ag (sc1 Tryz.func30 (aT 0) (fun W v0 hG h0 => k0 ▸ Ku W ((aa HT).below hG.bel) _ h0))
   (ag (ib rfl (aT 1))
   Rg.bf))) ?_
  intro v1 V1 hG1 hv1 hne1
  simp only [Rg.puts, Act.put, tA]
  have e1 : v1 1 = .int .i64 1 := hv1 1 de
  have e2 : v1 2 = .int .i64 1 := hv1 2 de
  simp only [e1, e2]
  have hO := hG1.1
  clear HO
  have HO := hide hO
  clear hO hG1 hv1 hne1
  try clear e1 e2
  go_upto_region 2 with fail
  refine Rg.bg 2 27 (Rg.pick [Rg.ai (.int .i64 1), Rg.ai (.bool true)]) (az w _ V1) dm [] kr rfl (Rg.df.pick ⟨Rg.ae _, Rg.ae _, trivial⟩) (az.begin (aa HO))
   (ag (cz rfl aF)
   (ag (mq rfl (aT 0) (Rg.jc _) rfl rfl)
   Rg.bf)) ?_
  intro v2 V2 hG2 hv2 hne2
  simp only [Rg.puts, Act.put, tA]
  have e1 : v2 1 = .bool true := hv2 1 de
  simp only [e1]
  have hO := hG2.1
  clear HO
  have HO := hide hO
  clear hO hG2 hv2 hne2
  try clear e1
  go_upto_region 3 with fail
  refine Rg.bg 2 27 (Rg.pick [au [.k (eK z7), iv 0, iv 0], Rg.ai (.int .i64 1)]) (az w _ V2) dm [] kr rfl (Rg.df.pick ⟨ay _, Rg.ae _, trivial⟩) (az.begin (aa HO))
   (ag (Ik rfl rfl)
   (ag (cz rfl aF)
   Rg.bf)) ?_
  intro v3 V3 hG3 hv3 ja
  simp only [Rg.puts, Act.put, tA]
  have e1 : v3 1 = .int .i64 1 := hv3 1 de
  simp only [e1]
  have hO := hG3.1
  refine ji hO 0 [] zU [.k (eK z7), iv 0, iv 0] [] rfl oo rfl (show au [.k (eK z7), iv 0, iv 0] V3 (v3 0) from hv3 0 de) rfl rfl rfl ?_
  intro Bi fu hk0
  replace hO := fu
  clear fu
  clear HO
  have HO := hide hO
  clear hO hG3 hv3 ja hk0
  try clear e1
  go_wp2_with fail
  exact oz Tryz.results37 uh rfl rfl (aa HO) me0 rfl rfl
noncomputable def Im (f : Nat → Int) (n d m : Int) : Sd := if qf f n d then (if -9 ≤ m ∧ m ≤ 9 then gp (fun j => f j * m) (Ae (Wd.qR n d) m) else ⟨z7, 0, 0, 1⟩) else ⟨z7, 0, 0, 1⟩
theorem avu {f : Nat → Int} {n d m : Int} (w : World) (hT : qa w) (u0 : Value) (h0 : au [.k (eK f), iv n, iv d] w u0) : Calls Tryz.prog 37 #[u0, .int .i64 m] w (ik (Kv (Im f n d m)) w) := by
 refine air (pp := fun j => f j * m) _ w hT u0 h0 rfl (fun o hm => (Nb o.1 o.1 hm).1) ⟨fun h => if_neg h, fun h => ⟨fun h2 => ?_, fun h2 => ?_⟩⟩
 ·
  unfold Im; rw [if_pos h, if_neg h2]
 ·
  unfold Im; rw [if_pos h, if_pos h2]
theorem aqb {f g : Nat → Int} {n d p q : Int} (b : Bool) (e : Int) (w : World) (hT : qa w) (u0 : Value) (h0 : au [.k (eK f), iv n, iv d] w u0) (u1 : Value) (h1 : au [.k (eK g), iv p, iv q] w u1)
  (hr : (¬ (qf f n d ∧ qf g p q) → false = b ∧ 1 = e) ∧ ((qf f n d ∧ qf g p q) → decide (uy f g) = b ∧ 0 = e)) :
  Calls Tryz.prog 39 #[u0, u1] w (ik (jk [Rg.ai (.bool b), Rg.ai (.int .i64 e)]) w) := by
 have HR := hide hr
 have HT := hide hT
 clear hr hT
 have hu0 := pg h0
 subst hu0
 have hu1 := pg h1
 subst hu1
 go_enter Tryz.func39, Tryz.ntmps39
 go_upto_region 1 with fail
 have hO := (Own.push (T := 44) (ls := [.k (eK g), iv p, iv q]) (Own.push (T := 44) (ls := [.k (eK f), iv n, iv d]) (Own.nil w) (eu.e (eu.v (iw _) (eu.v (iw _) rfl))) (w.heap.size) rfl) (eu.below (by repeat (first | exact Below.refl _ _ | refine gm ?_ _)) (eu.e (eu.v (iw _) (eu.v (iw _) rfl)))) (w.heap.size + 1) (by simp only [World.size_alloc]))
 generalize (w.alloc (.cells #[.int .i64 (f 0), .int .i64 (f 1), .int .i64 (f 2), .int .i64 (f 3), .int .i64 (f 4), .int .i64 (f 5), .int .i64 (f 6), .int .i64 n, .int .i64 d] 44)).alloc (.cells #[.int .i64 (g 0), .int .i64 (g 1), .int .i64 (g 2), .int .i64 (g 3), .int .i64 (g 4), .int .i64 (g 5), .int .i64 (g 6), .int .i64 p, .int .i64 q] 44) = W0 at *
 have HO := hide hO
 clear hO
 by_cases g0 : qf f n d ∧ qf g p q
 ·
  have k0 : oq f n d g p q = 0 := Cb g0
  obtain ⟨hb, rfl⟩ := (aa HR).2 g0
  go_upto_region 1 with fail
  refine Rg.bg 4 18 (Rg.pick [au [.k (eK f), iv n, iv d], au [.k (eK g), iv p, iv q], Rg.ai (.int .i64 0), Rg.ai (.int .i64 0)]) (az w _ W0) dm [] kr rfl (Rg.df.pick ⟨ay _, ay _, Rg.ae _, Rg.ae _, trivial⟩) (az.begin (aa HO))
   (ag (fw jb mf aF [] [.k (eK f), iv n, iv d] [])
   (ag (fw jb me0 aF [] [.k (eK g), iv p, iv q] [])
   (ag (sc2 Tryz.func107 (aT 0) (aT 1) (fun W v0 v1 hG h0 h1 => k0 ▸ ahv W ((aa HT).below hG.bel) _ h0 _ h1))
   (ag (ib rfl (aT 2))
   Rg.bf)))) ?_
  intro v1 V1 hG1 hv1 hne1
  simp only [Rg.puts, Act.put, tA]
  have e2 : v1 2 = .int .i64 0 := hv1 2 de
  have e3 : v1 3 = .int .i64 0 := hv1 3 de
  simp only [e2, e3]
  have hO := hG1.1
  clear HO
  have HO := hide hO
  clear hO hG1 hv1 hne1
  try clear e2 e3
  go_upto_region 2 with fail
  refine Rg.bg 2 18 (Rg.pick [Rg.ai (.int .i64 0), Rg.ai (.bool false)]) (az w _ V1) dm [] kr rfl (Rg.df.pick ⟨Rg.ae _, Rg.ae _, trivial⟩) (az.begin (aa HO))
   (ag (cz rfl aF)
   (ag (mq rfl (aT 0) (Rg.jc _) rfl rfl)
   Rg.bf)) ?_
  intro v2 V2 hG2 hv2 hne2
  simp only [Rg.puts, Act.put, tA]
  have e1 : v2 1 = .bool false := hv2 1 de
  simp only [e1]
  have hO := hG2.1
  clear HO
  have HO := hide hO
  clear hO hG2 hv2 hne2
  try clear e1
  go_upto_region 4 with fail
  refine Rg.bg 7 18 (Rg.pick [Rg.ai (.pointer (some ⟨w.heap.size, 0, none⟩)), Rg.ai (aV f), Rg.ai (.pointer (some ⟨w.heap.size + 1, 0, none⟩)), Rg.ai (aV g), Rg.ai (.bool b), Rg.ai (.bool b), Rg.ai (.int .i64 0)]) (az w _ V2) dm [] kr rfl (Rg.df.pick ⟨Rg.ae _, Rg.ae _, Rg.ae _, Rg.ae _, Rg.ae _, Rg.ae _, Rg.ae _, trivial⟩) (az.begin (aa HO))
   (ag (sw (b := w.heap.size) (off := 0) rfl aF rfl rfl)
   (ag (Ls (f := f) xw mf rfl (aT 0) rfl)
   (ag (sw (b := w.heap.size + 1) (off := 0) rfl aF rfl rfl)
   (ag (Ls (f := g) xw me0 rfl (aT 2) rfl)
   (ag (aos rfl (aT 1) (aT 3) rfl hb)
   (ag (ib rfl (aT 4))
   (ag (ib rfl (Rg.jc _))
   Rg.bf))))))) ?_
  intro v3 V3 hG3 hv3 ja
  simp only [Rg.puts, Act.put, tA]
  have e4 : v3 4 = .bool b := hv3 4 de
  have e5 : v3 5 = .bool b := hv3 5 de
  have e6 : v3 6 = .int .i64 0 := hv3 6 de
  simp only [e4, e5, e6]
  have hO := hG3.1
  clear HO
  have HO := hide hO
  clear hO hG3 hv3 ja
  try clear e4 e5 e6
  go_wp2_with fail
  exact Zv Tryz.results39 rfl rfl (aa HO).bel rfl
 ·
  have k0 : oq f n d g p q = 1 := Jq g0
  obtain ⟨rfl, rfl⟩ := (aa HR).1 g0
  go_upto_region 1 with fail
  refine Rg.bg 4 18 (Rg.pick [au [.k (eK f), iv n, iv d], au [.k (eK g), iv p, iv q], Rg.ai (.int .i64 1), Rg.ai (.int .i64 1)]) (az w _ W0) dm [] kr rfl (Rg.df.pick ⟨ay _, ay _, Rg.ae _, Rg.ae _, trivial⟩) (az.begin (aa HO))
   (ag (fw jb mf aF [] [.k (eK f), iv n, iv d] [])
   (ag (fw jb me0 aF [] [.k (eK g), iv p, iv q] [])
   (ag (sc2 Tryz.func107 (aT 0) (aT 1) (fun W v0 v1 hG h0 h1 => k0 ▸ ahv W ((aa HT).below hG.bel) _ h0 _ h1))
   (ag (ib rfl (aT 2))
   Rg.bf)))) ?_
  intro v1 V1 hG1 hv1 hne1
  simp only [Rg.puts, Act.put, tA]
  have e2 : v1 2 = .int .i64 1 := hv1 2 de
  have e3 : v1 3 = .int .i64 1 := hv1 3 de
  simp only [e2, e3]
  have hO := hG1.1
  clear HO
  have HO := hide hO
  clear hO hG1 hv1 hne1
  try clear e2 e3
  go_upto_region 2 with fail
  refine Rg.bg 2 18 (Rg.pick [Rg.ai (.int .i64 1), Rg.ai (.bool true)]) (az w _ V1) dm [] kr rfl (Rg.df.pick ⟨Rg.ae _, Rg.ae _, trivial⟩) (az.begin (aa HO))
   (ag (cz rfl aF)
   (ag (mq rfl (aT 0) (Rg.jc _) rfl rfl)
   Rg.bf)) ?_
  intro v2 V2 hG2 hv2 hne2
  simp only [Rg.puts, Act.put, tA]
  have e1 : v2 1 = .bool true := hv2 1 de
  simp only [e1]
  have hO := hG2.1
  clear HO
  have HO := hide hO
  clear hO hG2 hv2 hne2
  try clear e1
  go_upto_region 3 with fail
  refine Rg.bg 3 18 (Rg.pick [Rg.ai (.int .i64 1), Rg.ai (.bool false), Rg.ai (.int .i64 1)]) (az w _ V2) dm [] kr rfl (Rg.df.pick ⟨Rg.ae _, Rg.ae _, Rg.ae _, trivial⟩) (az.begin (aa HO))
   (ag (cz rfl aF)
   (ag (ib rfl (Rg.jc _))
   (ag (ib rfl (aT 0))
   Rg.bf))) ?_
  intro v3 V3 hG3 hv3 ja
  simp only [Rg.puts, Act.put, tA]
  have e0 : v3 0 = .int .i64 1 := hv3 0 de
  have e1 : v3 1 = .bool false := hv3 1 de
  have e2 : v3 2 = .int .i64 1 := hv3 2 de
  simp only [e0, e1, e2]
  have hO := hG3.1
  clear HO
  have HO := hide hO
  clear hO hG3 hv3 ja
  try clear e0 e1 e2
  go_wp2_with fail
  exact Zv Tryz.results39 rfl rfl (aa HO).bel rfl
def Oe (f : Nat → Int) (n d : Int) (g : Nat → Int) (p q : Int) : Bool := decide ((qf f n d ∧ qf g p q) ∧ uy f g)
theorem Ic {f g : Nat → Int} {n d p q : Int} : (¬ (qf f n d ∧ qf g p q) → false = Oe f n d g p q ∧ 1 = oq f n d g p q) ∧ ((qf f n d ∧ qf g p q) → decide (uy f g) = Oe f n d g p q ∧ 0 = oq f n d g p q) :=
 ⟨fun h => ⟨(decide_eq_false (fun k => h k.1)).symm, (Jq h).symm⟩, fun h => ⟨decide_eq_decide.2 ⟨fun k => ⟨h, k⟩, fun k => k.2⟩, (Cb h).symm⟩⟩
theorem aac {f g : Nat → Int} {n d p q : Int} (w : World) (hT : qa w) (u0 : Value) (h0 : au [.k (eK f), iv n, iv d] w u0) (u1 : Value) (h1 : au [.k (eK g), iv p, iv q] w u1) : Calls Tryz.prog 39 #[u0, u1] w (ik (jk [Rg.ai (.bool (Oe f n d g p q)), Rg.ai (.int .i64 (oq f n d g p q))]) w) :=
 aqb _ _ w hT u0 h0 u1 h1 Ic
end Sb

end Go.Proofs.YtfgeaakhlcaibaaGreatDoor
