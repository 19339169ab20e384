/- Texts beneath a law of layer 1. -/
import Derived.Test.YtfgeaakhlcaibaaGreatDoorCw16
set_option maxRecDepth 100000
set_option maxHeartbeats 16000000
namespace Go.Proofs.YtfgeaakhlcaibaaGreatDoor
open Go.RowKit

namespace Sb
abbrev ToT (t : Wd.Told) : World → Value → Prop := jk [au [iv t.n, iv t.d], Rg.ai (.int .i64 t.e)]
open Classical in
noncomputable def Ol (a c : Int) (f : Nat → Int) (n d : Int) (g : Nat → Int) (p q : Int) : Wd.Told :=
 if Wd.qy a c then (if qf f n d ∧ qf g p q then (if uy f g then Wd.told ((Wd.qR a c) * (Wd.qR n d) / (Wd.qR p q)) else ⟨0, 0, 8⟩) else ⟨0, 0, 1⟩) else ⟨0, 0, 1⟩
theorem ada {f g : Nat → Int} {a c n d p q : Int} : (¬ Wd.qy a c → Ol a c f n d g p q = ⟨0, 0, 1⟩) ∧ (Wd.qy a c → (¬ (qf f n d ∧ qf g p q) → Ol a c f n d g p q = ⟨0, 0, 1⟩) ∧ ((qf f n d ∧ qf g p q) → (¬ uy f g → Ol a c f n d g p q = ⟨0, 0, 8⟩) ∧ (uy f g → Ol a c f n d g p q = Wd.told ((Wd.qR a c) * (Wd.qR n d) / (Wd.qR p q))))) := by
 unfold Ol
 refine ⟨fun h => if_neg h, fun h => ⟨fun h1 => ?_, fun h1 => ⟨fun h2 => ?_, fun h2 => ?_⟩⟩⟩
 ·
  rw [if_pos h, if_neg h1]
 ·
  rw [if_pos h, if_pos h1, if_neg h2]
 ·
  rw [if_pos h, if_pos h1, if_pos h2]
theorem aiv {x : Rat} (t : Wd.Told) (w : World) (u0 : Value) (h0 : au [.r x] w u0) (hr : (¬ Wd.fits x → t = ⟨0, 0, 3⟩) ∧ (Wd.fits x → t = ⟨x.num, x.den, 0⟩)) :
  Calls Tryz.prog 110 #[u0] w (ik (ToT t) w) := by
 have HR := hide hr
 clear hr
 obtain ⟨Bd, c0a, Az, Pt, B0a, Zz, Zh, Cq, rfl, f0a⟩ := Ou h0
 go_enter Tryz.func110, Tryz.ntmps110
 go_upto_region 1 with fail
 have hO := (Own.push (T := 23) (ls := zR) (Own.push (T := 68) (ls := [.r x]) (Own.nil w) (eu.r f0a rfl) (w.heap.size) rfl) (eu.below (by repeat (first | exact Below.refl _ _ | refine gm ?_ _)) (eu.vs w [.int .i64 0, .int .i64 0] rfl)) (w.heap.size + 1) (by simp only [World.size_alloc]))
 generalize (w.alloc (.cells #[.slice Bd (List.length Az) c0a, .bool Pt, .slice B0a (List.length Zh) Zz, .bool Cq] 68)).alloc (.cells #[.int .i64 0, .int .i64 0] 23) = W0 at *
 have HO := hide hO
 clear hO
 by_cases g0 : Wd.fits x
 ·
  have hr : t = ⟨x.num, x.den, 0⟩ := (aa HR).2 g0
  subst hr
  clear HR
  have HF := hide g0
  clear g0
  go_upto_region 1 with fail
  refine Rg.bg 6 15 (Rg.pick [au [.r x], jk [au [iv x.num, iv (x.den : Int)], Rg.ai (.bool true)], jk [au [iv x.num, iv (x.den : Int)], Rg.ai (.bool true)], au [iv x.num, iv (x.den : Int)], Rg.ai (.bool true), nk 23 zR W0.heap.size]) (az w _ W0) dm [5] kr rfl (Rg.df.pick ⟨ay _, il ⟨(ay _), (Rg.ae _), trivial⟩, il ⟨(ay _), (Rg.ae _), trivial⟩, ay _, Rg.ae _, og _ _ _, trivial⟩) (az.begin (aa HO))
   (ag (fw Bw mf aF [] [.r x] [])
   (ag (sc1 Tryz.func125 (aT 0) (fun W v0 hG h0 => Xh (aa HF) h0))
   (ag (cz rfl (aT 1))
   (ag (iy (ts := [au [iv x.num, iv (x.den : Int)], Rg.ai (.bool true)]) rfl (aT 2) (of_decide_eq_true rfl) rfl)
   (ag (iy (ts := [au [iv x.num, iv (x.den : Int)], Rg.ai (.bool true)]) rfl (aT 2) (of_decide_eq_true rfl) rfl)
   (ag (qd Gy rfl az.step az.size rfl (rq (by intro j hj; simp at hj; (repeat' (first | (rcases hj with rfl | hj))) <;> first | (subst hj; exact ⟨_, _, _, rfl⟩) | exact ⟨_, _, _, rfl⟩)))
   Rg.bf)))))) ?_
  intro v1 V1 hG1 hv1 hne1
  simp only [Rg.puts, Act.put, tA]
  have e4 : v1 4 = .bool true := hv1 4 de
  obtain ⟨anh, e5, Fs, Km⟩ := (show nk 23 zR W0.heap.size V1 (v1 5) from hv1 5 de)
  simp only [e4, e5]
  have hO := hG1.1
  replace hO := Own.add (aa HO) hG1.2 Fs Km
  clear Fs Km
  refine ji hO 0 [] zR [iv x.num, iv (x.den : Int)] [] rfl uq rfl (show au [iv x.num, iv (x.den : Int)] V1 (v1 3) from hv1 3 de) rfl rfl rfl ?_
  intro ui fu hk0
  replace hO := fu
  clear fu
  clear HO
  have HO := hide hO
  clear hO hG1 hv1 hne1 hk0
  try clear e4 e5
  go_upto_region 2 with fail
  refine Rg.bg 2 15 (Rg.pick [Rg.ai (.bool true), Rg.ai (.bool false)]) (az w _ ui) dm [] kr rfl (Rg.df.pick ⟨Rg.ae _, Rg.ae _, trivial⟩) (az.begin (aa HO))
   (ag (cz rfl aF)
   (ag (uf rfl (aT 0) rfl rfl)
   Rg.bf)) ?_
  intro v2 V2 hG2 hv2 hne2
  simp only [Rg.puts, Act.put, tA]
  have e1 : v2 1 = .bool false := hv2 1 de
  simp only [e1]
  have hO := hG2.1
  clear HO
  have HO := hide hO
  clear hO hG2 hv2 hne2
  try clear e1
  go_upto_region 4 with fail
  refine Rg.bg 1 15 (Rg.pick [au [iv x.num, iv (x.den : Int)]]) (az w _ V2) dm [] kr rfl (Rg.df.pick ⟨ay _, trivial⟩) (az.begin (aa HO))
   (ag (fw qi me0 aF [] [iv x.num, iv (x.den : Int)] [])
   Rg.bf) ?_
  intro v3 V3 hG3 hv3 ja
  simp only [Rg.puts, Act.put, tA]
  have hO := hG3.1
  refine ji hO 1 [] zR [iv x.num, iv (x.den : Int)] [] rfl uq rfl (show au [iv x.num, iv (x.den : Int)] V3 (v3 0) from hv3 0 de) rfl rfl rfl ?_
  intro Bi fu hk0
  replace hO := fu
  clear fu
  clear HO
  have HO := hide hO
  clear hO hG3 hv3 ja hk0
  go_wp2_with fail
  exact oz Tryz.results110 En rfl rfl (aa HO) mf rfl rfl
 ·
  have hr : t = ⟨0, 0, 3⟩ := (aa HR).1 g0
  subst hr
  clear HR
  have HF := hide g0
  clear g0
  go_upto_region 1 with fail
  refine Rg.bg 6 15 (Rg.pick [au [.r x], jk [Ja, Rg.ai (.bool false)], jk [Ja, Rg.ai (.bool false)], Ja, Rg.ai (.bool false), nk 23 zR W0.heap.size]) (az w _ W0) dm [5] kr rfl (Rg.df.pick ⟨ay _, il ⟨(Jg), (Rg.ae _), trivial⟩, il ⟨(Jg), (Rg.ae _), trivial⟩, Jg, Rg.ae _, og _ _ _, trivial⟩) (az.begin (aa HO))
   (ag (fw Bw mf aF [] [.r x] [])
   (ag (sc1 Tryz.func125 (aT 0) (fun W v0 hG h0 => aey (aa HF) h0))
   (ag (cz rfl (aT 1))
   (ag (iy (ts := [Ja, Rg.ai (.bool false)]) rfl (aT 2) (of_decide_eq_true rfl) rfl)
   (ag (iy (ts := [Ja, Rg.ai (.bool false)]) rfl (aT 2) (of_decide_eq_true rfl) rfl)
   (ag (qd Gy rfl az.step az.size rfl (rq (by intro j hj; simp at hj; (repeat' (first | (rcases hj with rfl | hj))) <;> first | (subst hj; exact ⟨_, _, _, rfl⟩) | exact ⟨_, _, _, rfl⟩)))
   Rg.bf)))))) ?_
  intro v1 V1 hG1 hv1 hne1
  simp only [Rg.puts, Act.put, tA]
  have e4 : v1 4 = .bool false := hv1 4 de
  obtain ⟨anh, e5, Fs, Km⟩ := (show nk 23 zR W0.heap.size V1 (v1 5) from hv1 5 de)
  simp only [e4, e5]
  have hO := hG1.1
  replace hO := Own.add (aa HO) hG1.2 Fs Km
  clear Fs Km
  obtain ⟨awk, awl, hy3⟩ := (show Ja V1 (v1 3) from hv1 3 de)
  refine ji hO 0 [] zR [iv awk, iv awl] [] rfl uq rfl (show au [iv awk, iv awl] V1 (v1 3) from hy3) rfl rfl rfl ?_
  intro ui fu hk0
  replace hO := fu
  clear fu
  clear HO
  have HO := hide hO
  clear hO hG1 hv1 hne1 hk0
  try clear e4 e5
  go_upto_region 2 with fail
  refine Rg.bg 2 15 (Rg.pick [Rg.ai (.bool false), Rg.ai (.bool true)]) (az w _ ui) dm [] kr rfl (Rg.df.pick ⟨Rg.ae _, Rg.ae _, trivial⟩) (az.begin (aa HO))
   (ag (cz rfl aF)
   (ag (uf rfl (aT 0) rfl rfl)
   Rg.bf)) ?_
  intro v2 V2 hG2 hv2 hne2
  simp only [Rg.puts, Act.put, tA]
  have e1 : v2 1 = .bool true := hv2 1 de
  simp only [e1]
  have hO := hG2.1
  clear HO
  have HO := hide hO
  clear hO hG2 hv2 hne2
  try clear e1
  go_upto_region 3 with fail
  refine Rg.bg 1 15 (Rg.pick [au zR]) (az w _ V2) dm [] kr rfl (Rg.df.pick ⟨ay _, trivial⟩) (az.begin (aa HO))
   (ag (Fb Hm rfl rfl rfl)
   Rg.bf) ?_
  intro v3 V3 hG3 hv3 ja
  simp only [Rg.puts, Act.put, tA]
  have hO := hG3.1
  refine ji hO 1 [] zR zR [] rfl uq rfl (show au zR V3 (v3 0) from hv3 0 de) rfl rfl rfl ?_
  intro Bi fu hk0
  replace hO := fu
  clear fu
  clear HO
  have HO := hide hO
  clear hO hG3 hv3 ja hk0
  go_wp2_with fail
  exact oz Tryz.results110 En rfl rfl (aa HO) mf rfl rfl
theorem avv {x : Rat} (w : World) (u0 : Value) (h0 : au [.r x] w u0) : Calls Tryz.prog 110 #[u0] w (ik (ToT (Wd.told x)) w) :=
 aiv _ w u0 h0 ⟨fun h => if_neg h, fun h => if_pos h⟩
theorem arc {f g : Nat → Int} {a c n d p q : Int} (t : Wd.Told) (w : World) (hT : qa w) (u0 : Value) (h0 : au [iv a, iv c] w u0) (u1 : Value) (h1 : au [.k (eK f), iv n, iv d] w u1) (u2 : Value) (h2 : au [.k (eK g), iv p, iv q] w u2) (hr : (¬ Wd.qy a c → t = ⟨0, 0, 1⟩) ∧ (Wd.qy a c → (¬ (qf f n d ∧ qf g p q) → t = ⟨0, 0, 1⟩) ∧ ((qf f n d ∧ qf g p q) → (¬ uy f g → t = ⟨0, 0, 8⟩) ∧ (uy f g → t = Wd.told ((Wd.qR a c) * (Wd.qR n d) / (Wd.qR p q)))))) :
  Calls Tryz.prog 41 #[u0, u1, u2] w (ik (ToT t) w) := by
 have HR := hide hr
 have HT := hide hT
 clear hr hT
 have hu0 := Fv h0
 subst hu0
 have hu1 := pg h1
 subst hu1
 have hu2 := pg h2
 subst hu2
 go_enter Tryz.func41, Tryz.ntmps41
 go_upto_region 1 with fail
 have hO := (Own.push (T := 23) (ls := zR) (Own.push (T := 44) (ls := [.k (eK g), iv p, iv q]) (Own.push (T := 44) (ls := [.k (eK f), iv n, iv d]) (Own.push (T := 23) (ls := [iv a, iv c]) (Own.nil w) (eu.v (iw _) (eu.v (iw _) rfl)) (w.heap.size) rfl) (eu.below (by repeat (first | exact Below.refl _ _ | refine gm ?_ _)) (eu.e (eu.v (iw _) (eu.v (iw _) rfl)))) (w.heap.size + 1) (by simp only [World.size_alloc])) (eu.below (by repeat (first | exact Below.refl _ _ | refine gm ?_ _)) (eu.e (eu.v (iw _) (eu.v (iw _) rfl)))) (w.heap.size + 2) (by simp only [World.size_alloc])) (eu.below (by repeat (first | exact Below.refl _ _ | refine gm ?_ _)) (eu.vs w [.int .i64 0, .int .i64 0] rfl)) (w.heap.size + 3) (by simp only [World.size_alloc]))
 generalize (((w.alloc (.cells #[.int .i64 a, .int .i64 c] 23)).alloc (.cells #[.int .i64 (f 0), .int .i64 (f 1), .int .i64 (f 2), .int .i64 (f 3), .int .i64 (f 4), .int .i64 (f 5), .int .i64 (f 6), .int .i64 n, .int .i64 d] 44)).alloc (.cells #[.int .i64 (g 0), .int .i64 (g 1), .int .i64 (g 2), .int .i64 (g 3), .int .i64 (g 4), .int .i64 (g 5), .int .i64 (g 6), .int .i64 p, .int .i64 q] 44)).alloc (.cells #[.int .i64 0, .int .i64 0] 23) = W0 at *
 have HO := hide hO
 clear hO
 by_cases g0 : Wd.qy a c
 ·
  by_cases g1 : qf f n d ∧ qf g p q
  ·
   by_cases g2 : uy f g
   ·
    obtain ⟨y, hy⟩ : ∃ y, y = (Wd.qR a c) * (Wd.qR n d) := ⟨_, rfl⟩
    obtain ⟨z, hz⟩ : ∃ z, z = y / (Wd.qR p q) := ⟨_, rfl⟩
    have hr : t = Wd.told z := by rw [hz, hy]; exact (((aa HR).2 g0).2 g1).2 g2
    subst hr
    clear HR
    have HY := hide hy
    have HZ := hide hz
    clear hy hz
    have k0 : Oy a c = 0 := if_pos g0
    go_upto_region 1 with fail
    refine Rg.bg 3 43 (Rg.pick [au [iv a, iv c], Rg.ai (.int .i64 0), Rg.ai (.int .i64 0)]) (az w _ W0) dm [] kr rfl (Rg.df.pick ⟨ay _, Rg.ae _, Rg.ae _, trivial⟩) (az.begin (aa HO))
     (ag (fw qi Gh aF [] [iv a, iv c] [])
     (ag (sc1 Tryz.func66 (aT 0) (fun W v0 hG h0 => k0 ▸ Hl ((aa HT).below hG.bel) h0))
     (ag (ib rfl (aT 1))
     Rg.bf))) ?_
    intro v1 V1 hG1 hv1 hne1
    simp only [Rg.puts, Act.put, tA]
    have e1 : v1 1 = .int .i64 0 := hv1 1 de
    have e2 : v1 2 = .int .i64 0 := hv1 2 de
    simp only [e1, e2]
    have hO := hG1.1
    clear HO
    have HO := hide hO
    clear hO hG1 hv1 hne1
    try clear e1 e2
    go_upto_region 2 with fail
    refine Rg.bg 2 43 (Rg.pick [Rg.ai (.int .i64 0), Rg.ai (.bool false)]) (az w _ V1) dm [] kr rfl (Rg.df.pick ⟨Rg.ae _, Rg.ae _, trivial⟩) (az.begin (aa HO))
     (ag (cz rfl aF)
     (ag (mq rfl (aT 0) (Rg.jc _) rfl rfl)
     Rg.bf)) ?_
    intro v2 V2 hG2 hv2 hne2
    simp only [Rg.puts, Act.put, tA]
    have e1 : v2 1 = .bool false := hv2 1 de
    simp only [e1]
    have hO := hG2.1
    clear HO
    have HO := hide hO
    clear hO hG2 hv2 hne2
    try clear e1
    clear k0
    have k1 : (Oe f n d g p q = true) ∧ oq f n d g p q = 0 := ⟨(Ic.2 g1).1.symm.trans (decide_eq_true g2), Cb g1⟩
    go_upto_region 4 with fail
    refine Rg.bg 8 43 (Rg.pick [au [.k (eK f), iv n, iv d], au [.k (eK g), iv p, iv q], jk [Rg.ai (.bool true), Rg.ai (.int .i64 0)], jk [Rg.ai (.bool true), Rg.ai (.int .i64 0)], Rg.ai (.bool true), Rg.ai (.int .i64 0), Rg.ai (.bool true), Rg.ai (.int .i64 0)]) (az w _ V2) dm [] kr rfl (Rg.df.pick ⟨ay _, ay _, il ⟨(Rg.ae _), (Rg.ae _), trivial⟩, il ⟨(Rg.ae _), (Rg.ae _), trivial⟩, Rg.ae _, Rg.ae _, Rg.ae _, Rg.ae _, trivial⟩) (az.begin (aa HO))
     (ag (fw jb ru aF [] [.k (eK f), iv n, iv d] [])
     (ag (fw jb mf aF [] [.k (eK g), iv p, iv q] [])
     (ag (sc2 Tryz.func39 (aT 0) (aT 1) (fun W v0 v1 hG h0 h1 => k1.1 ▸ k1.2 ▸ aac W ((aa HT).below hG.bel) _ h0 _ h1))
     (ag (cz rfl (aT 2))
     (ag (iy (ts := [Rg.ai (.bool true), Rg.ai (.int .i64 0)]) rfl (aT 3) (of_decide_eq_true rfl) rfl)
     (ag (iy (ts := [Rg.ai (.bool true), Rg.ai (.int .i64 0)]) rfl (aT 3) (of_decide_eq_true rfl) rfl)
     (ag (ib rfl (aT 4))
     (ag (ib rfl (aT 5))
     Rg.bf)))))))) ?_
    intro v3 V3 hG3 hv3 ja
    simp only [Rg.puts, Act.put, tA]
    have e4 : v3 4 = .bool true := hv3 4 de
    have e5 : v3 5 = .int .i64 0 := hv3 5 de
    have e6 : v3 6 = .bool true := hv3 6 de
    have e7 : v3 7 = .int .i64 0 := hv3 7 de
    simp only [e4, e5, e6, e7]
    have hO := hG3.1
    clear HO
    have HO := hide hO
    clear hO hG3 hv3 ja
    try clear e4 e5 e6 e7
    go_upto_region 5 with fail
    refine Rg.bg 2 43 (Rg.pick [Rg.ai (.int .i64 0), Rg.ai (.bool false)]) (az w _ V3) dm [] kr rfl (Rg.df.pick ⟨Rg.ae _, Rg.ae _, trivial⟩) (az.begin (aa HO))
     (ag (cz rfl aF)
     (ag (mq rfl (aT 0) (Rg.jc _) rfl rfl)
     Rg.bf)) ?_
    intro v4 V4 hG4 hv4 mo
    simp only [Rg.puts, Act.put, tA]
    have e1 : v4 1 = .bool false := hv4 1 de
    simp only [e1]
    have hO := hG4.1
    clear HO
    have HO := hide hO
    clear hO hG4 hv4 mo
    try clear e1
    go_upto_region 7 with fail
    refine Rg.bg 2 43 (Rg.pick [Rg.ai (.bool true), Rg.ai (.bool false)]) (az w _ V4) dm [] kr rfl (Rg.df.pick ⟨Rg.ae _, Rg.ae _, trivial⟩) (az.begin (aa HO))
     (ag (cz rfl aF)
     (ag (uf rfl (aT 0) rfl rfl)
     Rg.bf)) ?_
    intro v5 V5 wy hv5 hne5
    simp only [Rg.puts, Act.put, tA]
    have e1 : v5 1 = .bool false := hv5 1 de
    simp only [e1]
    have hO := wy.1
    clear HO
    have HO := hide hO
    clear hO wy hv5 hne5
    try clear e1
    clear k1
    have HA := hide g0
    have rf := hide g1
    clear g0 g1 g2
    go_upto_region 9 with fail
    refine Rg.region 13 43 (Rg.pick [au [iv a, iv c], au [.q (Wd.qR a c)], Rg.ai (.pointer (some ⟨w.heap.size + 1, 7, none⟩)), au [iv n, iv d], au [.q (Wd.qR n d)], au [.q y], Rg.ai (.pointer (some ⟨w.heap.size + 2, 7, none⟩)), au [iv p, iv q], au [.q (Wd.qR p q)], au [.q z], jk [au [iv (Wd.told z).n, iv (Wd.told z).d], Rg.ai (.int .i64 (Wd.told z).e)], au [iv (Wd.told z).n, iv (Wd.told z).d], Rg.ai (.int .i64 (Wd.told z).e)]) (az w _ V5) dm [] kr kr rfl (Rg.df.pick ⟨ay _, ay _, Rg.ae _, ay _, ay _, ay _, Rg.ae _, ay _, ay _, ay _, il ⟨(ay _), (Rg.ae _), trivial⟩, ay _, Rg.ae _, trivial⟩) (az.start (aa HO))
     (ag (fw qi Gh aF [] [iv a, iv c] [])
     (ag (sc1 Tryz.func67 (aT 0) (fun W v0 hG h0 => ahs (aa HA) h0))
     (ag (vo (b := w.heap.size + 1) (off := 0) rfl aF rfl rfl)
     (ag (fw qi ru (aT 2) [.k (eK f)] [iv n, iv d] [])
     (ag (sc1 Tryz.func67 (aT 3) (fun W v0 hG h0 => ahs (aa rf).1.2.1 h0))
     (ag (sc2 Tryz.func108 (aT 1) (aT 4) (fun W v0 v1 hG h0 h1 => (aa HY) ▸ Rz ((aa HT).below hG.bel) (Au (aa HA)) (Au (aa rf).1.2.1) h0 h1))
     (ag (vo (b := w.heap.size + 2) (off := 0) rfl aF rfl rfl)
     (ag (fw qi mf (aT 6) [.k (eK g)] [iv p, iv q] [])
     (ag (sc1 Tryz.func67 (aT 7) (fun W v0 hG h0 => ahs (aa rf).2.2.1 h0))
     (ag (sc2 Tryz.func109 (aT 5) (aT 8) (fun W v0 v1 hG h0 h1 => (aa HZ) ▸ bhs ((aa HT).below hG.bel) ((aa HY) ▸ Sm.mul (Au (aa HA)) (Au (aa rf).1.2.1) om W ((aa HT).below hG.bel)) ((Au (aa rf).2.2.1).mono om om) (Da (aa rf).2) h0 h1))
     (ag (sc1 Tryz.func69 (aT 9) (fun W v0 hG h0 => ahq h0))
     (ag (iy (ts := [au [iv (Wd.told z).n, iv (Wd.told z).d], Rg.ai (.int .i64 (Wd.told z).e)]) rfl (aT 10) (of_decide_eq_true rfl) rfl)
     (ag (iy (ts := [au [iv (Wd.told z).n, iv (Wd.told z).d], Rg.ai (.int .i64 (Wd.told z).e)]) rfl (aT 10) (of_decide_eq_true rfl) rfl)
     Rg.bf))))))))))))) ?_
    intro v6 V6 Eu hv6 Jp
    simp only [Rg.puts, Act.put, tA]
    have e12 : v6 12 = .int .i64 (Wd.told z).e := hv6 12 de
    simp only [e12]
    have hO := Eu.1
    refine ji hO 0 [] zR [iv (Wd.told z).n, iv (Wd.told z).d] [] rfl uq rfl (show au [iv (Wd.told z).n, iv (Wd.told z).d] V6 (v6 11) from hv6 11 de) rfl rfl rfl ?_
    intro Yg fu hk0
    replace hO := fu
    clear fu
    clear HO
    have HO := hide hO
    clear hO Eu hv6 Jp hk0
    try clear e12
    go_wp2_with fail
    exact oz Tryz.results41 En rfl rfl (aa HO) me0 rfl rfl
   ·
    have hr := (((aa HR).2 g0).2 g1).1 g2
    subst hr
    clear HR
    have k0 : Oy a c = 0 := if_pos g0
    go_upto_region 1 with fail
    refine Rg.bg 3 43 (Rg.pick [au [iv a, iv c], Rg.ai (.int .i64 0), Rg.ai (.int .i64 0)]) (az w _ W0) dm [] kr rfl (Rg.df.pick ⟨ay _, Rg.ae _, Rg.ae _, trivial⟩) (az.begin (aa HO))
     (ag (fw qi Gh aF [] [iv a, iv c] [])
     (ag (sc1 Tryz.func66 (aT 0) (fun W v0 hG h0 => k0 ▸ Hl ((aa HT).below hG.bel) h0))
     (ag (ib rfl (aT 1))
     Rg.bf))) ?_
    intro v1 V1 hG1 hv1 hne1
    simp only [Rg.puts, Act.put, tA]
    have e1 : v1 1 = .int .i64 0 := hv1 1 de
    have e2 : v1 2 = .int .i64 0 := hv1 2 de
    simp only [e1, e2]
    have hO := hG1.1
    clear HO
    have HO := hide hO
    clear hO hG1 hv1 hne1
    try clear e1 e2
    go_upto_region 2 with fail
    refine Rg.bg 2 43 (Rg.pick [Rg.ai (.int .i64 0), Rg.ai (.bool false)]) (az w _ V1) dm [] kr rfl (Rg.df.pick ⟨Rg.ae _, Rg.ae _, trivial⟩) (az.begin (aa HO))
     (ag (cz rfl aF)
     (ag (mq rfl (aT 0) (Rg.jc _) rfl rfl)
     Rg.bf)) ?_
    intro v2 V2 hG2 hv2 hne2
    simp only [Rg.puts, Act.put, tA]
    have e1 : v2 1 = .bool false := hv2 1 de
    simp only [e1]
    have hO := hG2.1
    clear HO
    have HO := hide hO
    clear hO hG2 hv2 hne2
    try clear e1
    clear k0
    have k1 : (Oe f n d g p q = false) ∧ oq f n d g p q = 0 := ⟨(Ic.2 g1).1.symm.trans (decide_eq_false g2), Cb g1⟩
    go_upto_region 4 with fail
    refine Rg.bg 8 43 (Rg.pick [au [.k (eK f), iv n, iv d], au [.k (eK g), iv p, iv q], jk [Rg.ai (.bool false), Rg.ai (.int .i64 0)], jk [Rg.ai (.bool false), Rg.ai (.int .i64 0)], Rg.ai (.bool false), Rg.ai (.int .i64 0), Rg.ai (.bool false), Rg.ai (.int .i64 0)]) (az w _ V2) dm [] kr rfl (Rg.df.pick ⟨ay _, ay _, il ⟨(Rg.ae _), (Rg.ae _), trivial⟩, il ⟨(Rg.ae _), (Rg.ae _), trivial⟩, Rg.ae _, Rg.ae _, Rg.ae _, Rg.ae _, trivial⟩) (az.begin (aa HO))
     (ag (fw jb ru aF [] [.k (eK f), iv n, iv d] [])
     (ag (fw jb mf aF [] [.k (eK g), iv p, iv q] [])
     (ag (sc2 Tryz.func39 (aT 0) (aT 1) (fun W v0 v1 hG h0 h1 => k1.1 ▸ k1.2 ▸ aac W ((aa HT).below hG.bel) _ h0 _ h1))
     (ag (cz rfl (aT 2))
     (ag (iy (ts := [Rg.ai (.bool false), Rg.ai (.int .i64 0)]) rfl (aT 3) (of_decide_eq_true rfl) rfl)
     (ag (iy (ts := [Rg.ai (.bool false), Rg.ai (.int .i64 0)]) rfl (aT 3) (of_decide_eq_true rfl) rfl)
     (ag (ib rfl (aT 4))
     (ag (ib rfl (aT 5))
     Rg.bf)))))))) ?_
    intro v3 V3 hG3 hv3 ja
    simp only [Rg.puts, Act.put, tA]
    have e4 : v3 4 = .bool false := hv3 4 de
    have e5 : v3 5 = .int .i64 0 := hv3 5 de
    have e6 : v3 6 = .bool false := hv3 6 de
    have e7 : v3 7 = .int .i64 0 := hv3 7 de
    simp only [e4, e5, e6, e7]
    have hO := hG3.1
    clear HO
    have HO := hide hO
    clear hO hG3 hv3 ja
    try clear e4 e5 e6 e7
    go_upto_region 5 with fail
    refine Rg.bg 2 43 (Rg.pick [Rg.ai (.int .i64 0), Rg.ai (.bool false)]) (az w _ V3) dm [] kr rfl (Rg.df.pick ⟨Rg.ae _, Rg.ae _, trivial⟩) (az.begin (aa HO))
     (ag (cz rfl aF)
     (ag (mq rfl (aT 0) (Rg.jc _) rfl rfl)
     Rg.bf)) ?_
    intro v4 V4 hG4 hv4 mo
    simp only [Rg.puts, Act.put, tA]
    have e1 : v4 1 = .bool false := hv4 1 de
    simp only [e1]
    have hO := hG4.1
    clear HO
    have HO := hide hO
    clear hO hG4 hv4 mo
    try clear e1
    go_upto_region 7 with fail
    refine Rg.bg 2 43 (Rg.pick [Rg.ai (.bool false), Rg.ai (.bool true)]) (az w _ V4) dm [] kr rfl (Rg.df.pick ⟨Rg.ae _, Rg.ae _, trivial⟩) (az.begin (aa HO))
     (ag (cz rfl aF)
     (ag (uf rfl (aT 0) rfl rfl)
     Rg.bf)) ?_
    intro v5 V5 wy hv5 hne5
    simp only [Rg.puts, Act.put, tA]
    have e1 : v5 1 = .bool true := hv5 1 de
    simp only [e1]
    have hO := wy.1
    clear HO
    have HO := hide hO
    clear hO wy hv5 hne5
    try clear e1
    clear k1
    go_upto_region 8 with fail
    refine Rg.bg 1 43 (Rg.pick [au zR]) (az w _ V5) dm [] kr rfl (Rg.df.pick ⟨ay _, trivial⟩) (az.begin (aa HO))
     (ag (Fb Hm rfl rfl rfl)
     Rg.bf) ?_
    intro v6 V6 Eu hv6 Jp
    simp only [Rg.puts, Act.put, tA]
    have hO := Eu.1
    refine ji hO 0 [] zR zR [] rfl uq rfl (show au zR V6 (v6 0) from hv6 0 de) rfl rfl rfl ?_
    intro Yg fu hk0
    replace hO := fu
    clear fu
    clear HO
    have HO := hide hO
    clear hO Eu hv6 Jp hk0
    go_wp2_with fail
    exact oz Tryz.results41 En rfl rfl (aa HO) me0 rfl rfl
  ·
   have hr := ((aa HR).2 g0).1 g1
   subst hr
   clear HR
   have k0 : Oy a c = 0 := if_pos g0
   go_upto_region 1 with fail
   refine Rg.bg 3 43 (Rg.pick [au [iv a, iv c], Rg.ai (.int .i64 0), Rg.ai (.int .i64 0)]) (az w _ W0) dm [] kr rfl (Rg.df.pick ⟨ay _, Rg.ae _, Rg.ae _, trivial⟩) (az.begin (aa HO))
    (ag (fw qi Gh aF [] [iv a, iv c] [])
    (ag (sc1 Tryz.func66 (aT 0) (fun W v0 hG h0 => k0 ▸ Hl ((aa HT).below hG.bel) h0))
    (ag (ib rfl (aT 1))
    Rg.bf))) ?_
   intro v1 V1 hG1 hv1 hne1
   simp only [Rg.puts, Act.put, tA]
   have e1 : v1 1 = .int .i64 0 := hv1 1 de
   have e2 : v1 2 = .int .i64 0 := hv1 2 de
   simp only [e1, e2]
   have hO := hG1.1
   clear HO
   have HO := hide hO
   clear hO hG1 hv1 hne1
   try clear e1 e2
   go_upto_region 2 with fail
   refine Rg.bg 2 43 (Rg.pick [Rg.ai (.int .i64 0), Rg.ai (.bool false)]) (az w _ V1) dm [] kr rfl (Rg.df.pick ⟨Rg.ae _, Rg.ae _, trivial⟩) (az.begin (aa HO))
    (ag (cz rfl aF)
    (ag (mq rfl (aT 0) (Rg.jc _) rfl rfl)
    Rg.bf)) ?_
   intro v2 V2 hG2 hv2 hne2
   simp only [Rg.puts, Act.put, tA]
   have e1 : v2 1 = .bool false := hv2 1 de
   simp only [e1]
   have hO := hG2.1
   clear HO
   have HO := hide hO
   clear hO hG2 hv2 hne2
   try clear e1
   clear k0
   have k1 : (Oe f n d g p q = false) ∧ oq f n d g p q = 1 := ⟨(Ic.1 g1).1.symm, (Ic.1 g1).2.symm⟩
   go_upto_region 4 with fail
   refine Rg.bg 8 43 (Rg.pick [au [.k (eK f), iv n, iv d], au [.k (eK g), iv p, iv q], jk [Rg.ai (.bool false), Rg.ai (.int .i64 1)], jk [Rg.ai (.bool false), Rg.ai (.int .i64 1)], Rg.ai (.bool false), Rg.ai (.int .i64 1), Rg.ai (.bool false), Rg.ai (.int .i64 1)]) (az w _ V2) dm [] kr rfl (Rg.df.pick ⟨ay _, ay _, il ⟨(Rg.ae _), (Rg.ae _), trivial⟩, il ⟨(Rg.ae _), (Rg.ae _), trivial⟩, Rg.ae _, Rg.ae _, Rg.ae _, Rg.ae _, trivial⟩) (az.begin (aa HO))
    (ag (fw jb ru aF [] [.k (eK f), iv n, iv d] [])
    (ag (fw jb mf aF [] [.k (eK g), iv p, iv q] [])
    (ag (sc2 Tryz.func39 (aT 0) (aT 1) (fun W v0 v1 hG h0 h1 => k1.1 ▸ k1.2 ▸ aac W ((aa HT).below hG.bel) _ h0 _ h1))
    (ag (cz rfl (aT 2))
    (ag (iy (ts := [Rg.ai (.bool false), Rg.ai (.int .i64 1)]) rfl (aT 3) (of_decide_eq_true rfl) rfl)
    (ag (iy (ts := [Rg.ai (.bool false), Rg.ai (.int .i64 1)]) rfl (aT 3) (of_decide_eq_true rfl) rfl)
    (ag (ib rfl (aT 4))
    (ag (ib rfl (aT 5))
    Rg.bf)))))))) ?_
   intro v3 V3 hG3 hv3 ja
   simp only [Rg.puts, Act.put, tA]
   have e4 : v3 4 = .bool false := hv3 4 de
   have e5 : v3 5 = .int .i64 1 := hv3 5 de
   have e6 : v3 6 = .bool false := hv3 6 de
   have e7 : v3 7 = .int .i64 1 := hv3 7 de
   simp only [e4, e5, e6, e7]
   have hO := hG3.1
   clear HO
   have HO := hide hO
   clear hO hG3 hv3 ja
   try clear e4 e5 e6 e7
   go_upto_region 5 with fail
   refine Rg.bg 2 43 (Rg.pick [Rg.ai (.int .i64 1), Rg.ai (.bool true)]) (az w _ V3) dm [] kr rfl (Rg.df.pick ⟨Rg.ae _, Rg.ae _, trivial⟩) (az.begin (aa HO))
    (ag (cz rfl aF)
    (ag (mq rfl (aT 0) (Rg.jc _) rfl rfl)
    Rg.bf)) ?_
   intro v4 V4 hG4 hv4 mo
   simp only [Rg.puts, Act.put, tA]
   have e1 : v4 1 = .bool true := hv4 1 de
   simp only [e1]
   have hO := hG4.1
   clear HO
   have HO := hide hO
   clear hO hG4 hv4 mo
   try clear e1
   go_upto_region 6 with fail
   refine Rg.bg 2 43 (Rg.pick [au zR, Rg.ai (.int .i64 1)]) (az w _ V4) dm [] kr rfl (Rg.df.pick ⟨ay _, Rg.ae _, trivial⟩) (az.begin (aa HO))
    (ag (Fb Hm rfl rfl rfl)
    (ag (cz rfl aF)
    Rg.bf)) ?_
   intro v5 V5 wy hv5 hne5
   simp only [Rg.puts, Act.put, tA]
   have e1 : v5 1 = .int .i64 1 := hv5 1 de
   simp only [e1]
   have hO := wy.1
   refine ji hO 0 [] zR zR [] rfl uq rfl (show au zR V5 (v5 0) from hv5 0 de) rfl rfl rfl ?_
   intro Er fu hk0
   replace hO := fu
   clear fu
   clear HO
   have HO := hide hO
   clear hO wy hv5 hne5 hk0
   try clear e1
   go_wp2_with fail
   exact oz Tryz.results41 En rfl rfl (aa HO) me0 rfl rfl
 ·
  have hr := (aa HR).1 g0
  subst hr
  clear HR
  have k0 : Oy a c = 1 := if_neg g0
  go_upto_region 1 with fail
  refine Rg.bg 3 43 (Rg.pick [au [iv a, iv c], Rg.ai (.int .i64 1), Rg.ai (.int .i64 1)]) (az w _ W0) dm [] kr rfl (Rg.df.pick ⟨ay _, Rg.ae _, Rg.ae _, trivial⟩) (az.begin (aa HO))
   (ag (fw qi Gh aF [] [iv a, iv c] [])
   (ag (sc1 Tryz.func66 (aT 0) (fun W v0 hG h0 => k0 ▸ Hl ((aa HT).below hG.bel) h0))
   (ag (ib rfl (aT 1))
   Rg.bf))) ?_
  intro v1 V1 hG1 hv1 hne1
  simp only [Rg.puts, Act.put, tA]
  have e1 : v1 1 = .int .i64 1 := hv1 1 de
  have e2 : v1 2 = .int .i64 1 := hv1 2 de
  simp only [e1, e2]
  have hO := hG1.1
  clear HO
  have HO := hide hO
  clear hO hG1 hv1 hne1
  try clear e1 e2
  go_upto_region 2 with fail
  refine Rg.bg 2 43 (Rg.pick [Rg.ai (.int .i64 1), Rg.ai (.bool true)]) (az w _ V1) dm [] kr rfl (Rg.df.pick ⟨Rg.ae _, Rg.ae _, trivial⟩) (az.begin (aa HO))
   (ag (cz rfl aF)
   (ag (mq rfl (aT 0) (Rg.jc _) rfl rfl)
   Rg.bf)) ?_
  intro v2 V2 hG2 hv2 hne2
  simp only [Rg.puts, Act.put, tA]
  have e1 : v2 1 = .bool true := hv2 1 de
  simp only [e1]
  have hO := hG2.1
  clear HO
  have HO := hide hO
  clear hO hG2 hv2 hne2
  try clear e1
  clear k0
  go_upto_region 3 with fail
  refine Rg.bg 2 43 (Rg.pick [au zR, Rg.ai (.int .i64 1)]) (az w _ V2) dm [] kr rfl (Rg.df.pick ⟨ay _, Rg.ae _, trivial⟩) (az.begin (aa HO))
   (ag (Fb Hm rfl rfl rfl)
   (ag (cz rfl aF)
   Rg.bf)) ?_
  intro v3 V3 hG3 hv3 ja
  simp only [Rg.puts, Act.put, tA]
  have e1 : v3 1 = .int .i64 1 := hv3 1 de
  simp only [e1]
  have hO := hG3.1
  refine ji hO 0 [] zR zR [] rfl uq rfl (show au zR V3 (v3 0) from hv3 0 de) rfl rfl rfl ?_
  intro Bi fu hk0
  replace hO := fu
  clear fu
  clear HO
  have HO := hide hO
  clear hO hG3 hv3 ja hk0
  try clear e1
  go_wp2_with fail
  exact oz Tryz.results41 En rfl rfl (aa HO) me0 rfl rfl
theorem bas {f g : Nat → Int} {a c n d p q : Int} (w : World) (hT : qa w) (u0 : Value) (h0 : au [iv a, iv c] w u0) (u1 : Value) (h1 : au [.k (eK f), iv n, iv d] w u1) (u2 : Value) (h2 : au [.k (eK g), iv p, iv q] w u2) : Calls Tryz.prog 41 #[u0, u1, u2] w (ik (ToT (Ol a c f n d g p q)) w) :=
 arc _ w hT u0 h0 u1 h1 u2 h2 ada
variable {W : World} {v0 v1 : Value} {x y : Rat} {K : Nat} in
theorem bhb (hx : uw K x) (hy : uw K y) (hn : y.num ≠ 0) (h0 : au [.r x] W v0) (h1 : au [.r y] W v1) : Calls Tryz.prog 64 #[v0, v1] W (ik (au [.r (x / y)]) W) :=
 (Go.Proofs.YtfgeaakhlcaibaaGreatDoor.bhw hx.1 hy.1 (by have := hx.2; omega) hn W v0 v1 (ado h0) (ado h1)).mono fun e w' h => Tt h
theorem aln {f g : Nat → Int} {a c n d p q : Int} (t : Wd.Told) (w : World) (u0 : Value) (h0 : au [iv a, iv c] w u0) (u1 : Value) (h1 : au [.k (eK f), iv n, iv d] w u1) (u2 : Value) (h2 : au [.k (eK g), iv p, iv q] w u2) (hr : (¬ Wd.qy a c → t = ⟨0, 0, 1⟩) ∧ (Wd.qy a c → (¬ (qf f n d ∧ qf g p q) → t = ⟨0, 0, 1⟩) ∧ ((qf f n d ∧ qf g p q) → (¬ uy f g → t = ⟨0, 0, 8⟩) ∧ (uy f g → t = Wd.told ((Wd.qR a c) * (Wd.qR n d) / (Wd.qR p q)))))) :
  Calls Tryz.prog 42 #[u0, u1, u2] w (ik (ToT t) w) := by
 have HR := hide hr
 clear hr
 have hu0 := Fv h0
 subst hu0
 have hu1 := pg h1
 subst hu1
 have hu2 := pg h2
 subst hu2
 go_enter Tryz.func42, Tryz.ntmps42
 go_upto_region 1 with fail
 have hO := (Own.push (T := 23) (ls := zR) (Own.push (T := 44) (ls := [.k (eK g), iv p, iv q]) (Own.push (T := 44) (ls := [.k (eK f), iv n, iv d]) (Own.push (T := 23) (ls := [iv a, iv c]) (Own.nil w) (eu.v (iw _) (eu.v (iw _) rfl)) (w.heap.size) rfl) (eu.below (by repeat (first | exact Below.refl _ _ | refine gm ?_ _)) (eu.e (eu.v (iw _) (eu.v (iw _) rfl)))) (w.heap.size + 1) (by simp only [World.size_alloc])) (eu.below (by repeat (first | exact Below.refl _ _ | refine gm ?_ _)) (eu.e (eu.v (iw _) (eu.v (iw _) rfl)))) (w.heap.size + 2) (by simp only [World.size_alloc])) (eu.below (by repeat (first | exact Below.refl _ _ | refine gm ?_ _)) (eu.vs w [.int .i64 0, .int .i64 0] rfl)) (w.heap.size + 3) (by simp only [World.size_alloc]))
 generalize (((w.alloc (.cells #[.int .i64 a, .int .i64 c] 23)).alloc (.cells #[.int .i64 (f 0), .int .i64 (f 1), .int .i64 (f 2), .int .i64 (f 3), .int .i64 (f 4), .int .i64 (f 5), .int .i64 (f 6), .int .i64 n, .int .i64 d] 44)).alloc (.cells #[.int .i64 (g 0), .int .i64 (g 1), .int .i64 (g 2), .int .i64 (g 3), .int .i64 (g 4), .int .i64 (g 5), .int .i64 (g 6), .int .i64 p, .int .i64 q] 44)).alloc (.cells #[.int .i64 0, .int .i64 0] 23) = W0 at *
 have HO := hide hO
 clear hO
 by_cases g0 : Wd.qy a c
 ·
  by_cases g1 : qf f n d ∧ qf g p q
  ·
   by_cases g2 : uy f g
   ·
    obtain ⟨y, hy⟩ : ∃ y, y = (Wd.qR a c) * (Wd.qR n d) := ⟨_, rfl⟩
    obtain ⟨z, hz⟩ : ∃ z, z = y / (Wd.qR p q) := ⟨_, rfl⟩
    have hr : t = Wd.told z := by rw [hz, hy]; exact (((aa HR).2 g0).2 g1).2 g2
    subst hr
    clear HR
    have HY := hide hy
    have HZ := hide hz
    clear hy hz
    have k0 : decide (Wd.qy a c) = true := decide_eq_true g0
    go_upto_region 1 with fail
    refine Rg.bg 3 40 (Rg.pick [au [iv a, iv c], Rg.ai (.bool true), Rg.ai (.bool false)]) (az w _ W0) dm [] kr rfl (Rg.df.pick ⟨ay _, Rg.ae _, Rg.ae _, trivial⟩) (az.begin (aa HO))
     (ag (fw qi Gh aF [] [iv a, iv c] [])
     (ag (sc1 Tryz.func70 (aT 0) (fun W v0 hG h0 => k0 ▸ Xi h0))
     (ag (uf rfl (aT 1) rfl rfl)
     Rg.bf))) ?_
    intro v1 V1 hG1 hv1 hne1
    simp only [Rg.puts, Act.put, tA]
    have e2 : v1 2 = .bool false := hv1 2 de
    simp only [e2]
    have hO := hG1.1
    clear HO
    have HO := hide hO
    clear hO hG1 hv1 hne1
    try clear e2
    clear k0
    have k0 : oq f n d g p q = 0 := Cb g1
    go_upto_region 3 with fail
    refine Rg.bg 5 40 (Rg.pick [au [.k (eK f), iv n, iv d], au [.k (eK g), iv p, iv q], Sn 44 2 [.k (eK f), iv n, iv d, .k (eK g), iv p, iv q], Rg.ai (.int .i64 0), Rg.ai (.int .i64 0)]) (az w _ V1) dm [] kr rfl (Rg.df.pick ⟨ay _, ay _, Gf _ _ _, Rg.ae _, Rg.ae _, trivial⟩) (az.begin (aa HO))
     (ag (fw jb ru aF [] [.k (eK f), iv n, iv d] [])
     (ag (fw jb mf aF [] [.k (eK g), iv p, iv q] [])
     (ag (Cn (ps := [(0, .tmp 13), (1, .tmp 14)]) (gs := [[.k (eK f), iv n, iv d], [.k (eK g), iv p, iv q]]) Bh rfl az.step rfl (qj.cons (aT 0) rfl (qj.cons (aT 1) rfl qj.nil)) rfl)
     (ag (sc1 Tryz.func99 (aT 2) (fun W v0 hG h0 => k0 ▸ Ea h0))
     (ag (ib rfl (aT 3))
     Rg.bf))))) ?_
    intro v2 V2 hG2 hv2 hne2
    simp only [Rg.puts, Act.put, tA]
    have e3 : v2 3 = .int .i64 0 := hv2 3 de
    have e4 : v2 4 = .int .i64 0 := hv2 4 de
    simp only [e3, e4]
    have hO := hG2.1
    clear HO
    have HO := hide hO
    clear hO hG2 hv2 hne2
    try clear e3 e4
    go_upto_region 4 with fail
    refine Rg.bg 2 40 (Rg.pick [Rg.ai (.int .i64 0), Rg.ai (.bool false)]) (az w _ V2) dm [] kr rfl (Rg.df.pick ⟨Rg.ae _, Rg.ae _, trivial⟩) (az.begin (aa HO))
     (ag (cz rfl aF)
     (ag (mq rfl (aT 0) (Rg.jc _) rfl rfl)
     Rg.bf)) ?_
    intro v3 V3 hG3 hv3 ja
    simp only [Rg.puts, Act.put, tA]
    have e1 : v3 1 = .bool false := hv3 1 de
    simp only [e1]
    have hO := hG3.1
    clear HO
    have HO := hide hO
    clear hO hG3 hv3 ja
    try clear e1
    clear k0
    have k2 : (!decide (uy f g)) = false := by rw [decide_eq_true g2]; rfl
    go_upto_region 6 with fail
    refine Rg.bg 5 40 (Rg.pick [Rg.ai (.pointer (some ⟨w.heap.size + 1, 0, none⟩)), Rg.ai (aV f), Rg.ai (.pointer (some ⟨w.heap.size + 2, 0, none⟩)), Rg.ai (aV g), Rg.ai (.bool false)]) (az w _ V3) dm [] kr rfl (Rg.df.pick ⟨Rg.ae _, Rg.ae _, Rg.ae _, Rg.ae _, Rg.ae _, trivial⟩) (az.begin (aa HO))
     (ag (sw (b := w.heap.size + 1) (off := 0) rfl aF rfl rfl)
     (ag (Ls (f := f) xw ru rfl (aT 0) rfl)
     (ag (sw (b := w.heap.size + 2) (off := 0) rfl aF rfl rfl)
     (ag (Ls (f := g) xw mf rfl (aT 2) rfl)
     (ag (aoo rfl (aT 1) (aT 3) rfl k2)
     Rg.bf))))) ?_
    intro v4 V4 hG4 hv4 mo
    simp only [Rg.puts, Act.put, tA]
    have e4 : v4 4 = .bool false := hv4 4 de
    simp only [e4]
    have hO := hG4.1
    clear HO
    have HO := hide hO
    clear hO hG4 hv4 mo
    try clear e4
    clear k2
    have HA := hide g0
    have rf := hide g1
    clear g0 g1 g2
    go_upto_region 8 with fail
    refine Rg.region 13 40 (Rg.pick [au [iv a, iv c], au [.r (Wd.qR a c)], Rg.ai (.pointer (some ⟨w.heap.size + 1, 7, none⟩)), au [iv n, iv d], au [.r (Wd.qR n d)], au [.r y], Rg.ai (.pointer (some ⟨w.heap.size + 2, 7, none⟩)), au [iv p, iv q], au [.r (Wd.qR p q)], au [.r z], jk [au [iv (Wd.told z).n, iv (Wd.told z).d], Rg.ai (.int .i64 (Wd.told z).e)], au [iv (Wd.told z).n, iv (Wd.told z).d], Rg.ai (.int .i64 (Wd.told z).e)]) (az w _ V4) dm [] kr kr rfl (Rg.df.pick ⟨ay _, ay _, Rg.ae _, ay _, ay _, ay _, Rg.ae _, ay _, ay _, ay _, il ⟨(ay _), (Rg.ae _), trivial⟩, ay _, Rg.ae _, trivial⟩) (az.start (aa HO))
     (ag (fw qi Gh aF [] [iv a, iv c] [])
     (ag (sc1 Tryz.func58 (aT 0) (fun W v0 hG h0 => alo (aa HA) h0))
     (ag (vo (b := w.heap.size + 1) (off := 0) rfl aF rfl rfl)
     (ag (fw qi ru (aT 2) [.k (eK f)] [iv n, iv d] [])
     (ag (sc1 Tryz.func58 (aT 3) (fun W v0 hG h0 => alo (aa rf).1.2.1 h0))
     (ag (sc2 Tryz.func62 (aT 1) (aT 4) (fun W v0 v1 hG h0 h1 => (aa HY) ▸ Yy (Br (aa HA)) (Br (aa rf).1.2.1) h0 h1))
     (ag (vo (b := w.heap.size + 2) (off := 0) rfl aF rfl rfl)
     (ag (fw qi mf (aT 6) [.k (eK g)] [iv p, iv q] [])
     (ag (sc1 Tryz.func58 (aT 7) (fun W v0 hG h0 => alo (aa rf).2.2.1 h0))
     (ag (sc2 Tryz.func64 (aT 5) (aT 8) (fun W v0 v1 hG h0 h1 => (aa HZ) ▸ bhb ((aa HY) ▸ uw.mul (Br (aa HA)) (Br (aa rf).1.2.1) om) ((Br (aa rf).2.2.1).mono om om) (Da (aa rf).2) h0 h1))
     (ag (sc1 Tryz.func110 (aT 9) (fun W v0 hG h0 => avv W _ h0))
     (ag (iy (ts := [au [iv (Wd.told z).n, iv (Wd.told z).d], Rg.ai (.int .i64 (Wd.told z).e)]) rfl (aT 10) (of_decide_eq_true rfl) rfl)
     (ag (iy (ts := [au [iv (Wd.told z).n, iv (Wd.told z).d], Rg.ai (.int .i64 (Wd.told z).e)]) rfl (aT 10) (of_decide_eq_true rfl) rfl)
     Rg.bf))))))))))))) ?_
    intro v5 V5 wy hv5 hne5
    simp only [Rg.puts, Act.put, tA]
    have e12 : v5 12 = .int .i64 (Wd.told z).e := hv5 12 de
    simp only [e12]
    have hO := wy.1
    refine ji hO 0 [] zR [iv (Wd.told z).n, iv (Wd.told z).d] [] rfl uq rfl (show au [iv (Wd.told z).n, iv (Wd.told z).d] V5 (v5 11) from hv5 11 de) rfl rfl rfl ?_
    intro Er fu hk0
    replace hO := fu
    clear fu
    clear HO
    have HO := hide hO
    clear hO wy hv5 hne5 hk0
    try clear e12
    go_wp2_with fail
    exact oz Tryz.results42 En rfl rfl (aa HO) me0 rfl rfl
   ·
    have hr := (((aa HR).2 g0).2 g1).1 g2
    subst hr
    clear HR
    have k0 : decide (Wd.qy a c) = true := decide_eq_true g0
    go_upto_region 1 with fail
    refine Rg.bg 3 40 (Rg.pick [au [iv a, iv c], Rg.ai (.bool true), Rg.ai (.bool false)]) (az w _ W0) dm [] kr rfl (Rg.df.pick ⟨ay _, Rg.ae _, Rg.ae _, trivial⟩) (az.begin (aa HO))
     (ag (fw qi Gh aF [] [iv a, iv c] [])
     (ag (sc1 Tryz.func70 (aT 0) (fun W v0 hG h0 => k0 ▸ Xi h0))
     (ag (uf rfl (aT 1) rfl rfl)
     Rg.bf))) ?_
    intro v1 V1 hG1 hv1 hne1
    simp only [Rg.puts, Act.put, tA]
    have e2 : v1 2 = .bool false := hv1 2 de
    simp only [e2]
    have hO := hG1.1
    clear HO
    have HO := hide hO
    clear hO hG1 hv1 hne1
    try clear e2
    clear k0
    have k0 : oq f n d g p q = 0 := Cb g1
    go_upto_region 3 with fail
    refine Rg.bg 5 40 (Rg.pick [au [.k (eK f), iv n, iv d], au [.k (eK g), iv p, iv q], Sn 44 2 [.k (eK f), iv n, iv d, .k (eK g), iv p, iv q], Rg.ai (.int .i64 0), Rg.ai (.int .i64 0)]) (az w _ V1) dm [] kr rfl (Rg.df.pick ⟨ay _, ay _, Gf _ _ _, Rg.ae _, Rg.ae _, trivial⟩) (az.begin (aa HO))
     (ag (fw jb ru aF [] [.k (eK f), iv n, iv d] [])
     (ag (fw jb mf aF [] [.k (eK g), iv p, iv q] [])
     (ag (Cn (ps := [(0, .tmp 13), (1, .tmp 14)]) (gs := [[.k (eK f), iv n, iv d], [.k (eK g), iv p, iv q]]) Bh rfl az.step rfl (qj.cons (aT 0) rfl (qj.cons (aT 1) rfl qj.nil)) rfl)
     (ag (sc1 Tryz.func99 (aT 2) (fun W v0 hG h0 => k0 ▸ Ea h0))
     (ag (ib rfl (aT 3))
     Rg.bf))))) ?_
    intro v2 V2 hG2 hv2 hne2
    simp only [Rg.puts, Act.put, tA]
    have e3 : v2 3 = .int .i64 0 := hv2 3 de
    have e4 : v2 4 = .int .i64 0 := hv2 4 de
    simp only [e3, e4]
    have hO := hG2.1
    clear HO
    have HO := hide hO
    clear hO hG2 hv2 hne2
    try clear e3 e4
    go_upto_region 4 with fail
    refine Rg.bg 2 40 (Rg.pick [Rg.ai (.int .i64 0), Rg.ai (.bool false)]) (az w _ V2) dm [] kr rfl (Rg.df.pick ⟨Rg.ae _, Rg.ae _, trivial⟩) (az.begin (aa HO))
     (ag (cz rfl aF)
     (ag (mq rfl (aT 0) (Rg.jc _) rfl rfl)
     Rg.bf)) ?_
    intro v3 V3 hG3 hv3 ja
    simp only [Rg.puts, Act.put, tA]
    have e1 : v3 1 = .bool false := hv3 1 de
    simp only [e1]
    have hO := hG3.1
    clear HO
    have HO := hide hO
    clear hO hG3 hv3 ja
    try clear e1
    clear k0
    have k2 : (!decide (uy f g)) = true := by rw [decide_eq_false g2]; rfl
    go_upto_region 6 with fail
    refine Rg.bg 5 40 (Rg.pick [Rg.ai (.pointer (some ⟨w.heap.size + 1, 0, none⟩)), Rg.ai (aV f), Rg.ai (.pointer (some ⟨w.heap.size + 2, 0, none⟩)), Rg.ai (aV g), Rg.ai (.bool true)]) (az w _ V3) dm [] kr rfl (Rg.df.pick ⟨Rg.ae _, Rg.ae _, Rg.ae _, Rg.ae _, Rg.ae _, trivial⟩) (az.begin (aa HO))
     (ag (sw (b := w.heap.size + 1) (off := 0) rfl aF rfl rfl)
     (ag (Ls (f := f) xw ru rfl (aT 0) rfl)
     (ag (sw (b := w.heap.size + 2) (off := 0) rfl aF rfl rfl)
     (ag (Ls (f := g) xw mf rfl (aT 2) rfl)
     (ag (aoo rfl (aT 1) (aT 3) rfl k2)
     Rg.bf))))) ?_
    intro v4 V4 hG4 hv4 mo
    simp only [Rg.puts, Act.put, tA]
    have e4 : v4 4 = .bool true := hv4 4 de
    simp only [e4]
    have hO := hG4.1
    clear HO
    have HO := hide hO
    clear hO hG4 hv4 mo
    try clear e4
    clear k2
    go_upto_region 7 with fail
    refine Rg.bg 1 40 (Rg.pick [au zR]) (az w _ V4) dm [] kr rfl (Rg.df.pick ⟨ay _, trivial⟩) (az.begin (aa HO))
     (ag (Fb Hm rfl rfl rfl)
     Rg.bf) ?_
    intro v5 V5 wy hv5 hne5
    simp only [Rg.puts, Act.put, tA]
    have hO := wy.1
    refine ji hO 0 [] zR zR [] rfl uq rfl (show au zR V5 (v5 0) from hv5 0 de) rfl rfl rfl ?_
    intro Er fu hk0
    replace hO := fu
    clear fu
    clear HO
    have HO := hide hO
    clear hO wy hv5 hne5 hk0
    go_wp2_with fail
    exact oz Tryz.results42 En rfl rfl (aa HO) me0 rfl rfl
  ·
   have hr := ((aa HR).2 g0).1 g1
   subst hr
   clear HR
   have k0 : decide (Wd.qy a c) = true := decide_eq_true g0
   go_upto_region 1 with fail
   refine Rg.bg 3 40 (Rg.pick [au [iv a, iv c], Rg.ai (.bool true), Rg.ai (.bool false)]) (az w _ W0) dm [] kr rfl (Rg.df.pick ⟨ay _, Rg.ae _, Rg.ae _, trivial⟩) (az.begin (aa HO))
    (ag (fw qi Gh aF [] [iv a, iv c] [])
    (ag (sc1 Tryz.func70 (aT 0) (fun W v0 hG h0 => k0 ▸ Xi h0))
    (ag (uf rfl (aT 1) rfl rfl)
    Rg.bf))) ?_
   intro v1 V1 hG1 hv1 hne1
   simp only [Rg.puts, Act.put, tA]
   have e2 : v1 2 = .bool false := hv1 2 de
   simp only [e2]
   have hO := hG1.1
   clear HO
   have HO := hide hO
   clear hO hG1 hv1 hne1
   try clear e2
   clear k0
   have k0 : oq f n d g p q = 1 := Jq g1
   go_upto_region 3 with fail
   refine Rg.bg 5 40 (Rg.pick [au [.k (eK f), iv n, iv d], au [.k (eK g), iv p, iv q], Sn 44 2 [.k (eK f), iv n, iv d, .k (eK g), iv p, iv q], Rg.ai (.int .i64 1), Rg.ai (.int .i64 1)]) (az w _ V1) dm [] kr rfl (Rg.df.pick ⟨ay _, ay _, Gf _ _ _, Rg.ae _, Rg.ae _, trivial⟩) (az.begin (aa HO))
    (ag (fw jb ru aF [] [.k (eK f), iv n, iv d] [])
    (ag (fw jb mf aF [] [.k (eK g), iv p, iv q] [])
    (ag (Cn (ps := [(0, .tmp 13), (1, .tmp 14)]) (gs := [[.k (eK f), iv n, iv d], [.k (eK g), iv p, iv q]]) Bh rfl az.step rfl (qj.cons (aT 0) rfl (qj.cons (aT 1) rfl qj.nil)) rfl)
    (ag (sc1 Tryz.func99 (aT 2) (fun W v0 hG h0 => k0 ▸ Ea h0))
    (ag (ib rfl (aT 3))
    Rg.bf))))) ?_
   intro v2 V2 hG2 hv2 hne2
   simp only [Rg.puts, Act.put, tA]
   have e3 : v2 3 = .int .i64 1 := hv2 3 de
   have e4 : v2 4 = .int .i64 1 := hv2 4 de
   simp only [e3, e4]
   have hO := hG2.1
   clear HO
   have HO := hide hO
   clear hO hG2 hv2 hne2
   try clear e3 e4
   go_upto_region 4 with fail
   refine Rg.bg 2 40 (Rg.pick [Rg.ai (.int .i64 1), Rg.ai (.bool true)]) (az w _ V2) dm [] kr rfl (Rg.df.pick ⟨Rg.ae _, Rg.ae _, trivial⟩) (az.begin (aa HO))
    (ag (cz rfl aF)
    (ag (mq rfl (aT 0) (Rg.jc _) rfl rfl)
    Rg.bf)) ?_
   intro v3 V3 hG3 hv3 ja
   simp only [Rg.puts, Act.put, tA]
   have e1 : v3 1 = .bool true := hv3 1 de
   simp only [e1]
   have hO := hG3.1
   clear HO
   have HO := hide hO
   clear hO hG3 hv3 ja
   try clear e1
   clear k0
   go_upto_region 5 with fail
   refine Rg.bg 2 40 (Rg.pick [au zR, Rg.ai (.int .i64 1)]) (az w _ V3) dm [] kr rfl (Rg.df.pick ⟨ay _, Rg.ae _, trivial⟩) (az.begin (aa HO))
    (ag (Fb Hm rfl rfl rfl)
    (ag (cz rfl aF)
    Rg.bf)) ?_
   intro v4 V4 hG4 hv4 mo
   simp only [Rg.puts, Act.put, tA]
   have e1 : v4 1 = .int .i64 1 := hv4 1 de
   simp only [e1]
   have hO := hG4.1
   refine ji hO 0 [] zR zR [] rfl uq rfl (show au zR V4 (v4 0) from hv4 0 de) rfl rfl rfl ?_
   intro Ai fu hk0
   replace hO := fu
   clear fu
   clear HO
   have HO := hide hO
   clear hO hG4 hv4 mo hk0
   try clear e1
   go_wp2_with fail
   exact oz Tryz.results42 En rfl rfl (aa HO) me0 rfl rfl
 ·
  have hr := (aa HR).1 g0
  subst hr
  clear HR
  have k0 : decide (Wd.qy a c) = false := decide_eq_false g0
  go_upto_region 1 with fail
  refine Rg.bg 3 40 (Rg.pick [au [iv a, iv c], Rg.ai (.bool false), Rg.ai (.bool true)]) (az w _ W0) dm [] kr rfl (Rg.df.pick ⟨ay _, Rg.ae _, Rg.ae _, trivial⟩) (az.begin (aa HO))
   (ag (fw qi Gh aF [] [iv a, iv c] [])
   (ag (sc1 Tryz.func70 (aT 0) (fun W v0 hG h0 => k0 ▸ Xi h0))
   (ag (uf rfl (aT 1) rfl rfl)
   Rg.bf))) ?_
  intro v1 V1 hG1 hv1 hne1
  simp only [Rg.puts, Act.put, tA]
  have e2 : v1 2 = .bool true := hv1 2 de
  simp only [e2]
  have hO := hG1.1
  clear HO
  have HO := hide hO
  clear hO hG1 hv1 hne1
  try clear e2
  clear k0
  go_upto_region 2 with fail
  refine Rg.bg 1 40 (Rg.pick [au zR]) (az w _ V1) dm [] kr rfl (Rg.df.pick ⟨ay _, trivial⟩) (az.begin (aa HO))
   (ag (Fb Hm rfl rfl rfl)
   Rg.bf) ?_
  intro v2 V2 hG2 hv2 hne2
  simp only [Rg.puts, Act.put, tA]
  have hO := hG2.1
  refine ji hO 0 [] zR zR [] rfl uq rfl (show au zR V2 (v2 0) from hv2 0 de) rfl rfl rfl ?_
  intro Cc fu hk0
  replace hO := fu
  clear fu
  clear HO
  have HO := hide hO
  clear hO hG2 hv2 hne2 hk0
  go_wp2_with fail
  exact oz Tryz.results42 En rfl rfl (aa HO) me0 rfl rfl
theorem avs {f g : Nat → Int} {a c n d p q : Int} (w : World) (u0 : Value) (h0 : au [iv a, iv c] w u0) (u1 : Value) (h1 : au [.k (eK f), iv n, iv d] w u1) (u2 : Value) (h2 : au [.k (eK g), iv p, iv q] w u2) : Calls Tryz.prog 42 #[u0, u1, u2] w (ik (ToT (Ol a c f n d g p q)) w) :=
 aln _ w u0 h0 u1 h1 u2 h2 ada
end Sb


namespace Sb
theorem avm (d : Nat) (f : Nat → Int) (w : World) : (Op.equalIn (d + 2) 42 (.agg #[Value.int .i64 (f 0), Value.int .i64 (f 1), Value.int .i64 (f 2), Value.int .i64 (f 3), Value.int .i64 (f 4), Value.int .i64 (f 5), Value.int .i64 (f 6)]) (.agg #[Value.int .i64 (f 0), Value.int .i64 (f 1), Value.int .i64 (f 2), Value.int .i64 (f 3), Value.int .i64 (f 4), Value.int .i64 (f 5), Value.int .i64 (f 6)])).run Tryz.prog w = .ok true w := by
 obtain ⟨i, hi⟩ : ∃ i, Tryz.prog.info? 3 = some i := by
  have := agc
  cases h : Tryz.prog.info? 3 with
  | none => rw [h] at this; cases this
  | some i => exact ⟨i, rfl⟩
 have hc : Tryz.prog.cellsOf 3 = 1 := by kernel_rfl
 have key := fun w => run_equalIn_array (P := Tryz.prog) (w := w) (d + 1) (t := 42) (e := 3) (n := 7) #[Value.int .i64 (f 0), Value.int .i64 (f 1), Value.int .i64 (f 2), Value.int .i64 (f 3), Value.int .i64 (f 4), Value.int .i64 (f 5), Value.int .i64 (f 6)] #[Value.int .i64 (f 0), Value.int .i64 (f 1), Value.int .i64 (f 2), Value.int .i64 (f 3), Value.int .i64 (f 4), Value.int .i64 (f 5), Value.int .i64 (f 6)] Tryz.underlying42 hi
 rw [hc, show List.range 7 = [0, 1, 2, 3, 4, 5, 6] by rfl] at key
 have step : ∀ (a : Int) (w : World), (Op.equalIn (d + 1) 3 (.int .i64 a) (.int .i64 a)).run Tryz.prog w = .ok true w := fun a w => by
  unfold Op.equalIn
  simp [go_sem]
 have hp : ∀ (i : Nat) (w : World), i < 7 → (part 3 #[Value.int .i64 (f 0), Value.int .i64 (f 1), Value.int .i64 (f 2), Value.int .i64 (f 3), Value.int .i64 (f 4), Value.int .i64 (f 5), Value.int .i64 (f 6)] (i * 1)).run Tryz.prog w = .ok (.int .i64 (f i)) w := fun i w hi => by
  have hc : i = 0 ∨ i = 1 ∨ i = 2 ∨ i = 3 ∨ i = 4 ∨ i = 5 ∨ i = 6 := by omega
  rcases hc with rfl | rfl | rfl | rfl | rfl | rfl | rfl <;> simp [go_sem]
 have it : ∀ (i : Nat) (is : List Nat) (w : World), i < 7 → (Op.eqItems (d + 1) 3 1 #[Value.int .i64 (f 0), Value.int .i64 (f 1), Value.int .i64 (f 2), Value.int .i64 (f 3), Value.int .i64 (f 4), Value.int .i64 (f 5), Value.int .i64 (f 6)] #[Value.int .i64 (f 0), Value.int .i64 (f 1), Value.int .i64 (f 2), Value.int .i64 (f 3), Value.int .i64 (f 4), Value.int .i64 (f 5), Value.int .i64 (f 6)] (i :: is)).run Tryz.prog w = (Op.eqItems (d + 1) 3 1 #[Value.int .i64 (f 0), Value.int .i64 (f 1), Value.int .i64 (f 2), Value.int .i64 (f 3), Value.int .i64 (f 4), Value.int .i64 (f 5), Value.int .i64 (f 6)] #[Value.int .i64 (f 0), Value.int .i64 (f 1), Value.int .i64 (f 2), Value.int .i64 (f 3), Value.int .i64 (f 4), Value.int .i64 (f 5), Value.int .i64 (f 6)] is).run Tryz.prog w := fun i is w hi => by
  simp only [Op.eqItems, Sem.run_bind, hp _ _ hi, Result.andThen_ok, step]
  simp
 refine (key w).trans ?_
 rw [it 0 _ _ om, it 1 _ _ om, it 2 _ _ om, it 3 _ _ om, it 4 _ _ om, it 5 _ _ om, it 6 _ _ om]
 simp [Op.eqItems]
abbrev Cu (f : Nat → Int) (n d : Int) : Value := .agg #[.int .i64 (f 0), .int .i64 (f 1), .int .i64 (f 2), .int .i64 (f 3), .int .i64 (f 4), .int .i64 (f 5), .int .i64 (f 6), .int .i64 n, .int .i64 d]
theorem avl (k : Nat) (n d : Int) (w : World) : (Op.equalIn (k + 2) 23 (.agg #[.int .i64 n, .int .i64 d]) (.agg #[.int .i64 n, .int .i64 d])).run Tryz.prog w = .ok true w := by
 unfold Op.equalIn
 simp [go_sem]
theorem avk (k : Nat) (f : Nat → Int) (n d : Int) (w : World) : (Op.equalIn (k + 3) 44 (Cu f n d) (Cu f n d)).run Tryz.prog w = .ok true w := by
 have h1 := fun w => avm k f w
 have h2 := fun w => avl k n d w
 unfold Op.equalIn
 simp [go_sem, h1, h2]
def aby (f : Nat → Int) (n d e : Int) : World → Value → Prop := fun W v => ∃ b1 b2, v = .func (.func 97) #[] #[.pointer (some ⟨b1, 0, none⟩), .pointer (some ⟨b2, 0, none⟩)] ∧ uo W b1 44 [.k (eK f), iv n, iv d] ∧ uo W b2 24 [iv e]
theorem anb {f : Nat → Int} {n d e : Int} (w : World) (u0 : Value) (h0 : au [.k (eK f), iv n, iv d] w u0) (u1 : Value) (h1 : Rg.ai (.int .i64 e) w u1) : Calls Tryz.prog 32 #[u0, u1] w (ik (aby f n d e) w) := by
 have hu0 := pg h0
 subst hu0
 cases h1
 clear h0
 have hmf : ∀ (fn : Fn) (first cap : Array Value) (w : World), (Instr.makeFunc fn first cap).run Tryz.prog w = .ok (.func fn first cap) w := fun _ _ _ _ => rfl
 go_enter Tryz.func32, Tryz.ntmps32
 go_wp2_with fail
 have n1 := heap_alloc_new w (.cells #[.int .i64 (f 0), .int .i64 (f 1), .int .i64 (f 2), .int .i64 (f 3), .int .i64 (f 4), .int .i64 (f 5), .int .i64 (f 6), .int .i64 n, .int .i64 d] 44)
 have hb := gm (Below.refl w.heap.size w) (.cells #[.int .i64 (f 0), .int .i64 (f 1), .int .i64 (f 2), .int .i64 (f 3), .int .i64 (f 4), .int .i64 (f 5), .int .i64 (f 6), .int .i64 n, .int .i64 d] 44)
 have sz : (w.alloc (.cells #[.int .i64 (f 0), .int .i64 (f 1), .int .i64 (f 2), .int .i64 (f 3), .int .i64 (f 4), .int .i64 (f 5), .int .i64 (f 6), .int .i64 n, .int .i64 d] 44)).heap.size = w.heap.size + 1 := by simp only [World.size_alloc]
 generalize w.alloc (.cells #[.int .i64 (f 0), .int .i64 (f 1), .int .i64 (f 2), .int .i64 (f 3), .int .i64 (f 4), .int .i64 (f 5), .int .i64 (f 6), .int .i64 n, .int .i64 d] 44) = W1 at *
 have n2 := heap_alloc_new W1 (.cells #[.int .i64 e] 24)
 have hb2 := gm (Below.refl W1.heap.size W1) (.cells #[.int .i64 e] 24)
 generalize W1.alloc (.cells #[.int .i64 e] 24) = W2 at *
 rw [sz] at n2
 have b1 : uo W1 w.heap.size 44 [.k (eK f), iv n, iv d] := ⟨_, n1, eu.e (eu.v (iw _) (eu.v (iw _) rfl))⟩
 exact bodyPost_ret (v := .func (.func 97) #[] #[.pointer (some ⟨w.heap.size, 0, none⟩), .pointer (some ⟨w.heap.size + 1, 0, none⟩)]) (by simp [results, Tryz.results32, go_sem]) rfl
  ⟨_, rfl, bz hb hb2, _, _, rfl, b1.below hb2, ⟨_, n2, eu.v (iw _) rfl⟩⟩
theorem ajn {Q : Exit → Act → World → Prop} {l : List Oper} {n : Nat} {T : Nat → World → Value → Prop} {G : World → Prop} {al : List Nat} {a0 : Act} {k d : Nat} {ty : TypeId} {pos : String} {af : Array Edge} {gd : Option (Nat × Bool)} {x y : Operand} {f : Nat → Int} {u v : Int} (hal : al.contains k = false) (hx : Rg.iq l n T a0 k x (au [.k (eK f), iv u, iv v])) (hy : Rg.iq l n T a0 k y (au [.k (eK f), iv u, iv v])) (hT : T k = Rg.ai (.bool true)) :
  Rg.Step Tryz.prog Q l n T G dm al a0 k { dst := some d, op := .binOp .eql 44 x y 44, type := ty, pos := pos, after := af, guard := gd } := by
 intro a w hG hO hN
 have h1 := pg (hx a w hO hN)
 have h2 := pg (hy a w hO hN)
 have key := fun w => avk 9997 f u v w
 have hr : (execOp a.eval { dst := some d, op := .binOp .eql 44 x y 44, type := ty, pos := pos, after := af, guard := gd }).run Tryz.prog w = .ok (.value (.bool true)) w := by
  simp only [execOp, h1, h2]
  simp [go_sem, key]
 exact jm (P := Tryz.prog) hr ⟨_, rfl, hG, Below.refl _ _, by rw [hT]; rfl, fun h => by rw [hal] at h; cases h⟩
theorem bch {Q : Exit → Act → World → Prop} {l : List Oper} {n : Nat} {T : Nat → World → Value → Prop} {G : World → Prop} {al : List Nat} {a0 : Act} {k d : Nat} {ty : TypeId} {pos : String} {af : Array Edge} {gd : Option (Nat × Bool)} {x : Operand} {b : Nat} {e : Int} (hb : ∀ W, G W → uo W b 24 [iv e]) (hal : al.contains k = false) (hx : Rg.iq l n T a0 k x (Rg.ai (.pointer (some ⟨b, 0, none⟩)))) (hT : T k = Rg.ai (.int .i64 e)) :
  Rg.Step Tryz.prog Q l n T G dm al a0 k { dst := some d, op := .load 24 x, type := ty, pos := pos, after := af, guard := gd } := by
 intro a w hG hO hN
 have hp : a.eval x = .pointer (some ⟨b, 0, none⟩) := hx a w hO hN
 obtain ⟨cs, h1, h2⟩ := hb w hG
 obtain ⟨v, rfl, h3⟩ := h2.Dv
 have hc : w.cell? ⟨b, 0, none⟩ = some (.int .i64 e) := by simp [World.cell?, h1]
 have hr : (execOp a.eval { dst := some d, op := .load 24 x, type := ty, pos := pos, after := af, guard := gd }).run Tryz.prog w = .ok (.value (.int .i64 e)) w := by
  simp only [execOp, hp]
  simp [go_sem, hc]
 exact jm (P := Tryz.prog) hr ⟨_, rfl, hG, Below.refl _ _, by rw [hT]; rfl, fun h => by rw [hal] at h; cases h⟩
theorem aon {f : Nat → Int} {n d e : Int} {b1 b2 : Nat} (w : World) (hb : uo w b1 44 [.k (eK f), iv n, iv d] ∧ uo w b2 24 [iv e]) (u0 : Value) (h0 : au [.k (eK f), iv n, iv d] w u0) :
  Calls Tryz.prog 97 #[u0, .int .i64 e, .pointer (some ⟨b1, 0, none⟩), .pointer (some ⟨b2, 0, none⟩)] w (ik (Rg.ai (.bool true)) w) := by
 have HB := hide hb
 clear hb
 have hu0 := pg h0
 subst hu0
 go_enter Tryz.func97, Tryz.ntmps97
 go_upto_region 1 with fail
 have hO := (Own.push (T := 44) (ls := [.k (eK f), iv n, iv d]) (Own.nil w) (eu.e (eu.v (iw _) (eu.v (iw _) rfl))) (w.heap.size) rfl)
 generalize w.alloc (.cells #[.int .i64 (f 0), .int .i64 (f 1), .int .i64 (f 2), .int .i64 (f 3), .int .i64 (f 4), .int .i64 (f 5), .int .i64 (f 6), .int .i64 n, .int .i64 d] 44) = W0 at *
 have HO := hide hO
 clear hO
 go_upto_region 1 with fail
 refine Rg.bg 9 15 (Rg.pick [au [.k (eK f), iv n, iv d], au [.k (eK f), iv n, iv d], Rg.ai (.bool true), Rg.ai (.bool true), Rg.ai (.int .i64 e), Rg.ai (.int .i64 e), Rg.ai (.bool true), Rg.ai (.bool true), Rg.ai (.bool true)]) (az w _ W0) dm [] kr rfl (Rg.df.pick ⟨ay _, ay _, Rg.ae _, Rg.ae _, Rg.ae _, Rg.ae _, Rg.ae _, Rg.ae _, Rg.ae _, trivial⟩) (az.begin (aa HO))
  (ag (Pj (b := b1) (off := 0) (TB := 44) (pre := []) (mid := [.k (eK f), iv n, iv d]) (post := []) jb rfl aF (fun W h => (aa HB).1.below h.1.bel) rfl rfl rfl)
  (ag (fw jb me0 aF [] [.k (eK f), iv n, iv d] [])
  (ag (ajn rfl (aT 0) (aT 1) rfl)
  (ag (cz rfl (aT 2))
  (Rg.cu (Rg.ek (d := 10) rfl kr rfl (bch (b := b2) (fun W h => (aa HB).2.below h.1.bel) rfl aF rfl))
  (Rg.cu (Rg.ek (d := 10) rfl kr rfl (cz rfl aF))
  (Rg.cu (Rg.ek (d := 10) rfl kr rfl (Tq rfl (aT 4) (aT 5) rfl (beq_self_eq_true _)))
  (ag (xz rfl (aT 3) (aT 6))
  (ag (ib rfl (aT 7))
  Rg.bf))))))))) ?_
 intro v1 V1 hG1 hv1 hne1
 simp only [Rg.puts, Act.put, tA]
 have e7 : v1 7 = .bool true := hv1 7 de
 have e8 : v1 8 = .bool true := hv1 8 de
 simp only [e7, e8]
 have hO := hG1.1
 clear HO
 have HO := hide hO
 clear hO hG1 hv1 hne1
 try clear e7 e8
 go_wp2_with fail
 exact yu Tryz.results97 rfl (aa HO).bel rfl
end Sb


namespace Sb
theorem atb {ρ : Operand → Value} {w : World} {d : Option Tmp} {x y : Operand} {o z : Bool} {ty : TypeId} {pos : String} {af : Array Edge} {gd : Option (Nat × Bool)} (h : ρ x = .bool o) (h' : ρ y = .bool z) :
  (execOp ρ { dst := d, op := .binOp .neq 4 x y 4, type := ty, pos := pos, after := af, guard := gd }).run Tryz.prog w = .ok (.value (.bool (o != z))) w := by
 simp only [execOp, h, h']
 cases o <;> cases z <;> simp [go_sem]
theorem bcd {Q : Exit → Act → World → Prop} {l : List Oper} {n : Nat} {T : Nat → World → Value → Prop} {G : World → Prop} {al : List Nat} {a0 : Act} {k d : Nat} {ty : TypeId} {pos : String} {af : Array Edge} {gd : Option (Nat × Bool)} {x y : Operand} {o z b : Bool}
  (hal : al.contains k = false) (hx : Rg.iq l n T a0 k x (Rg.ai (.bool o))) (hy : Rg.iq l n T a0 k y (Rg.ai (.bool z))) (hT : T k = Rg.ai (.bool b)) (hb : (o != z) = b) : Rg.Step Tryz.prog Q l n T G dm al a0 k { dst := some d, op := .binOp .neq 4 x y 4, type := ty, pos := pos, after := af, guard := gd } := by
 intro a w hG hO hN
 exact jm (P := Tryz.prog) (atb (hx a w hO hN) (hy a w hO hN)) ⟨_, rfl, hG, Below.refl _ _, by rw [hT, hb]; rfl, fun h => by rw [hal] at h; cases h⟩
theorem Xe {f : Nat → Int} {n d e : Int} : Rg.Eb dm (aby f n d e) := by
 rintro w w' v hb ⟨b1, b2, rfl, h1, h2⟩
 exact ⟨b1, b2, rfl, h1.below hb, h2.below hb⟩
theorem aoy {P : Program} {F : Nat} {cap : Array Value} (hF : ∀ (vs : Array Value) (w : World), (callFunc F vs).run P w = .ok (.enter F vs) w) {a : Act} {w : World} {d : Option Tmp} {x : Operand} {xs : Array Operand} {ats : Array TypeId} {ty : TypeId} {pos : String} {af : Array Edge} {gd : Option (Nat × Bool)} (hx : a.eval x = .func (.func F) #[] cap) :
  (execOp a.eval { dst := d, op := .call { callee := .value x, args := xs, argTypes := ats }, type := ty, pos := pos, after := af, guard := gd }).run P w = .ok (.enter F (xs.map a.eval ++ cap)) w := by
 have h := hF (#[] ++ xs.map a.eval ++ cap) w
 rw [Array.empty_append] at h
 rw [← h]
 simp only [execOp, resolve, hx, Deferred.ofValue, invoke]
 simp only [pure_bind, Array.empty_append]
theorem aay {Q : Exit → Act → World → Prop} {l : List Oper} {n : Nat} {T : Nat → World → Value → Prop} {G : World → Prop} {al : List Nat} {a0 : Act} {k d : Nat} {ty : TypeId} {pos : String} {af : Array Edge} {gd : Option (Nat × Bool)} {x x1 x2 : Operand} {ats : Array TypeId} {f : Nat → Int} {u v e : Int} (hal : al.contains k = false) (Ir : ∀ W W', G W → dm W W' → G W') (hf : Rg.iq l n T a0 k x (aby f u v e)) (h1 : Rg.iq l n T a0 k x1 (au [.k (eK f), iv u, iv v])) (h2 : Rg.iq l n T a0 k x2 (Rg.ai (.int .i64 e))) (hT : T k = Rg.ai (.bool true)) :
  Rg.Step Tryz.prog Q l n T G dm al a0 k { dst := some d, op := .call { callee := .value x, args := #[x1, x2], argTypes := ats }, type := ty, pos := pos, after := af, guard := gd } := by
 intro a w hG hO hN
 obtain ⟨b1, b2, e1, B1, B2⟩ := hf a w hO hN
 have e2 : a.eval x2 = .int .i64 e := h2 a w hO hN
 refine Je (aoy (Eo Tryz.func97 kr) e1) ?_
 simp only [List.map_toArray, List.map_cons, List.map_nil, e2]
 refine (aon w ⟨B1, B2⟩ (a.eval x1) (h1 a w hO hN)).mono ?_
 rintro e w' ⟨u, rfl, hb, ht⟩
 exact ⟨u, rfl, u, rfl, Ir _ _ hG hb, hb, by rw [hT]; exact ht, fun h => by rw [hal] at h; cases h⟩
theorem ati {ρ : Operand → Value} {w : World} {d : Option Tmp} {x y : Operand} {p0 p1 q0 q1 : Int} {b : Bool} {ty : TypeId} {pos : String} {af : Array Edge} {gd : Option (Nat × Bool)} (h : ρ x = .agg #[.int .i64 p0, .int .i64 p1]) (h' : ρ y = .agg #[.int .i64 q0, .int .i64 q1]) (hb : decide (p0 = q0 ∧ p1 = q1) = b) :
  (execOp ρ { dst := d, op := .binOp .eql 23 x y 23, type := ty, pos := pos, after := af, guard := gd }).run Tryz.prog w = .ok (.value (.bool b)) w := by
 subst hb
 simp only [execOp, h, h']
 by_cases k0 : p0 = q0 <;> by_cases k1 : p1 = q1 <;> simp [go_sem, k0, k1]
theorem bcj {Q : Exit → Act → World → Prop} {l : List Oper} {n : Nat} {T : Nat → World → Value → Prop} {G : World → Prop} {al : List Nat} {a0 : Act} {k d : Nat} {ty : TypeId} {pos : String} {af : Array Edge} {gd : Option (Nat × Bool)} {x y : Operand} {p0 p1 q0 q1 : Int} {b : Bool}
  (hal : al.contains k = false) (hx : Rg.iq l n T a0 k x (au [iv p0, iv p1])) (hy : Rg.iq l n T a0 k y (au [iv q0, iv q1])) (hb : decide (p0 = q0 ∧ p1 = q1) = b) (hT : T k = Rg.ai (.bool b)) :
  Rg.Step Tryz.prog Q l n T G dm al a0 k { dst := some d, op := .binOp .eql 23 x y 23, type := ty, pos := pos, after := af, guard := gd } := by
 intro a w hG hO hN
 exact jm (P := Tryz.prog) (ati (Fv (hx a w hO hN)) (Fv (hy a w hO hN)) hb) ⟨_, rfl, hG, Below.refl _ _, by rw [hT]; rfl, fun h => by rw [hal] at h; cases h⟩
theorem att {f g : Nat → Int} {n d p q a c m : Int} (w : World) (hT : qa w) (hk : ∀ W, qa W → Calls Tryz.prog 43 #[] W (ik (Rg.ai (.bool true)) W)) (u0 : Value) (h0 : au [.k (eK f), iv n, iv d] w u0) (u1 : Value) (h1 : au [.k (eK g), iv p, iv q] w u1) (u2 : Value) (h2 : au [iv a, iv c] w u2) :
  Calls Tryz.prog 7 #[u0, u1, u2, .int .i64 m] w (ik (Rg.ai (.bool true)) w) := by
 obtain ⟨tm, hm⟩ : ∃ t, Fg f n d g p q 1 = t := ⟨_, rfl⟩
 obtain ⟨td, hd⟩ : ∃ t, Fg f n d g p q (-1) = t := ⟨_, rfl⟩
 obtain ⟨tp, hp⟩ : ∃ t, Im f n d m = t := ⟨_, rfl⟩
 obtain ⟨tc, hc⟩ : ∃ t, Ol a c f n d g p q = t := ⟨_, rfl⟩
 obtain ⟨lb, hl⟩ : ∃ t, Oe f n d g p q = t := ⟨_, rfl⟩
 obtain ⟨le, he⟩ : ∃ t, oq f n d g p q = t := ⟨_, rfl⟩
 have HM := hide hm
 have HD := hide hd
 have HP := hide hp
 have HC := hide hc
 have HL := hide (And.intro hl he)
 have HT := hide hT
 have HK := hide hk
 clear hm hd hp hc hl he hT hk
 have hu0 := pg h0
 subst hu0
 have hu1 := pg h1
 subst hu1
 have hu2 := Fv h2
 subst hu2
 go_enter Tryz.func7, Tryz.ntmps7
 go_upto_region 1 with fail
 have hO := (Own.push (T := 23) (ls := [iv a, iv c]) (Own.push (T := 44) (ls := [.k (eK g), iv p, iv q]) (Own.push (T := 44) (ls := [.k (eK f), iv n, iv d]) (Own.nil w) (eu.e (eu.v (iw _) (eu.v (iw _) rfl))) (w.heap.size) rfl) (eu.below (by repeat (first | exact Below.refl _ _ | refine gm ?_ _)) (eu.e (eu.v (iw _) (eu.v (iw _) rfl)))) (w.heap.size + 1) (by simp only [World.size_alloc])) (eu.below (by repeat (first | exact Below.refl _ _ | refine gm ?_ _)) (eu.v (iw _) (eu.v (iw _) rfl))) (w.heap.size + 2) (by simp only [World.size_alloc]))
 generalize ((w.alloc (.cells #[.int .i64 (f 0), .int .i64 (f 1), .int .i64 (f 2), .int .i64 (f 3), .int .i64 (f 4), .int .i64 (f 5), .int .i64 (f 6), .int .i64 n, .int .i64 d] 44)).alloc (.cells #[.int .i64 (g 0), .int .i64 (g 1), .int .i64 (g 2), .int .i64 (g 3), .int .i64 (g 4), .int .i64 (g 5), .int .i64 (g 6), .int .i64 p, .int .i64 q] 44)).alloc (.cells #[.int .i64 a, .int .i64 c] 23) = W0 at *
 have HO := hide hO
 clear hO
 go_upto_region 1 with fail
 refine Rg.region 50 110 (Rg.pick [au [.k (eK f), iv n, iv d], Rg.ai (.int .i64 (xy f n d)), au [.k (eK f), iv n, iv d], Rg.ai (.int .i64 (xy f n d)), Rg.ai (.bool false), Rg.ai (.bool false), au [.k (eK f), iv n, iv d], au [.k (eK g), iv p, iv q], jk [au [.k (eK tm.f), iv tm.n, iv tm.d], Rg.ai (.int .i64 tm.e)], au [.k (eK tm.f), iv tm.n, iv tm.d], Rg.ai (.int .i64 tm.e), aby tm.f tm.n tm.d tm.e, au [.k (eK f), iv n, iv d], au [.k (eK g), iv p, iv q], jk [au [.k (eK tm.f), iv tm.n, iv tm.d], Rg.ai (.int .i64 tm.e)], au [.k (eK tm.f), iv tm.n, iv tm.d], Rg.ai (.int .i64 tm.e), Rg.ai (.bool true), Rg.ai (.bool false), Rg.ai (.bool false), Rg.ai (.bool false), au [.k (eK f), iv n, iv d], au [.k (eK g), iv p, iv q], jk [au [.k (eK td.f), iv td.n, iv td.d], Rg.ai (.int .i64 td.e)], au [.k (eK td.f), iv td.n, iv td.d], Rg.ai (.int .i64 td.e), aby td.f td.n td.d td.e, au [.k (eK f), iv n, iv d], au [.k (eK g), iv p, iv q], jk [au [.k (eK td.f), iv td.n, iv td.d], Rg.ai (.int .i64 td.e)], au [.k (eK td.f), iv td.n, iv td.d], Rg.ai (.int .i64 td.e), Rg.ai (.bool true), Rg.ai (.bool false), Rg.ai (.bool false), Rg.ai (.bool false), au [.k (eK f), iv n, iv d], Rg.ai (.int .i64 m), jk [au [.k (eK tp.f), iv tp.n, iv tp.d], Rg.ai (.int .i64 tp.e)], au [.k (eK tp.f), iv tp.n, iv tp.d], Rg.ai (.int .i64 tp.e), aby tp.f tp.n tp.d tp.e, au [.k (eK f), iv n, iv d], Rg.ai (.int .i64 m), jk [au [.k (eK tp.f), iv tp.n, iv tp.d], Rg.ai (.int .i64 tp.e)], au [.k (eK tp.f), iv tp.n, iv tp.d], Rg.ai (.int .i64 tp.e), Rg.ai (.bool true), Rg.ai (.bool false), Rg.ai (.bool false)]) (az w _ W0) dm [] kr kr rfl (Rg.df.pick ⟨ay _, Rg.ae _, ay _, Rg.ae _, Rg.ae _, Rg.ae _, ay _, ay _, il ⟨(ay _), (Rg.ae _), trivial⟩, ay _, Rg.ae _, Xe, ay _, ay _, il ⟨(ay _), (Rg.ae _), trivial⟩, ay _, Rg.ae _, Rg.ae _, Rg.ae _, Rg.ae _, Rg.ae _, ay _, ay _, il ⟨(ay _), (Rg.ae _), trivial⟩, ay _, Rg.ae _, Xe, ay _, ay _, il ⟨(ay _), (Rg.ae _), trivial⟩, ay _, Rg.ae _, Rg.ae _, Rg.ae _, Rg.ae _, Rg.ae _, ay _, Rg.ae _, il ⟨(ay _), (Rg.ae _), trivial⟩, ay _, Rg.ae _, Xe, ay _, Rg.ae _, il ⟨(ay _), (Rg.ae _), trivial⟩, ay _, Rg.ae _, Rg.ae _, Rg.ae _, Rg.ae _, trivial⟩) (az.start (aa HO))
  (ag (fw jb ru aF [] [.k (eK f), iv n, iv d] [])
  (ag (sc1 Tryz.func30 (aT 0) (fun W v0 hG h0 => Ku W ((aa HT).below hG.bel) _ h0))
  (ag (fw jb ru aF [] [.k (eK f), iv n, iv d] [])
  (ag (sc1 Tryz.func31 (aT 2) (fun W v0 hG h0 => Dg W _ h0))
  (ag (mq rfl (aT 1) (aT 3) rfl (bne_self_eq_false _))
  (ag (cz rfl (aT 4))
  (Rg.cu (Rg.ek (d := 20) rfl kr rfl (fw jb ru aF [] [.k (eK f), iv n, iv d] []))
  (Rg.cu (Rg.ek (d := 20) rfl kr rfl (fw jb mf aF [] [.k (eK g), iv p, iv q] []))
  (Rg.cu (Rg.ek (d := 20) rfl kr rfl (yz Tryz.func33 kr rfl az.step (aT 6) (aT 7) (fun W v0 v1 hG h0 h1 => (aa HM) ▸ bfl W ((aa HT).below hG.bel) _ h0 _ h1)))
  (Rg.cu (Rg.ek (d := 20) rfl kr rfl (iy (ts := [au [.k (eK tm.f), iv tm.n, iv tm.d], Rg.ai (.int .i64 tm.e)]) rfl (aT 8) (of_decide_eq_true rfl) rfl))
  (Rg.cu (Rg.ek (d := 20) rfl kr rfl (iy (ts := [au [.k (eK tm.f), iv tm.n, iv tm.d], Rg.ai (.int .i64 tm.e)]) rfl (aT 8) (of_decide_eq_true rfl) rfl))
  (Rg.cu (Rg.ek (d := 20) rfl kr rfl (yz Tryz.func32 kr rfl az.step (aT 9) (aT 10) (fun W v0 v1 hG h0 h1 => anb W _ h0 _ h1)))
  (Rg.cu (Rg.ek (d := 20) rfl kr rfl (fw jb ru aF [] [.k (eK f), iv n, iv d] []))
  (Rg.cu (Rg.ek (d := 20) rfl kr rfl (fw jb mf aF [] [.k (eK g), iv p, iv q] []))
  (Rg.cu (Rg.ek (d := 20) rfl kr rfl (yz Tryz.func34 kr rfl az.step (aT 12) (aT 13) (fun W v0 v1 hG h0 h1 => (aa HM) ▸ ban W _ h0 _ h1)))
  (Rg.cu (Rg.ek (d := 20) rfl kr rfl (iy (ts := [au [.k (eK tm.f), iv tm.n, iv tm.d], Rg.ai (.int .i64 tm.e)]) rfl (aT 14) (of_decide_eq_true rfl) rfl))
  (Rg.cu (Rg.ek (d := 20) rfl kr rfl (iy (ts := [au [.k (eK tm.f), iv tm.n, iv tm.d], Rg.ai (.int .i64 tm.e)]) rfl (aT 14) (of_decide_eq_true rfl) rfl))
  (Rg.cu (Rg.ek (d := 20) rfl kr rfl (aay rfl az.step (aT 11) (aT 15) (aT 16) rfl))
  (Rg.cu (Rg.ek (d := 20) rfl kr rfl (uf rfl (aT 17) rfl rfl))
  (ag (qb rfl (aT 5) (aT 18))
  (ag (cz rfl (aT 19))
  (Rg.cu (Rg.ek (d := 35) rfl kr rfl (fw jb ru aF [] [.k (eK f), iv n, iv d] []))
  (Rg.cu (Rg.ek (d := 35) rfl kr rfl (fw jb mf aF [] [.k (eK g), iv p, iv q] []))
  (Rg.cu (Rg.ek (d := 35) rfl kr rfl (yz Tryz.func35 kr rfl az.step (aT 21) (aT 22) (fun W v0 v1 hG h0 h1 => (aa HD) ▸ bfn W ((aa HT).below hG.bel) _ h0 _ h1)))
  (Rg.cu (Rg.ek (d := 35) rfl kr rfl (iy (ts := [au [.k (eK td.f), iv td.n, iv td.d], Rg.ai (.int .i64 td.e)]) rfl (aT 23) (of_decide_eq_true rfl) rfl))
  (Rg.cu (Rg.ek (d := 35) rfl kr rfl (iy (ts := [au [.k (eK td.f), iv td.n, iv td.d], Rg.ai (.int .i64 td.e)]) rfl (aT 23) (of_decide_eq_true rfl) rfl))
  (Rg.cu (Rg.ek (d := 35) rfl kr rfl (yz Tryz.func32 kr rfl az.step (aT 24) (aT 25) (fun W v0 v1 hG h0 h1 => anb W _ h0 _ h1)))
  (Rg.cu (Rg.ek (d := 35) rfl kr rfl (fw jb ru aF [] [.k (eK f), iv n, iv d] []))
  (Rg.cu (Rg.ek (d := 35) rfl kr rfl (fw jb mf aF [] [.k (eK g), iv p, iv q] []))
  (Rg.cu (Rg.ek (d := 35) rfl kr rfl (yz Tryz.func36 kr rfl az.step (aT 27) (aT 28) (fun W v0 v1 hG h0 h1 => (aa HD) ▸ bap W _ h0 _ h1)))
  (Rg.cu (Rg.ek (d := 35) rfl kr rfl (iy (ts := [au [.k (eK td.f), iv td.n, iv td.d], Rg.ai (.int .i64 td.e)]) rfl (aT 29) (of_decide_eq_true rfl) rfl))
  (Rg.cu (Rg.ek (d := 35) rfl kr rfl (iy (ts := [au [.k (eK td.f), iv td.n, iv td.d], Rg.ai (.int .i64 td.e)]) rfl (aT 29) (of_decide_eq_true rfl) rfl))
  (Rg.cu (Rg.ek (d := 35) rfl kr rfl (aay rfl az.step (aT 26) (aT 30) (aT 31) rfl))
  (Rg.cu (Rg.ek (d := 35) rfl kr rfl (uf rfl (aT 32) rfl rfl))
  (ag (qb rfl (aT 20) (aT 33))
  (ag (cz rfl (aT 34))
  (Rg.cu (Rg.ek (d := 50) rfl kr rfl (fw jb ru aF [] [.k (eK f), iv n, iv d] []))
  (Rg.cu (Rg.ek (d := 50) rfl kr rfl (cz rfl aF))
  (Rg.cu (Rg.ek (d := 50) rfl kr rfl (yz Tryz.func37 kr rfl az.step (aT 36) (aT 37) (fun W v0 v1 hG h0 h1 => by cases h1; exact (aa HP) ▸ avu W ((aa HT).below hG.bel) _ h0)))
  (Rg.cu (Rg.ek (d := 50) rfl kr rfl (iy (ts := [au [.k (eK tp.f), iv tp.n, iv tp.d], Rg.ai (.int .i64 tp.e)]) rfl (aT 38) (of_decide_eq_true rfl) rfl))
  (Rg.cu (Rg.ek (d := 50) rfl kr rfl (iy (ts := [au [.k (eK tp.f), iv tp.n, iv tp.d], Rg.ai (.int .i64 tp.e)]) rfl (aT 38) (of_decide_eq_true rfl) rfl))
  (Rg.cu (Rg.ek (d := 50) rfl kr rfl (yz Tryz.func32 kr rfl az.step (aT 39) (aT 40) (fun W v0 v1 hG h0 h1 => anb W _ h0 _ h1)))
  (Rg.cu (Rg.ek (d := 50) rfl kr rfl (fw jb ru aF [] [.k (eK f), iv n, iv d] []))
  (Rg.cu (Rg.ek (d := 50) rfl kr rfl (cz rfl aF))
  (Rg.cu (Rg.ek (d := 50) rfl kr rfl (yz Tryz.func38 kr rfl az.step (aT 42) (aT 43) (fun W v0 v1 hG h0 h1 => by cases h1; exact (aa HP) ▸ ari W _ h0)))
  (Rg.cu (Rg.ek (d := 50) rfl kr rfl (iy (ts := [au [.k (eK tp.f), iv tp.n, iv tp.d], Rg.ai (.int .i64 tp.e)]) rfl (aT 44) (of_decide_eq_true rfl) rfl))
  (Rg.cu (Rg.ek (d := 50) rfl kr rfl (iy (ts := [au [.k (eK tp.f), iv tp.n, iv tp.d], Rg.ai (.int .i64 tp.e)]) rfl (aT 44) (of_decide_eq_true rfl) rfl))
  (Rg.cu (Rg.ek (d := 50) rfl kr rfl (aay rfl az.step (aT 41) (aT 45) (aT 46) rfl))
  (Rg.cu (Rg.ek (d := 50) rfl kr rfl (uf rfl (aT 47) rfl rfl))
  (ag (qb rfl (aT 35) (aT 48))
  Rg.bf)))))))))))))))))))))))))))))))))))))))))))))))))) ?_
 intro v1 V1 hG1 hv1 hne1
 simp only [Rg.puts, Act.put, tA]
 have e49 : v1 49 = .bool false := hv1 49 de
 simp only [e49]
 have hO := hG1.1
 clear HO
 have HO := hide hO
 clear hO hG1 hv1 hne1
 try clear e49
 go_upto_region 3 with fail
 refine Rg.bg 8 110 (Rg.pick [au [.k (eK f), iv n, iv d], au [.k (eK g), iv p, iv q], jk [Rg.ai (.bool lb), Rg.ai (.int .i64 le)], jk [Rg.ai (.bool lb), Rg.ai (.int .i64 le)], Rg.ai (.bool lb), Rg.ai (.int .i64 le), Rg.ai (.bool lb), Rg.ai (.int .i64 le)]) (az w _ V1) dm [] kr rfl (Rg.df.pick ⟨ay _, ay _, il ⟨(Rg.ae _), (Rg.ae _), trivial⟩, il ⟨(Rg.ae _), (Rg.ae _), trivial⟩, Rg.ae _, Rg.ae _, Rg.ae _, Rg.ae _, trivial⟩) (az.begin (aa HO))
  (ag (fw jb ru aF [] [.k (eK f), iv n, iv d] [])
  (ag (fw jb mf aF [] [.k (eK g), iv p, iv q] [])
  (ag (sc2 Tryz.func39 (aT 0) (aT 1) (fun W v0 v1 hG h0 h1 => (aa HL).1 ▸ (aa HL).2 ▸ aac W ((aa HT).below hG.bel) _ h0 _ h1))
  (ag (cz rfl (aT 2))
  (ag (iy (ts := [Rg.ai (.bool lb), Rg.ai (.int .i64 le)]) rfl (aT 3) (of_decide_eq_true rfl) rfl)
  (ag (iy (ts := [Rg.ai (.bool lb), Rg.ai (.int .i64 le)]) rfl (aT 3) (of_decide_eq_true rfl) rfl)
  (ag (ib rfl (aT 4))
  (ag (ib rfl (aT 5))
  Rg.bf)))))))) ?_
 intro v2 V2 hG2 hv2 hne2
 simp only [Rg.puts, Act.put, tA]
 have e4 : v2 4 = .bool lb := hv2 4 de
 have e5 : v2 5 = .int .i64 le := hv2 5 de
 have e6 : v2 6 = .bool lb := hv2 6 de
 have e7 : v2 7 = .int .i64 le := hv2 7 de
 simp only [e4, e5, e6, e7]
 have hO := hG2.1
 clear HO
 have HO := hide hO
 clear hO hG2 hv2 hne2
 try clear e4 e5 e6 e7
 go_upto_region 4 with fail
 refine Rg.bg 8 110 (Rg.pick [au [.k (eK f), iv n, iv d], au [.k (eK g), iv p, iv q], jk [Rg.ai (.bool lb), Rg.ai (.int .i64 le)], jk [Rg.ai (.bool lb), Rg.ai (.int .i64 le)], Rg.ai (.bool lb), Rg.ai (.int .i64 le), Rg.ai (.bool lb), Rg.ai (.int .i64 le)]) (az w _ V2) dm [] kr rfl (Rg.df.pick ⟨ay _, ay _, il ⟨(Rg.ae _), (Rg.ae _), trivial⟩, il ⟨(Rg.ae _), (Rg.ae _), trivial⟩, Rg.ae _, Rg.ae _, Rg.ae _, Rg.ae _, trivial⟩) (az.begin (aa HO))
  (ag (fw jb ru aF [] [.k (eK f), iv n, iv d] [])
  (ag (fw jb mf aF [] [.k (eK g), iv p, iv q] [])
  (ag (sc2 Tryz.func40 (aT 0) (aT 1) (fun W v0 v1 hG h0 h1 => (aa HL).1 ▸ (aa HL).2 ▸ bao W _ h0 _ h1))
  (ag (cz rfl (aT 2))
  (ag (iy (ts := [Rg.ai (.bool lb), Rg.ai (.int .i64 le)]) rfl (aT 3) (of_decide_eq_true rfl) rfl)
  (ag (iy (ts := [Rg.ai (.bool lb), Rg.ai (.int .i64 le)]) rfl (aT 3) (of_decide_eq_true rfl) rfl)
  (ag (ib rfl (aT 4))
  (ag (ib rfl (aT 5))
  Rg.bf)))))))) ?_
 intro v3 V3 hG3 hv3 ja
 simp only [Rg.puts, Act.put, tA]
 have e4 : v3 4 = .bool lb := hv3 4 de
 have e5 : v3 5 = .int .i64 le := hv3 5 de
 have e6 : v3 6 = .bool lb := hv3 6 de
 have e7 : v3 7 = .int .i64 le := hv3 7 de
 simp only [e4, e5, e6, e7]
 have hO := hG3.1
 clear HO
 have HO := hide hO
 clear hO hG3 hv3 ja
 try clear e4 e5 e6 e7
 go_upto_region 5 with fail
 refine Rg.bg 8 110 (Rg.pick [Rg.ai (.bool lb), Rg.ai (.bool lb), Rg.ai (.bool false), Rg.ai (.bool false), Rg.ai (.int .i64 le), Rg.ai (.int .i64 le), Rg.ai (.bool false), Rg.ai (.bool false)]) (az w _ V3) dm [] kr rfl (Rg.df.pick ⟨Rg.ae _, Rg.ae _, Rg.ae _, Rg.ae _, Rg.ae _, Rg.ae _, Rg.ae _, Rg.ae _, trivial⟩) (az.begin (aa HO))
  (ag (cz rfl aF)
  (ag (cz rfl aF)
  (ag (bcd rfl (aT 0) (aT 1) rfl (bne_self_eq_false _))
  (ag (cz rfl (aT 2))
  (Rg.cu (Rg.ek (d := 80) rfl kr rfl (cz rfl aF))
  (Rg.cu (Rg.ek (d := 80) rfl kr rfl (cz rfl aF))
  (Rg.cu (Rg.ek (d := 80) rfl kr rfl (mq rfl (aT 4) (aT 5) rfl (bne_self_eq_false _)))
  (ag (qb rfl (aT 3) (aT 6))
  Rg.bf)))))))) ?_
 intro v4 V4 hG4 hv4 mo
 simp only [Rg.puts, Act.put, tA]
 have e7 : v4 7 = .bool false := hv4 7 de
 simp only [e7]
 have hO := hG4.1
 clear HO
 have HO := hide hO
 clear hO hG4 hv4 mo
 try clear e7
 go_upto_region 7 with fail
 refine Rg.bg 8 110 (Rg.pick [au [iv a, iv c], au [.k (eK f), iv n, iv d], au [.k (eK g), iv p, iv q], jk [au [iv tc.n, iv tc.d], Rg.ai (.int .i64 tc.e)], jk [au [iv tc.n, iv tc.d], Rg.ai (.int .i64 tc.e)], au [iv tc.n, iv tc.d], Rg.ai (.int .i64 tc.e), nk 23 zR V4.heap.size]) (az w _ V4) dm [7] kr rfl (Rg.df.pick ⟨ay _, ay _, ay _, il ⟨(ay _), (Rg.ae _), trivial⟩, il ⟨(ay _), (Rg.ae _), trivial⟩, ay _, Rg.ae _, og _ _ _, trivial⟩) (az.begin (aa HO))
  (ag (fw qi me0 aF [] [iv a, iv c] [])
  (ag (fw jb ru aF [] [.k (eK f), iv n, iv d] [])
  (ag (fw jb mf aF [] [.k (eK g), iv p, iv q] [])
  (ag (sc3 Tryz.func41 (aT 0) (aT 1) (aT 2) (fun W v0 v1 v2 hG h0 h1 h2 => (aa HC) ▸ bas W ((aa HT).below hG.bel) _ h0 _ h1 _ h2))
  (ag (cz rfl (aT 3))
  (ag (iy (ts := [au [iv tc.n, iv tc.d], Rg.ai (.int .i64 tc.e)]) rfl (aT 4) (of_decide_eq_true rfl) rfl)
  (ag (iy (ts := [au [iv tc.n, iv tc.d], Rg.ai (.int .i64 tc.e)]) rfl (aT 4) (of_decide_eq_true rfl) rfl)
  (ag (qd Gy rfl az.step az.size rfl (rq (by intro j hj; simp at hj; (repeat' (first | (rcases hj with rfl | hj))) <;> first | (subst hj; exact ⟨_, _, _, rfl⟩) | exact ⟨_, _, _, rfl⟩)))
  Rg.bf)))))))) ?_
 intro v5 V5 wy hv5 hne5
 simp only [Rg.puts, Act.put, tA]
 have e6 : v5 6 = .int .i64 tc.e := hv5 6 de
 obtain ⟨bfq, e7, Iq, Og⟩ := (show nk 23 zR V4.heap.size V5 (v5 7) from hv5 7 de)
 simp only [e6, e7]
 have hO := wy.1
 replace hO := Own.add (aa HO) wy.2 Iq Og
 clear Iq Og
 refine ji hO 0 [] zR [iv tc.n, iv tc.d] [] rfl uq rfl (show au [iv tc.n, iv tc.d] V5 (v5 5) from hv5 5 de) rfl rfl rfl ?_
 intro Er fu hk0
 replace hO := fu
 clear fu
 clear HO
 have HO := hide hO
 clear hO wy hv5 hne5 hk0
 try clear e6 e7
 go_upto_region 8 with fail
 refine Rg.bg 8 110 (Rg.pick [au [iv a, iv c], au [.k (eK f), iv n, iv d], au [.k (eK g), iv p, iv q], jk [au [iv tc.n, iv tc.d], Rg.ai (.int .i64 tc.e)], jk [au [iv tc.n, iv tc.d], Rg.ai (.int .i64 tc.e)], au [iv tc.n, iv tc.d], Rg.ai (.int .i64 tc.e), nk 23 zR Er.heap.size]) (az w _ Er) dm [7] kr rfl (Rg.df.pick ⟨ay _, ay _, ay _, il ⟨(ay _), (Rg.ae _), trivial⟩, il ⟨(ay _), (Rg.ae _), trivial⟩, ay _, Rg.ae _, og _ _ _, trivial⟩) (az.begin (aa HO))
  (ag (fw qi mf aF [] [iv a, iv c] [])
  (ag (fw jb Gh aF [] [.k (eK f), iv n, iv d] [])
  (ag (fw jb ru aF [] [.k (eK g), iv p, iv q] [])
  (ag (sc3 Tryz.func42 (aT 0) (aT 1) (aT 2) (fun W v0 v1 v2 hG h0 h1 h2 => (aa HC) ▸ avs W _ h0 _ h1 _ h2))
  (ag (cz rfl (aT 3))
  (ag (iy (ts := [au [iv tc.n, iv tc.d], Rg.ai (.int .i64 tc.e)]) rfl (aT 4) (of_decide_eq_true rfl) rfl)
  (ag (iy (ts := [au [iv tc.n, iv tc.d], Rg.ai (.int .i64 tc.e)]) rfl (aT 4) (of_decide_eq_true rfl) rfl)
  (ag (qd Gy rfl az.step az.size rfl (rq (by intro j hj; simp at hj; (repeat' (first | (rcases hj with rfl | hj))) <;> first | (subst hj; exact ⟨_, _, _, rfl⟩) | exact ⟨_, _, _, rfl⟩)))
  Rg.bf)))))))) ?_
 intro v6 V6 Eu hv6 Jp
 simp only [Rg.puts, Act.put, tA]
 have e6 : v6 6 = .int .i64 tc.e := hv6 6 de
 obtain ⟨bmy, e7, Iq, Og⟩ := (show nk 23 zR Er.heap.size V6 (v6 7) from hv6 7 de)
 simp only [e6, e7]
 have hO := Eu.1
 replace hO := Own.add (aa HO) Eu.2 Iq Og
 clear Iq Og
 refine ji hO 0 [] zR [iv tc.n, iv tc.d] [] rfl uq rfl (show au [iv tc.n, iv tc.d] V6 (v6 5) from hv6 5 de) rfl rfl rfl ?_
 intro Yg fu hk0
 replace hO := fu
 clear fu
 clear HO
 have HO := hide hO
 clear hO Eu hv6 Jp hk0
 try clear e6 e7
 go_upto_region 9 with fail
 refine Rg.bg 12 110 (Rg.pick [au [iv tc.n, iv tc.d], au [iv tc.n, iv tc.d], Rg.ai (.bool true), Rg.ai (.bool true), Rg.ai (.int .i64 tc.e), Rg.ai (.int .i64 tc.e), Rg.ai (.bool true), Rg.ai (.bool true), Rg.ai (.bool true), Rg.ai (.bool true), Rg.ai (.bool true), Rg.ai (.bool true)]) (az w _ Yg) dm [] kr rfl (Rg.df.pick ⟨ay _, ay _, Rg.ae _, Rg.ae _, Rg.ae _, Rg.ae _, Rg.ae _, Rg.ae _, Rg.ae _, Rg.ae _, Rg.ae _, Rg.ae _, trivial⟩) (az.begin (aa HO))
  (ag (fw qi mf aF [] [iv tc.n, iv tc.d] [])
  (ag (fw qi me0 aF [] [iv tc.n, iv tc.d] [])
  (ag (bcj rfl (aT 0) (aT 1) (by simp) rfl)
  (ag (cz rfl (aT 2))
  (Rg.cu (Rg.ek (d := 102) rfl kr rfl (cz rfl aF))
  (Rg.cu (Rg.ek (d := 102) rfl kr rfl (cz rfl aF))
  (Rg.cu (Rg.ek (d := 102) rfl kr rfl (Tq rfl (aT 4) (aT 5) rfl (beq_self_eq_true _)))
  (ag (xz rfl (aT 3) (aT 6))
  (ag (cz rfl (aT 7))
  (Rg.cu (Rg.ek (d := 107) rfl kr rfl (Pk Tryz.func43 kr rfl az.step  (fun W  hG  => (aa HK) W ((aa HT).below hG.bel))))
  (ag (xz rfl (aT 8) (aT 9))
  (ag (ib rfl (aT 10))
  Rg.bf)))))))))))) ?_
 intro v7 V7 Na hv7 Rs
 simp only [Rg.puts, Act.put, tA]
 have e10 : v7 10 = .bool true := hv7 10 de
 have e11 : v7 11 = .bool true := hv7 11 de
 simp only [e10, e11]
 have hO := Na.1
 clear HO
 have HO := hide hO
 clear hO Na hv7 Rs
 try clear e10 e11
 go_wp2_with fail
 exact yu Tryz.results7 rfl (aa HO).bel rfl
end Sb

end Go.Proofs.YtfgeaakhlcaibaaGreatDoor
