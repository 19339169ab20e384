/- Texts beneath a law of layer 1. -/
import Derived.Test.YtjdnmdlnaoedoaaGreatDoorCu12
set_option maxRecDepth 100000
set_option maxHeartbeats 16000000
namespace Go.Proofs.YtjdnmdlnaoedoaaGreatDoor
open Go.RowKit

namespace Sb
theorem _root_.Go.Proofs.YtjdnmdlnaoedoaaGreatDoor.sc4 {P : Program} {Q : Exit → Act → World → Prop} {l : List Oper} {n : Nat} {T : Nat → World → Value → Prop} {w V : World} {bs : List Sb.za} {al : List Nat} {a0 : Act} {k F d : Nat} {fn : Func} {ats : Array TypeId} {ty : TypeId} {pos : String} {af : Array Edge} {gd : Option (Nat × Bool)} {x1 x2 x3 x4 : Operand} {A1 A2 A3 A4 : World → Value → Prop} (hF : P.funcs[F]? = some fn) (h1 : Rg.ji l n T a0 k x1 A1) (h2 : Rg.ji l n T a0 k x2 A2) (h3 : Rg.ji l n T a0 k x3 A3) (h4 : Rg.ji l n T a0 k x4 A4) (hc : ∀ (W : World) (v1 v2 v3 v4 : Value), Sb.az w bs V W → A1 W v1 → A2 W v2 → A3 W v3 → A4 W v4 → Calls P F #[v1, v2, v3, v4] W fun e w' => ∃ u, e = .returned u ∧ gm W w' ∧ T k w' u) (hn : (!(fn.name == "runtime.NumGoroutine") && fn.body.isSome) = true := by kernel_rfl) (hal : al.contains k = false := by rfl) :
  Rg.Step P Q l n T (Sb.az w bs V) gm al a0 k { dst := some d, op := .call { callee := .value (.func F), args := #[x1, x2, x3, x4], argTypes := ats }, type := ty, pos := pos, after := af, guard := gd } := ayo hF hn hal Sb.az.step h1 h2 h3 h4 hc
theorem atw {df cz di dh pq pg oz ou : Int} {g : Int} (t : Er) (w : World) (hT : qy w) (u0 : Value) (h0 : ai [iv df, iv cz, iv di, iv dh] w u0) (u1 : Value) (h1 : ai [iv pq, iv pg, iv oz, iv ou] w u1)
  (hc : ∀ (W : World) (v0 v1 : Value), qy W → ai [iv df, iv cz, iv di, iv dh] W v0 → ai [iv pq, iv pg, iv oz, iv ou] W v1 → Calls Tryz.prog 148 #[v0, v1, .int .i64 g, .func (.func 151) #[] #[]] W (il (Im t) W)) :
  Calls Tryz.prog 83 #[u0, u1, .int .i64 g] w (il (Im t) w) := by
 have HC := hide hc
 have HT := hide hT
 clear hc hT
 have hu0 := Bg h0
 subst hu0
 have hu1 := Bg h1
 subst hu1
 go_enter Tryz.func83, Tryz.ntmps83
 go_upto_region 1 with fail
 have hO := (Own.push (T := 41) (ls := zS) (cs := [.int .i64 0, .int .i64 0, .int .i64 0, .int .i64 0]) (Own.push (T := 41) (ls := [iv pq, iv pg, iv oz, iv ou]) (cs := [.int .i64 pq, .int .i64 pg, .int .i64 oz, .int .i64 ou]) (Own.push (T := 41) (ls := [iv df, iv cz, iv di, iv dh]) (cs := [.int .i64 df, .int .i64 cz, .int .i64 di, .int .i64 dh]) (Own.nil w) (gu.v (jm _) (gu.v (jm _) (gu.v (jm _) (gu.v (jm _) rfl)))) (w.heap.size) rfl) (((gu.v (jm _) (gu.v (jm _) (gu.v (jm _) (gu.v (jm _) rfl)))) : gu w [iv pq, iv pg, iv oz, iv ou] [.int .i64 pq, .int .i64 pg, .int .i64 oz, .int .i64 ou]).below (by repeat (first | exact Below.refl _ _ | refine jc ?_ _))) (w.heap.size + 1) (by simp only [World.size_alloc])) (((gu.vs w [.int .i64 0, .int .i64 0, .int .i64 0, .int .i64 0] rfl) : gu w zS [.int .i64 0, .int .i64 0, .int .i64 0, .int .i64 0]).below (by repeat (first | exact Below.refl _ _ | refine jc ?_ _))) (w.heap.size + 2) (by simp only [World.size_alloc]))
 generalize ((w.alloc (.cells #[.int .i64 df, .int .i64 cz, .int .i64 di, .int .i64 dh] 41)).alloc (.cells #[.int .i64 pq, .int .i64 pg, .int .i64 oz, .int .i64 ou] 41)).alloc (.cells #[.int .i64 0, .int .i64 0, .int .i64 0, .int .i64 0] 41) = W0 at *
 have HO := hide hO
 clear hO
 go_upto_region 1 with fail
 refine Rg.dz 6 14 (Rg.pick [ai [iv df, iv cz, iv di, iv dh], ai [iv pq, iv pg, iv oz, iv ou], Rg.ax (.int .i64 g), qa [ai [iv t.a, iv t.b, iv t.c, iv t.d], Rg.ax (.int .i64 t.e)], ai [iv t.a, iv t.b, iv t.c, iv t.d], Rg.ax (.int .i64 t.e)]) (az w _ W0) gm [] kr rfl (Rg.fq.pick ⟨au _, au _, Rg.ae _, ko ⟨(au _), (Rg.ae _), trivial⟩, au _, Rg.ae _, trivial⟩) (az.begin (aa HO))
  (ag (fw oh rf aF [] [iv df, iv cz, iv di, iv dh] [])
  (ag (fw oh ky aF [] [iv pq, iv pg, iv oz, iv ou] [])
  (ag (dm rfl aF)
  (ag (sc4 Tryz.func148 (aT 0) (aT 1) (aT 2) (bgs _) (fun W v0 v1 v2 v3 hG h0 h1 h2 h3 => by cases h2; cases h3; exact aa HC W v0 v1 ((aa HT).below hG.bel) h0 h1))
  (ag (ma (ts := [ai [iv t.a, iv t.b, iv t.c, iv t.d], Rg.ax (.int .i64 t.e)]) rfl (aT 3) (of_decide_eq_true rfl) rfl)
  (ag (ma (ts := [ai [iv t.a, iv t.b, iv t.c, iv t.d], Rg.ax (.int .i64 t.e)]) rfl (aT 3) (of_decide_eq_true rfl) rfl)
  Rg.bg)))))) ?_
 intro v1 V1 hG1 hv1 hne1
 simp only [Rg.puts, Act.put, tA]
 have e5 : v1 5 = .int .i64 t.e := hv1 5 (by decide)
 simp only [e5]
 have hO := hG1.1
 refine jd hO 0 [] zS [iv t.a, iv t.b, iv t.c, iv t.d] [] rfl mg rfl (show ai [iv t.a, iv t.b, iv t.c, iv t.d] V1 (v1 4) from hv1 4 (by decide)) rfl rfl rfl ?_
 intro uo gy hk0
 replace hO := gy
 clear gy
 clear HO
 have HO := hide hO
 clear hO hG1 hv1 hne1 hk0
 try clear e5
 go_wp2_with fail
 exact yz Tryz.results83 qg rfl rfl (aa HO) me0 rfl rfl
end Sb

end Go.Proofs.YtjdnmdlnaoedoaaGreatDoor
namespace Go.Proofs.YtjdnmdlnaoedoaaGreatDoor
open Go.RowKit

namespace Sb
theorem aji {df cz di dh : Int} (h : nk df cz di dh = 0) : xy df cz di dh := by
 unfold nk at h
 split at h
 ·
  assumption
 ·
  omega
theorem ajc {df cz di dh : Int} (s1 s2 s3 s4 s5 s6 s7 s8 se : Int) (w : World) (hT : qy w) (u0 : Value) (h0 : ai [iv df, iv cz, iv di, iv dh] w u0)
  (hr : (nk df cz di dh ≠ 0 → s1 = 0 ∧ s2 = 0 ∧ s3 = 0 ∧ s4 = 0 ∧ s5 = 0 ∧ s6 = 0 ∧ s7 = 0 ∧ s8 = 0 ∧ nk df cz di dh = se) ∧ (nk df cz di dh = 0 → ((Wd.told (((Wd.qR df cz) + (Wd.qR di dh)) / Rat.divInt 2 1)).e ≠ 0 → s1 = 0 ∧ s2 = 0 ∧ s3 = 0 ∧ s4 = 0 ∧ s5 = 0 ∧ s6 = 0 ∧ s7 = 0 ∧ s8 = 0 ∧ (Wd.told (((Wd.qR df cz) + (Wd.qR di dh)) / Rat.divInt 2 1)).e = se) ∧ ((Wd.told (((Wd.qR df cz) + (Wd.qR di dh)) / Rat.divInt 2 1)).e = 0 → df = s1 ∧ cz = s2 ∧ (Wd.told (((Wd.qR df cz) + (Wd.qR di dh)) / Rat.divInt 2 1)).n = s3 ∧ (Wd.told (((Wd.qR df cz) + (Wd.qR di dh)) / Rat.divInt 2 1)).d = s4 ∧ (Wd.told (((Wd.qR df cz) + (Wd.qR di dh)) / Rat.divInt 2 1)).n = s5 ∧ (Wd.told (((Wd.qR df cz) + (Wd.qR di dh)) / Rat.divInt 2 1)).d = s6 ∧ di = s7 ∧ dh = s8 ∧ se = 0))) :
  Calls Tryz.prog 35 #[u0] w (il (qa [ai [.v (.int .i64 s1), .v (.int .i64 s2), .v (.int .i64 s3), .v (.int .i64 s4)], ai [.v (.int .i64 s5), .v (.int .i64 s6), .v (.int .i64 s7), .v (.int .i64 s8)], Rg.ax (.int .i64 se)]) w) := by
 have HR := hide hr
 have HT := hide hT
 clear hr hT
 have hu0 := Bg h0
 subst hu0
 go_enter Tryz.func35, Tryz.ntmps35
 go_upto_region 1 with fail
 have hO := (Own.push (T := 41) (ls := zS) (cs := [.int .i64 0, .int .i64 0, .int .i64 0, .int .i64 0]) (Own.push (T := 41) (ls := zS) (cs := [.int .i64 0, .int .i64 0, .int .i64 0, .int .i64 0]) (Own.push (T := 41) (ls := [iv df, iv cz, iv di, iv dh]) (cs := [.int .i64 df, .int .i64 cz, .int .i64 di, .int .i64 dh]) (Own.nil w) (gu.v (jm _) (gu.v (jm _) (gu.v (jm _) (gu.v (jm _) rfl)))) (w.heap.size) rfl) (((gu.vs w [.int .i64 0, .int .i64 0, .int .i64 0, .int .i64 0] rfl) : gu w zS [.int .i64 0, .int .i64 0, .int .i64 0, .int .i64 0]).below (by repeat (first | exact Below.refl _ _ | refine jc ?_ _))) (w.heap.size + 1) (by simp only [World.size_alloc])) (((gu.vs w [.int .i64 0, .int .i64 0, .int .i64 0, .int .i64 0] rfl) : gu w zS [.int .i64 0, .int .i64 0, .int .i64 0, .int .i64 0]).below (by repeat (first | exact Below.refl _ _ | refine jc ?_ _))) (w.heap.size + 2) (by simp only [World.size_alloc]))
 generalize ((w.alloc (.cells #[.int .i64 df, .int .i64 cz, .int .i64 di, .int .i64 dh] 41)).alloc (.cells #[.int .i64 0, .int .i64 0, .int .i64 0, .int .i64 0] 41)).alloc (.cells #[.int .i64 0, .int .i64 0, .int .i64 0, .int .i64 0] 41) = W0 at *
 have HO := hide hO
 clear hO
 go_upto_region 1 with fail
 refine Rg.dz 3 35 (Rg.pick [ai [iv df, iv cz, iv di, iv dh], Rg.ax (.int .i64 (nk df cz di dh)), Rg.ax (.int .i64 (nk df cz di dh))]) (az w _ W0) gm [] kr rfl (Rg.fq.pick ⟨au _, Rg.ae _, Rg.ae _, trivial⟩) (az.begin (aa HO))
  (ag (fw oh rf aF [] [iv df, iv cz, iv di, iv dh] [])
  (ag (sc1 Tryz.func31 (aT 0) (fun W v0 hG h0 => Wh W ((aa HT).below hG.bel) _ h0))
  (ag (nz rfl (aT 1))
  Rg.bg))) ?_
 intro v1 V1 hG1 hv1 hne1
 simp only [Rg.puts, Act.put, tA]
 have e1 : v1 1 = .int .i64 (nk df cz di dh) := hv1 1 (by decide)
 have e2 : v1 2 = .int .i64 (nk df cz di dh) := hv1 2 (by decide)
 simp only [e1, e2]
 have hO := hG1.1
 clear HO
 have HO := hide hO
 clear hO hG1 hv1 hne1
 try clear e1 e2
 by_cases g0 : nk df cz di dh = 0
 ·
  have k1 : (nk df cz di dh != 0) = false := by simp [bne, beq_iff_eq.2 g0]
  have HR2 := hide ((aa HR).2 g0)
  have HQ := hide (aji g0)
  clear HR
  go_upto_region 2 with fail
  refine Rg.dz 2 35 (Rg.pick [Rg.ax (.int .i64 (nk df cz di dh)), Rg.ax (.bool false)]) (az w _ V1) gm [] kr rfl (Rg.fq.pick ⟨Rg.ae _, Rg.ae _, trivial⟩) (az.begin (aa HO))
   (ag (dm rfl aF)
   (ag (Au rfl (aT 0) (Rg.je _) rfl k1)
   Rg.bg)) ?_
  intro v2 V2 hG2 hv2 hne2
  simp only [Rg.puts, Act.put, tA]
  have e1 : v2 1 = .bool false := hv2 1 (by decide)
  simp only [e1]
  have hO := hG2.1
  clear HO
  have HO := hide hO
  clear hO hG2 hv2 hne2
  try clear e1
  clear k1 g0
  go_upto_region 4 with fail
  refine Rg.dz 8 35 (Rg.pick [ai [iv df, iv cz, iv di, iv dh], ai [.q (Wd.qR df cz), .q (Wd.qR di dh)], ai [.q (((Wd.qR df cz) + (Wd.qR di dh)) / Rat.divInt 2 1)], qa [ai [iv (Wd.told (((Wd.qR df cz) + (Wd.qR di dh)) / Rat.divInt 2 1)).n, iv (Wd.told (((Wd.qR df cz) + (Wd.qR di dh)) / Rat.divInt 2 1)).d], Rg.ax (.int .i64 (Wd.told (((Wd.qR df cz) + (Wd.qR di dh)) / Rat.divInt 2 1)).e)], qa [ai [iv (Wd.told (((Wd.qR df cz) + (Wd.qR di dh)) / Rat.divInt 2 1)).n, iv (Wd.told (((Wd.qR df cz) + (Wd.qR di dh)) / Rat.divInt 2 1)).d], Rg.ax (.int .i64 (Wd.told (((Wd.qR df cz) + (Wd.qR di dh)) / Rat.divInt 2 1)).e)], ai [iv (Wd.told (((Wd.qR df cz) + (Wd.qR di dh)) / Rat.divInt 2 1)).n, iv (Wd.told (((Wd.qR df cz) + (Wd.qR di dh)) / Rat.divInt 2 1)).d], Rg.ax (.int .i64 (Wd.told (((Wd.qR df cz) + (Wd.qR di dh)) / Rat.divInt 2 1)).e), qf 23 zR V2.heap.size]) (az w _ V2) gm [7] kr rfl (Rg.fq.pick ⟨au _, au _, au _, ko ⟨(au _), (Rg.ae _), trivial⟩, ko ⟨(au _), (Rg.ae _), trivial⟩, au _, Rg.ae _, qh _ _ _, trivial⟩) (az.begin (aa HO))
   (ag (fw oh rf aF [] [iv df, iv cz, iv di, iv dh] [])
   (ag (sc1 Tryz.func95 (aT 0) (fun W v0 hG h0 => Wi ⟨(aa HQ).1, (aa HQ).2.1⟩ W _ h0))
   (ag (sc1 Tryz.func101 (aT 1) (fun W v0 hG h0 => avr (Cg (aa HQ).1) (Cg (aa HQ).2.1) om W ((aa HT).below hG.bel) _ h0))
   (ag (sc1 Tryz.func59 (aT 2) (fun W v0 hG h0 => ahs h0))
   (ag (dm rfl (aT 3))
   (ag (ma (ts := [ai [iv (Wd.told (((Wd.qR df cz) + (Wd.qR di dh)) / Rat.divInt 2 1)).n, iv (Wd.told (((Wd.qR df cz) + (Wd.qR di dh)) / Rat.divInt 2 1)).d], Rg.ax (.int .i64 (Wd.told (((Wd.qR df cz) + (Wd.qR di dh)) / Rat.divInt 2 1)).e)]) rfl (aT 4) (of_decide_eq_true rfl) rfl)
   (ag (ma (ts := [ai [iv (Wd.told (((Wd.qR df cz) + (Wd.qR di dh)) / Rat.divInt 2 1)).n, iv (Wd.told (((Wd.qR df cz) + (Wd.qR di dh)) / Rat.divInt 2 1)).d], Rg.ax (.int .i64 (Wd.told (((Wd.qR df cz) + (Wd.qR di dh)) / Rat.divInt 2 1)).e)]) rfl (aT 4) (of_decide_eq_true rfl) rfl)
   (ag (si Hq rfl az.step az.size rfl (uw (by intro j hj; simp at hj; (repeat' (first | (rcases hj with rfl | hj))) <;> first | (subst hj; exact ⟨_, _, _, rfl⟩) | exact ⟨_, _, _, rfl⟩)))
   Rg.bg)))))))) ?_
  intro v3 V3 hG3 hv3 mf
  simp only [Rg.puts, Act.put, tA]
  have e6 : v3 6 = .int .i64 (Wd.told (((Wd.qR df cz) + (Wd.qR di dh)) / Rat.divInt 2 1)).e := hv3 6 (by decide)
  obtain ⟨Rb, e7, Kc, Qo⟩ := (show qf 23 zR V2.heap.size V3 (v3 7) from hv3 7 (by decide))
  simp only [e6, e7]
  have hO := hG3.1
  replace hO := Own.add (aa HO) hG3.2 Kc Qo
  clear Kc Qo
  refine jd hO 0 [] zR [iv (Wd.told (((Wd.qR df cz) + (Wd.qR di dh)) / Rat.divInt 2 1)).n, iv (Wd.told (((Wd.qR df cz) + (Wd.qR di dh)) / Rat.divInt 2 1)).d] [] rfl Di rfl (show ai [iv (Wd.told (((Wd.qR df cz) + (Wd.qR di dh)) / Rat.divInt 2 1)).n, iv (Wd.told (((Wd.qR df cz) + (Wd.qR di dh)) / Rat.divInt 2 1)).d] V3 (v3 5) from hv3 5 (by decide)) rfl rfl rfl ?_
  intro Da gy hk0
  replace hO := gy
  clear gy
  clear HO
  have HO := hide hO
  clear hO hG3 hv3 mf hk0
  try clear e6 e7
  by_cases g1 : (Wd.told (((Wd.qR df cz) + (Wd.qR di dh)) / Rat.divInt 2 1)).e = 0
  ·
   have k2 : ((Wd.told (((Wd.qR df cz) + (Wd.qR di dh)) / Rat.divInt 2 1)).e != 0) = false := by simp [bne, beq_iff_eq.2 g1]
   obtain ⟨h1, h2, h3, h4, h5, h6, h7, h8, rfl⟩ := (aa HR2).2 g1
   clear HR2
   subst h1 h2 h3 h4 h5 h6 h7 h8
   go_upto_region 5 with fail
   refine Rg.dz 2 35 (Rg.pick [Rg.ax (.int .i64 (Wd.told (((Wd.qR df cz) + (Wd.qR di dh)) / Rat.divInt 2 1)).e), Rg.ax (.bool false)]) (az w _ Da) gm [] kr rfl (Rg.fq.pick ⟨Rg.ae _, Rg.ae _, trivial⟩) (az.begin (aa HO))
    (ag (dm rfl aF)
    (ag (Au rfl (aT 0) (Rg.je _) rfl k2)
    Rg.bg)) ?_
   intro v4 V4 hG4 hv4 ry
   simp only [Rg.puts, Act.put, tA]
   have e1 : v4 1 = .bool false := hv4 1 (by decide)
   simp only [e1]
   have hO := hG4.1
   clear HO
   have HO := hide hO
   clear hO hG4 hv4 ry
   try clear e1
   go_upto_region 7 with fail
   refine Rg.region 11 35 (Rg.pick [Rg.ax (.pointer (some ⟨w.heap.size, 0, none⟩)), ai [iv df, iv cz], ai [iv (Wd.told (((Wd.qR df cz) + (Wd.qR di dh)) / Rat.divInt 2 1)).n, iv (Wd.told (((Wd.qR df cz) + (Wd.qR di dh)) / Rat.divInt 2 1)).d], ai [iv df, iv cz, iv (Wd.told (((Wd.qR df cz) + (Wd.qR di dh)) / Rat.divInt 2 1)).n, iv (Wd.told (((Wd.qR df cz) + (Wd.qR di dh)) / Rat.divInt 2 1)).d], ai [iv (Wd.told (((Wd.qR df cz) + (Wd.qR di dh)) / Rat.divInt 2 1)).n, iv (Wd.told (((Wd.qR df cz) + (Wd.qR di dh)) / Rat.divInt 2 1)).d], Rg.ax (.pointer (some ⟨w.heap.size, 2, none⟩)), ai [iv di, iv dh], ai [iv (Wd.told (((Wd.qR df cz) + (Wd.qR di dh)) / Rat.divInt 2 1)).n, iv (Wd.told (((Wd.qR df cz) + (Wd.qR di dh)) / Rat.divInt 2 1)).d, iv di, iv dh], Wo (w.heap.size + 1, 41, [iv df, iv cz, iv (Wd.told (((Wd.qR df cz) + (Wd.qR di dh)) / Rat.divInt 2 1)).n, iv (Wd.told (((Wd.qR df cz) + (Wd.qR di dh)) / Rat.divInt 2 1)).d]), Wo (w.heap.size + 2, 41, [iv (Wd.told (((Wd.qR df cz) + (Wd.qR di dh)) / Rat.divInt 2 1)).n, iv (Wd.told (((Wd.qR df cz) + (Wd.qR di dh)) / Rat.divInt 2 1)).d, iv di, iv dh]), Rg.ax (.int .i64 0)]) (GS w [(Rb, 23, [iv (Wd.told (((Wd.qR df cz) + (Wd.qR di dh)) / Rat.divInt 2 1)).n, iv (Wd.told (((Wd.qR df cz) + (Wd.qR di dh)) / Rat.divInt 2 1)).d]), (w.heap.size + 2, 41, zS), (w.heap.size + 1, 41, zS), (w.heap.size, 41, [iv df, iv cz, iv di, iv dh])] (w.heap.size + 1, 41, [iv df, iv cz, iv (Wd.told (((Wd.qR df cz) + (Wd.qR di dh)) / Rat.divInt 2 1)).n, iv (Wd.told (((Wd.qR df cz) + (Wd.qR di dh)) / Rat.divInt 2 1)).d]) (w.heap.size + 2, 41, [iv (Wd.told (((Wd.qR df cz) + (Wd.qR di dh)) / Rat.divInt 2 1)).n, iv (Wd.told (((Wd.qR df cz) + (Wd.qR di dh)) / Rat.divInt 2 1)).d, iv di, iv dh])) (ES (w.heap.size + 1, 41, [iv df, iv cz, iv (Wd.told (((Wd.qR df cz) + (Wd.qR di dh)) / Rat.divInt 2 1)).n, iv (Wd.told (((Wd.qR df cz) + (Wd.qR di dh)) / Rat.divInt 2 1)).d]) (w.heap.size + 2, 41, [iv (Wd.told (((Wd.qR df cz) + (Wd.qR di dh)) / Rat.divInt 2 1)).n, iv (Wd.told (((Wd.qR df cz) + (Wd.qR di dh)) / Rat.divInt 2 1)).d, iv di, iv dh])) [] kr kr rfl (Rg.fq.pick ⟨(Dk _), (tq _), (tq _), (tq _), (tq _), (Dk _), (tq _), (tq _), (Fq (.inl (by show (w.heap.size + 1 : Nat) ≠ w.heap.size + 2; omega)) (.inl rfl)), (Fq (.inl (by show (w.heap.size + 1 : Nat) ≠ w.heap.size + 2; omega)) (.inr rfl)), (Dk _), trivial⟩) (GS.start (aa HO))
    (Rg.ay (Rg.plain rfl (mq (Cm (b := w.heap.size) (off := 0) rfl aF rfl rfl)))
     (Rg.ay (Rg.plain rfl (mq (xk (b := w.heap.size) (off := 0) (TB := 41) (pre := []) (mid := [iv df, iv cz]) (post := [iv di, iv dh]) xc rfl (aT 0) (fun W h => GS.get Ed (fun h => absurd (show (w.heap.size + 1 : Nat) = w.heap.size from h) (by first | omega | (intro h; exact (own_ne (aa HO) 2 3 rfl rfl (by decide)) h))) (fun h => absurd (show (w.heap.size + 2 : Nat) = w.heap.size from h) (by first | omega | (intro h; exact (own_ne (aa HO) 1 3 rfl rfl (by decide)) h))) h) rfl rfl rfl)))
     (Rg.ay (Rg.plain rfl (mq (xk (b := Rb) (off := 0) (TB := 23) (pre := []) (mid := [iv (Wd.told (((Wd.qR df cz) + (Wd.qR di dh)) / Rat.divInt 2 1)).n, iv (Wd.told (((Wd.qR df cz) + (Wd.qR di dh)) / Rat.divInt 2 1)).d]) (post := []) xc rfl aF (fun W h => GS.get me0 (fun h => absurd (show (w.heap.size + 1 : Nat) = Rb from h) (by first | omega | (intro h; exact (fun h => own_ne (aa HO) 0 2 rfl rfl (by decide) h.symm) h))) (fun h => absurd (show (w.heap.size + 2 : Nat) = Rb from h) (by first | omega | (intro h; exact (fun h => own_ne (aa HO) 0 1 rfl rfl (by decide) h.symm) h))) h) rfl rfl rfl)))
     (Rg.ay (Rg.plain rfl (mq (xx Ht rfl (aT 1) (aT 2) rfl rfl rfl)))
     (Rg.ay (Rg.plain rfl (mq (xk (b := Rb) (off := 0) (TB := 23) (pre := []) (mid := [iv (Wd.told (((Wd.qR df cz) + (Wd.qR di dh)) / Rat.divInt 2 1)).n, iv (Wd.told (((Wd.qR df cz) + (Wd.qR di dh)) / Rat.divInt 2 1)).d]) (post := []) xc rfl aF (fun W h => GS.get me0 (fun h => absurd (show (w.heap.size + 1 : Nat) = Rb from h) (by first | omega | (intro h; exact (fun h => own_ne (aa HO) 0 2 rfl rfl (by decide) h.symm) h))) (fun h => absurd (show (w.heap.size + 2 : Nat) = Rb from h) (by first | omega | (intro h; exact (fun h => own_ne (aa HO) 0 1 rfl rfl (by decide) h.symm) h))) h) rfl rfl rfl)))
     (Rg.ay (Rg.plain rfl (mq (Dc (b := w.heap.size) (off := 0) rfl aF rfl rfl)))
     (Rg.ay (Rg.plain rfl (mq (xk (b := w.heap.size) (off := 2) (TB := 41) (pre := [iv df, iv cz]) (mid := [iv di, iv dh]) (post := []) xc rfl (aT 5) (fun W h => GS.get Ed (fun h => absurd (show (w.heap.size + 1 : Nat) = w.heap.size from h) (by first | omega | (intro h; exact (own_ne (aa HO) 2 3 rfl rfl (by decide)) h))) (fun h => absurd (show (w.heap.size + 2 : Nat) = w.heap.size from h) (by first | omega | (intro h; exact (own_ne (aa HO) 1 3 rfl rfl (by decide)) h))) h) rfl rfl rfl)))
     (Rg.ay (Rg.plain rfl (mq (xx Ht rfl (aT 4) (aT 6) rfl rfl rfl)))
     (Rg.ay (Rg.plain rfl (Fs (b := w.heap.size + 1) (old := zS) (new := [iv df, iv cz, iv (Wd.told (((Wd.qR df cz) + (Wd.qR di dh)) / Rat.divInt 2 1)).n, iv (Wd.told (((Wd.qR df cz) + (Wd.qR di dh)) / Rat.divInt 2 1)).d]) mg rfl aF (aT 3) rf (aa HO).nd (.inl rfl) (.inl (by show (w.heap.size + 1 : Nat) ≠ w.heap.size + 2; omega)) rfl rfl rfl))
     (Rg.ay (Rg.plain rfl (Fs (b := w.heap.size + 2) (old := zS) (new := [iv (Wd.told (((Wd.qR df cz) + (Wd.qR di dh)) / Rat.divInt 2 1)).n, iv (Wd.told (((Wd.qR df cz) + (Wd.qR di dh)) / Rat.divInt 2 1)).d, iv di, iv dh]) mg rfl aF (aT 7) ky (aa HO).nd (.inr rfl) (.inl (by show (w.heap.size + 1 : Nat) ≠ w.heap.size + 2; omega)) rfl rfl rfl))
     (Rg.ay (Rg.plain rfl (mq (nz rfl (Rg.je _))))
     Rg.bg))))))))))) ?_
   intro v5 V5 xq hv5 hne5
   simp only [Rg.puts, Act.put, tA]
   have e0 : v5 0 = .pointer (some ⟨w.heap.size, 0, none⟩) := hv5 0 (by decide)
   have e5 : v5 5 = .pointer (some ⟨w.heap.size, 2, none⟩) := hv5 5 (by decide)
   have e10 : v5 10 = .int .i64 0 := hv5 10 (by decide)
   simp only [e0, e5, e10]
   have hO : Own w [(Rb, 23, [iv (Wd.told (((Wd.qR df cz) + (Wd.qR di dh)) / Rat.divInt 2 1)).n, iv (Wd.told (((Wd.qR df cz) + (Wd.qR di dh)) / Rat.divInt 2 1)).d]), (w.heap.size + 2, 41, [iv (Wd.told (((Wd.qR df cz) + (Wd.qR di dh)) / Rat.divInt 2 1)).n, iv (Wd.told (((Wd.qR df cz) + (Wd.qR di dh)) / Rat.divInt 2 1)).d, iv di, iv dh]), (w.heap.size + 1, 41, [iv df, iv cz, iv (Wd.told (((Wd.qR df cz) + (Wd.qR di dh)) / Rat.divInt 2 1)).n, iv (Wd.told (((Wd.qR df cz) + (Wd.qR di dh)) / Rat.divInt 2 1)).d]), (w.heap.size, 41, [iv df, iv cz, iv di, iv dh])] V5 := by
    refine ⟨xq.bel, (aa HO).nd, fun b T ls hm => ?_⟩
    rcases List.mem_cons.1 hm with e | hm
    ·
     cases e; exact ⟨(xq.box _ _ _ me0).1, GS.get me0 (fun h => absurd (show (w.heap.size + 1 : Nat) = Rb from h) (by first | omega | (intro h; exact (fun h => own_ne (aa HO) 0 2 rfl rfl (by decide) h.symm) h))) (fun h => absurd (show (w.heap.size + 2 : Nat) = Rb from h) (by first | omega | (intro h; exact (fun h => own_ne (aa HO) 0 1 rfl rfl (by decide) h.symm) h))) xq⟩
    rcases List.mem_cons.1 hm with e | hm
    ·
     cases e; exact ⟨(xq.box _ _ _ ky).1, hv5 9 (by decide)⟩
    rcases List.mem_cons.1 hm with e | hm
    ·
     cases e; exact ⟨(xq.box _ _ _ rf).1, hv5 8 (by decide)⟩
    rcases List.mem_cons.1 hm with e | hm
    ·
     cases e; exact ⟨(xq.box _ _ _ Ed).1, GS.get Ed (fun h => absurd (show (w.heap.size + 1 : Nat) = w.heap.size from h) (by first | omega | (intro h; exact (own_ne (aa HO) 2 3 rfl rfl (by decide)) h))) (fun h => absurd (show (w.heap.size + 2 : Nat) = w.heap.size from h) (by first | omega | (intro h; exact (own_ne (aa HO) 1 3 rfl rfl (by decide)) h))) xq⟩
    cases hm
   clear HO
   have HO := hide hO
   clear hO xq hv5 hne5
   try clear e0 e5 e10
   go_wp2_with fail
   exact Oo Tryz.results35 qg qg rfl rfl rfl (aa HO) rf ky rfl rfl rfl
  ·
   have k2 : ((Wd.told (((Wd.qR df cz) + (Wd.qR di dh)) / Rat.divInt 2 1)).e != 0) = true := by simp [bne, beq_eq_false_iff_ne.2 g1]
   obtain ⟨rfl, rfl, rfl, rfl, rfl, rfl, rfl, rfl, hz⟩ := (aa HR2).1 g1
   clear HR2
   subst hz
   go_upto_region 5 with fail
   refine Rg.dz 2 35 (Rg.pick [Rg.ax (.int .i64 (Wd.told (((Wd.qR df cz) + (Wd.qR di dh)) / Rat.divInt 2 1)).e), Rg.ax (.bool true)]) (az w _ Da) gm [] kr rfl (Rg.fq.pick ⟨Rg.ae _, Rg.ae _, trivial⟩) (az.begin (aa HO))
    (ag (dm rfl aF)
    (ag (Au rfl (aT 0) (Rg.je _) rfl k2)
    Rg.bg)) ?_
   intro v4 V4 hG4 hv4 ry
   simp only [Rg.puts, Act.put, tA]
   have e1 : v4 1 = .bool true := hv4 1 (by decide)
   simp only [e1]
   have hO := hG4.1
   clear HO
   have HO := hide hO
   clear hO hG4 hv4 ry
   try clear e1
   go_upto_region 6 with fail
   refine Rg.dz 3 35 (Rg.pick [ai zS, ai zS, Rg.ax (.int .i64 (Wd.told (((Wd.qR df cz) + (Wd.qR di dh)) / Rat.divInt 2 1)).e)]) (az w _ V4) gm [] kr rfl (Rg.fq.pick ⟨au _, au _, Rg.ae _, trivial⟩) (az.begin (aa HO))
    (ag (ui uj rfl rfl rfl)
    (ag (ui uj rfl rfl rfl)
    (ag (dm rfl aF)
    Rg.bg))) ?_
   intro v5 V5 xq hv5 hne5
   simp only [Rg.puts, Act.put, tA]
   have e2 : v5 2 = .int .i64 (Wd.told (((Wd.qR df cz) + (Wd.qR di dh)) / Rat.divInt 2 1)).e := hv5 2 (by decide)
   simp only [e2]
   have hO := xq.1
   refine jd hO 2 [] zS zS [] rfl mg rfl (show ai zS V5 (v5 0) from hv5 0 (by decide)) rfl rfl rfl ?_
   intro Ld gy hk0
   replace hO := gy
   clear gy
   refine jd hO 1 [] zS zS [] rfl mg rfl (hk0 _ _ (show ai zS V5 (v5 1) from hv5 1 (by decide))) rfl rfl rfl ?_
   intro brb Gw hk1
   replace hO := Gw
   clear Gw
   clear HO
   have HO := hide hO
   clear hO xq hv5 hne5 hk0 hk1
   try clear e2
   go_wp2_with fail
   exact Oo Tryz.results35 qg qg rfl rfl rfl (aa HO) rf ky rfl rfl rfl
 ·
  have k1 : (nk df cz di dh != 0) = true := by simp [bne, beq_eq_false_iff_ne.2 g0]
  obtain ⟨rfl, rfl, rfl, rfl, rfl, rfl, rfl, rfl, hz⟩ := (aa HR).1 g0
  clear HR
  subst hz
  go_upto_region 2 with fail
  refine Rg.dz 2 35 (Rg.pick [Rg.ax (.int .i64 (nk df cz di dh)), Rg.ax (.bool true)]) (az w _ V1) gm [] kr rfl (Rg.fq.pick ⟨Rg.ae _, Rg.ae _, trivial⟩) (az.begin (aa HO))
   (ag (dm rfl aF)
   (ag (Au rfl (aT 0) (Rg.je _) rfl k1)
   Rg.bg)) ?_
  intro v2 V2 hG2 hv2 hne2
  simp only [Rg.puts, Act.put, tA]
  have e1 : v2 1 = .bool true := hv2 1 (by decide)
  simp only [e1]
  have hO := hG2.1
  clear HO
  have HO := hide hO
  clear hO hG2 hv2 hne2
  try clear e1
  go_upto_region 3 with fail
  refine Rg.dz 3 35 (Rg.pick [ai zS, ai zS, Rg.ax (.int .i64 (nk df cz di dh))]) (az w _ V2) gm [] kr rfl (Rg.fq.pick ⟨au _, au _, Rg.ae _, trivial⟩) (az.begin (aa HO))
   (ag (ui uj rfl rfl rfl)
   (ag (ui uj rfl rfl rfl)
   (ag (dm rfl aF)
   Rg.bg))) ?_
  intro v3 V3 hG3 hv3 mf
  simp only [Rg.puts, Act.put, tA]
  have e2 : v3 2 = .int .i64 (nk df cz di dh) := hv3 2 (by decide)
  simp only [e2]
  have hO := hG3.1
  refine jd hO 1 [] zS zS [] rfl mg rfl (show ai zS V3 (v3 0) from hv3 0 (by decide)) rfl rfl rfl ?_
  intro Da gy hk0
  replace hO := gy
  clear gy
  refine jd hO 0 [] zS zS [] rfl mg rfl (hk0 _ _ (show ai zS V3 (v3 1) from hv3 1 (by decide))) rfl rfl rfl ?_
  intro brd Gw hk1
  replace hO := Gw
  clear Gw
  clear HO
  have HO := hide hO
  clear hO hG3 hv3 mf hk0 hk1
  try clear e2
  go_wp2_with fail
  exact Oo Tryz.results35 qg qg rfl rfl rfl (aa HO) ky me0 rfl rfl rfl
end Sb

end Go.Proofs.YtjdnmdlnaoedoaaGreatDoor
namespace Go.Proofs.YtjdnmdlnaoedoaaGreatDoor
open Go.RowKit

namespace Sb
end Sb

end Go.Proofs.YtjdnmdlnaoedoaaGreatDoor
namespace Go.Proofs.YtjdnmdlnaoedoaaGreatDoor
open Go.RowKit

namespace Sb
instance : DecidableEq Er := fun s t => decidable_of_iff (s.a = t.a ∧ s.b = t.b ∧ s.c = t.c ∧ s.d = t.d ∧ s.e = t.e) ⟨fun h => by cases s; cases t; obtain ⟨rfl, rfl, rfl, rfl, rfl⟩ := h; rfl, fun h => by subst h; exact ⟨rfl, rfl, rfl, rfl, rfl⟩⟩
theorem aln {ρ : Operand → Value} {w : World} {d : Option Tmp} {x y : Operand} {p q : Int} {ty : TypeId} {pos : String} {af : Array Edge} {gd : Option (Nat × Bool)} (h1 : ρ x = .int .i64 p) (h2 : ρ y = .int .i64 q) :
  (execOp ρ { dst := d, op := .build 23 #[(0, x), (1, y)], type := ty, pos := pos, after := af, guard := gd }).run Tryz.prog w = .ok (.value (.agg #[.int .i64 p, .int .i64 q])) w := by
 simp only [execOp]
 simp [go_sem, h1, h2]
 try rfl
theorem Kr {Q : Exit → Act → World → Prop} {l : List Oper} {n : Nat} {T : Nat → World → Value → Prop} {G : World → Prop} {al : List Nat} {a0 : Act} {k d : Nat} {ty : TypeId} {pos : String} {af : Array Edge} {gd : Option (Nat × Bool)} {x y : Operand} {p q : Int} (hal : al.contains k = false) (hx : Rg.ji l n T a0 k x (Rg.ax (.int .i64 p))) (hy : Rg.ji l n T a0 k y (Rg.ax (.int .i64 q))) (hT : T k = ai [.v (.int .i64 p), .v (.int .i64 q)]) :
  Rg.Step Tryz.prog Q l n T G gm al a0 k { dst := some d, op := .build 23 #[(0, x), (1, y)], type := ty, pos := pos, after := af, guard := gd } := by
 intro a w hG hO hN
 exact pz (P := Tryz.prog) (aln (hx a w hO hN) (hy a w hO hN)) ⟨_, rfl, hG, Below.refl _ _, by rw [hT]; exact Uf _ _ _, fun h => by rw [hal] at h; cases h⟩
theorem atd {ρ : Operand → Value} {w : World} {d : Option Tmp} {x y : Operand} {p0 p1 p2 p3 q0 q1 q2 q3 : Int} {b : Bool} {ty : TypeId} {pos : String} {af : Array Edge} {gd : Option (Nat × Bool)} (h : ρ x = .agg #[.int .i64 p0, .int .i64 p1, .int .i64 p2, .int .i64 p3]) (h' : ρ y = .agg #[.int .i64 q0, .int .i64 q1, .int .i64 q2, .int .i64 q3]) (hb : decide (p0 = q0 ∧ p1 = q1 ∧ p2 = q2 ∧ p3 = q3) = b) :
  (execOp ρ { dst := d, op := .binOp .eql 41 x y 41, type := ty, pos := pos, after := af, guard := gd }).run Tryz.prog w = .ok (.value (.bool b)) w := by
 subst hb
 simp only [execOp, h, h']
 by_cases k0 : p0 = q0 <;> by_cases k1 : p1 = q1 <;> by_cases k2 : p2 = q2 <;> by_cases k3 : p3 = q3 <;> simp [go_sem, k0, k1, k2, k3]
theorem afg {Q : Exit → Act → World → Prop} {l : List Oper} {n : Nat} {T : Nat → World → Value → Prop} {G : World → Prop} {al : List Nat} {a0 : Act} {k d : Nat} {ty : TypeId} {pos : String} {af : Array Edge} {gd : Option (Nat × Bool)} {x y : Operand} {p0 p1 p2 p3 q0 q1 q2 q3 : Int} {b : Bool}
  (hal : al.contains k = false) (hx : Rg.ji l n T a0 k x (ai [iv p0, iv p1, iv p2, iv p3])) (hy : Rg.ji l n T a0 k y (ai [iv q0, iv q1, iv q2, iv q3])) (hb : decide (p0 = q0 ∧ p1 = q1 ∧ p2 = q2 ∧ p3 = q3) = b) (hT : T k = Rg.ax (.bool b)) :
  Rg.Step Tryz.prog Q l n T G gm al a0 k { dst := some d, op := .binOp .eql 41 x y 41, type := ty, pos := pos, after := af, guard := gd } := by
 intro a w hG hO hN
 exact pz (P := Tryz.prog) (atd (Bg (hx a w hO hN)) (Bg (hy a w hO hN)) hb) ⟨_, rfl, hG, Below.refl _ _, by rw [hT]; rfl, fun h => by rw [hal] at h; cases h⟩
theorem _root_.Go.Proofs.YtjdnmdlnaoedoaaGreatDoor.sc3 {P : Program} {Q : Exit → Act → World → Prop} {l : List Oper} {n : Nat} {T : Nat → World → Value → Prop} {w V : World} {bs : List Sb.za} {al : List Nat} {a0 : Act} {k F d : Nat} {fn : Func} {ats : Array TypeId} {ty : TypeId} {pos : String} {af : Array Edge} {gd : Option (Nat × Bool)} {x1 x2 x3 : Operand} {A1 A2 A3 : World → Value → Prop} (hF : P.funcs[F]? = some fn) (h1 : Rg.ji l n T a0 k x1 A1) (h2 : Rg.ji l n T a0 k x2 A2) (h3 : Rg.ji l n T a0 k x3 A3) (hc : ∀ (W : World) (v1 v2 v3 : Value), Sb.az w bs V W → A1 W v1 → A2 W v2 → A3 W v3 → Calls P F #[v1, v2, v3] W fun e w' => ∃ u, e = .returned u ∧ gm W w' ∧ T k w' u) (hn : (!(fn.name == "runtime.NumGoroutine") && fn.body.isSome) = true := by kernel_rfl) (hal : al.contains k = false := by rfl) :
  Rg.Step P Q l n T (Sb.az w bs V) gm al a0 k { dst := some d, op := .call { callee := .value (.func F), args := #[x1, x2, x3], argTypes := ats }, type := ty, pos := pos, after := af, guard := gd } := ayp hF hn hal Sb.az.step h1 h2 h3 hc
theorem ama (w : World) (hT : qy w)
  (hc : ∀ (W : World) (v0 v1 : Value), qy W → ai [iv (-1), iv 1, iv 2, iv 1] W v0 → ai [iv 3, iv 1, iv 4, iv 1] W v1 → Calls Tryz.prog 83 #[v0, v1, .int .i64 1] W (il (qa [ai [iv (-4), iv 1, iv 8, iv 1], Rg.ax (.int .i64 0)]) W)) :
  Calls Tryz.prog 28 #[] w (il (Rg.ax (.bool true)) w) := by
 have HC := hide hc
 have HT := hide hT
 clear hc hT
 go_enter Tryz.func28, Tryz.ntmps28
 go_upto_region 1 with fail
 have hO := (Own.nil w)
 have HO := hide hO
 clear hO
 go_upto_region 1 with fail
 refine Rg.dz 4 24 (Rg.pick [ai [iv (-1), iv 1], ai [iv 2, iv 1], ai [iv (-1), iv 1, iv 2, iv 1], qf 41 zS w.heap.size]) (az w _ w) gm [3] kr rfl (Rg.fq.pick ⟨au _, au _, au _, qh _ _ _, trivial⟩) (az.begin (aa HO))
  (ag (Kr rfl (Rg.je _) (Rg.je _) rfl)
  (ag (Kr rfl (Rg.je _) (Rg.je _) rfl)
  (ag (xx Ht rfl (aT 0) (aT 1) rfl rfl rfl)
  (ag (si Tf rfl az.step az.size rfl (uw (by intro j hj; simp at hj; (repeat' (first | (rcases hj with rfl | hj))) <;> first | (subst hj; exact ⟨_, _, _, rfl⟩) | exact ⟨_, _, _, rfl⟩)))
  Rg.bg)))) ?_
 intro v1 V1 hG1 hv1 hne1
 simp only [Rg.puts, Act.put, tA]
 obtain ⟨blc, e3, Vt, hz3⟩ := (show qf 41 zS w.heap.size V1 (v1 3) from hv1 3 (by decide))
 simp only [e3]
 have hO := hG1.1
 replace hO := Own.add (aa HO) hG1.2 Vt hz3
 clear Vt hz3
 refine jd hO 0 [] zS [iv (-1), iv 1, iv 2, iv 1] [] rfl mg rfl (show ai [iv (-1), iv 1, iv 2, iv 1] V1 (v1 2) from hv1 2 (by decide)) rfl rfl rfl ?_
 intro uo gy hk0
 replace hO := gy
 clear gy
 clear HO
 have HO := hide hO
 clear hO hG1 hv1 hne1 hk0
 try clear e3
 go_upto_region 2 with fail
 refine Rg.dz 9 24 (Rg.pick [ai [iv (-1), iv 1, iv 2, iv 1], ai [iv 3, iv 1], ai [iv 4, iv 1], ai [iv 3, iv 1, iv 4, iv 1], qa [ai [iv (-4), iv 1, iv 8, iv 1], Rg.ax (.int .i64 0)], qa [ai [iv (-4), iv 1, iv 8, iv 1], Rg.ax (.int .i64 0)], ai [iv (-4), iv 1, iv 8, iv 1], Rg.ax (.int .i64 0), qf 41 zS uo.heap.size]) (az w _ uo) gm [8] kr rfl (Rg.fq.pick ⟨au _, au _, au _, au _, ko ⟨(au _), (Rg.ae _), trivial⟩, ko ⟨(au _), (Rg.ae _), trivial⟩, au _, Rg.ae _, qh _ _ _, trivial⟩) (az.begin (aa HO))
  (ag (fw oh me0 aF [] [iv (-1), iv 1, iv 2, iv 1] [])
  (ag (Kr rfl (Rg.je _) (Rg.je _) rfl)
  (ag (Kr rfl (Rg.je _) (Rg.je _) rfl)
  (ag (xx Ht rfl (aT 1) (aT 2) rfl rfl rfl)
  (ag (sc3 Tryz.func83 (aT 0) (aT 3) (Rg.je _) (fun W v0 v1 v2 hG h0 h1 h2 => by cases h2; exact aa HC W v0 v1 ((aa HT).below hG.bel) h0 h1))
  (ag (dm rfl (aT 4))
  (ag (ma (ts := [ai [iv (-4), iv 1, iv 8, iv 1], Rg.ax (.int .i64 0)]) rfl (aT 5) (of_decide_eq_true rfl) rfl)
  (ag (ma (ts := [ai [iv (-4), iv 1, iv 8, iv 1], Rg.ax (.int .i64 0)]) rfl (aT 5) (of_decide_eq_true rfl) rfl)
  (ag (si Tf rfl az.step az.size rfl (uw (by intro j hj; simp at hj; (repeat' (first | (rcases hj with rfl | hj))) <;> first | (subst hj; exact ⟨_, _, _, rfl⟩) | exact ⟨_, _, _, rfl⟩)))
  Rg.bg))))))))) ?_
 intro v2 V2 hG2 hv2 hne2
 simp only [Rg.puts, Act.put, tA]
 have e7 : v2 7 = .int .i64 0 := hv2 7 (by decide)
 obtain ⟨blb, e8, Vs, hz8⟩ := (show qf 41 zS uo.heap.size V2 (v2 8) from hv2 8 (by decide))
 simp only [e7, e8]
 have hO := hG2.1
 replace hO := Own.add (aa HO) hG2.2 Vs hz8
 clear Vs hz8
 refine jd hO 0 [] zS [iv (-4), iv 1, iv 8, iv 1] [] rfl mg rfl (show ai [iv (-4), iv 1, iv 8, iv 1] V2 (v2 6) from hv2 6 (by decide)) rfl rfl rfl ?_
 intro yg gy hk0
 replace hO := gy
 clear gy
 clear HO
 have HO := hide hO
 clear hO hG2 hv2 hne2 hk0
 try clear e7 e8
 go_upto_region 3 with fail
 refine Rg.dz 10 24 (Rg.pick [ai [iv (-4), iv 1, iv 8, iv 1], ai [iv (-4), iv 1], ai [iv 8, iv 1], ai [iv (-4), iv 1, iv 8, iv 1], Rg.ax (.bool true), Rg.ax (.bool true), Rg.ax (.int .i64 0), Rg.ax (.bool true), Rg.ax (.bool true), Rg.ax (.bool true)]) (az w _ yg) gm [] kr rfl (Rg.fq.pick ⟨au _, au _, au _, au _, Rg.ae _, Rg.ae _, Rg.ae _, Rg.ae _, Rg.ae _, Rg.ae _, trivial⟩) (az.begin (aa HO))
  (ag (fw oh me0 aF [] [iv (-4), iv 1, iv 8, iv 1] [])
  (ag (Kr rfl (Rg.je _) (Rg.je _) rfl)
  (ag (Kr rfl (Rg.je _) (Rg.je _) rfl)
  (ag (xx Ht rfl (aT 1) (aT 2) rfl rfl rfl)
  (ag (afg rfl (aT 0) (aT 3) rfl rfl)
  (ag (dm rfl (aT 4))
  (Rg.ay (Rg.fe (d := 20) rfl kr rfl (dm rfl aF))
  (Rg.ay (Rg.fe (d := 20) rfl kr rfl (Ju rfl (aT 6) (Rg.je _) rfl rfl))
  (ag (mr rfl (aT 5) (aT 7))
  (ag (nz rfl (aT 8))
  Rg.bg)))))))))) ?_
 intro v3 V3 hG3 hv3 mf
 simp only [Rg.puts, Act.put, tA]
 have e8 : v3 8 = .bool true := hv3 8 (by decide)
 have e9 : v3 9 = .bool true := hv3 9 (by decide)
 simp only [e8, e9]
 have hO := hG3.1
 clear HO
 have HO := hide hO
 clear hO hG3 hv3 mf
 try clear e8 e9
 go_wp2_with fail
 exact Bn Tryz.results28 rfl (aa HO).bel rfl
theorem bds {ss : List Sp} {g : Int} (h : oq (Az ss) g = 0) : (∀ s ∈ ss, abx s) ∧ 1 ≤ g ∧ g ≤ 1000000 := by
 unfold oq at h
 by_cases hs : ∀ s ∈ ss, abx s
 ·
  have e : Az ss = 0 := if_pos hs
  rw [e] at h
  by_cases hg : g < 1 ∨ 1000000 < g
  ·
   rw [if_pos ⟨rfl, hg⟩] at h; omega
  ·
   exact ⟨hs, by omega, by omega⟩
 ·
  have e : Az ss = 1 := if_neg hs
  rw [e, if_neg (fun k => absurd k.1 (by decide))] at h
  omega
def awx (x y a b : Rat) : Prop := iw ((jg x [a]).num * (ku y [b]).den - (ku y [b]).num * (jg x [a]).den) ≤ 0
instance (x y a b : Rat) : Decidable (awx x y a b) := by unfold awx; infer_instance
structure aep where
 p : Sp
 q : Sp
 e : Int
def Ku (s : Sp) : Wd.Told := Wd.told ((Wd.qR s.a s.b + Wd.qR s.c s.d) / Rat.divInt 2 1)
def Gh (s : Sp) : aep :=
 if nk s.a s.b s.c s.d = 0 then (if (Ku s).e = 0 then ⟨⟨s.a, s.b, (Ku s).n, (Ku s).d⟩, ⟨(Ku s).n, (Ku s).d, s.c, s.d⟩, 0⟩ else ⟨⟨0, 0, 0, 0⟩, ⟨0, 0, 0, 0⟩, (Ku s).e⟩)
 else ⟨⟨0, 0, 0, 0⟩, ⟨0, 0, 0, 0⟩, nk s.a s.b s.c s.d⟩
abbrev HfT (t : aep) : World → Value → Prop := qa [ai (lv4 t.p), ai (lv4 t.q), Rg.ax (.int .i64 t.e)]
theorem avt {df cz di dh : Int} (w : World) (hT : qy w) (u0 : Value) (h0 : ai [iv df, iv cz, iv di, iv dh] w u0) : Calls Tryz.prog 35 #[u0] w (il (HfT (Gh ⟨df, cz, di, dh⟩)) w) := by
 refine ajc _ _ _ _ _ _ _ _ _ w hT u0 h0 ⟨fun h => ?_, fun h => ⟨fun h2 => ?_, fun h2 => ?_⟩⟩
 ·
  have e : Gh ⟨df, cz, di, dh⟩ = ⟨⟨0, 0, 0, 0⟩, ⟨0, 0, 0, 0⟩, nk df cz di dh⟩ := if_neg h
  rw [e]; exact ⟨rfl, rfl, rfl, rfl, rfl, rfl, rfl, rfl, rfl⟩
 ·
  have e : Gh ⟨df, cz, di, dh⟩ = ⟨⟨0, 0, 0, 0⟩, ⟨0, 0, 0, 0⟩, (Ku ⟨df, cz, di, dh⟩).e⟩ := by unfold Gh; rw [if_pos h]; exact if_neg h2
  rw [e]; exact ⟨rfl, rfl, rfl, rfl, rfl, rfl, rfl, rfl, rfl⟩
 ·
  have e : Gh ⟨df, cz, di, dh⟩ = ⟨⟨df, cz, (Ku ⟨df, cz, di, dh⟩).n, (Ku ⟨df, cz, di, dh⟩).d⟩, ⟨(Ku ⟨df, cz, di, dh⟩).n, (Ku ⟨df, cz, di, dh⟩).d, di, dh⟩, 0⟩ := by unfold Gh; rw [if_pos h]; exact if_pos h2
  rw [e]; exact ⟨rfl, rfl, rfl, rfl, rfl, rfl, rfl, rfl, rfl⟩
end Sb

end Go.Proofs.YtjdnmdlnaoedoaaGreatDoor
namespace Go.Proofs.YtjdnmdlnaoedoaaGreatDoor
open Go.RowKit

namespace Sb
theorem alf (x y : Rat) : iw (y.num * x.den - x.num * y.den) < 0 ↔ y < x := by
 rw [Rat.lt_iff]
 unfold iw; (repeat' split) <;> omega
theorem alg (x y : Rat) : 0 < iw (y.num * x.den - x.num * y.den) ↔ x < y := by
 rw [Rat.lt_iff]
 unfold iw; (repeat' split) <;> omega
theorem Ns (x y : Rat) : iw (x.num * y.den - y.num * x.den) ≤ 0 ↔ x ≤ y := by
 rw [Rat.le_iff]
 unfold iw; (repeat' split) <;> omega
theorem Vh (x y : Rat) (l : List Rat) : ku x (y :: l) = ku (if y < x then y else x) l := by
 show ku (if iw (y.num * x.den - x.num * y.den) < 0 then y else x) l = _
 simp only [alf]
theorem Vi (x y : Rat) (l : List Rat) : jg x (y :: l) = jg (if x < y then y else x) l := by
 show jg (if 0 < iw (y.num * x.den - x.num * y.den) then y else x) l = _
 simp only [alg]
theorem Yv (x : Rat) : ku x [] = x := rfl
theorem Yw (x : Rat) : jg x [] = x := rfl
theorem bbm {a b c d : Int} (h : xy a b c d) : Wd.qR a b ≤ Wd.qR c d := by
 obtain ⟨h1, h2, h3⟩ := h
 obtain ⟨e1, e2⟩ := Wd.Nt h1
 obtain ⟨e3, e4⟩ := Wd.Nt h2
 rw [Rat.le_iff, e1, e2, e3, e4]; omega
theorem bbl {a b c d : Int} (h1 : Wd.xh a b) (h2 : Wd.xh c d) (h : Wd.qR a b ≤ Wd.qR c d) : xy a b c d := by
 obtain ⟨e1, e2⟩ := Wd.Nt h1
 obtain ⟨e3, e4⟩ := Wd.Nt h2
 rw [Rat.le_iff, e1, e2, e3, e4] at h
 exact ⟨h1, h2, by omega⟩
end Sb

end Go.Proofs.YtjdnmdlnaoedoaaGreatDoor
namespace Go.Proofs.YtjdnmdlnaoedoaaGreatDoor
open Go.RowKit

def Ca (q : Rat) : World → Value → Prop := fun W v => ∃ A1 c1 l1 m1 A2 c2 l2 m2, v = (Value.agg #[.slice A1 (List.length l1) c1, .bool m1, .slice A2 (List.length l2) c2, .bool m2]) ∧ QV W A1 c1 l1 m1 A2 c2 l2 m2 q
theorem Xc (q : Rat) : Rg.Em gm (Ca q) := by
 rintro w w' v hb ⟨A1, c1, l1, m1, A2, c2, l2, m2, rfl, h⟩
 exact ⟨_, _, _, _, _, _, _, _, rfl, h.below hb⟩
theorem avv {W : World} {b : Nat} (h : W.heap[b]? = some (.cells #[.slice none 0 0, .bool false, .slice none 0 0, .bool false] 63 (0, 0))) : Fx W b 0 :=
 have h0 : ik W none 0 [] false 0 := ⟨qo.Qz W 0 om, rfl⟩
 ⟨none, 0, [], false, none, 0, [], false, h, h0, 0, h0, .inr ⟨rfl, rfl⟩⟩
theorem Fx.lt {W : World} {b : Nat} {q : Rat} (h : Fx W b q) : b < W.heap.size := by
 obtain ⟨_, _, _, _, _, _, _, _, h, _⟩ := h; exact lt_of_block h
theorem aot {ρ : Operand → Value} {w : World} {d : Option Tmp} {x : Operand} {b : Nat} {u0 u1 u2 u3 : Value} {ty : TypeId} {pos : String} {af : Array Edge} {gd : Option (Nat × Bool)} (h : ρ x = .pointer (some ⟨b, 0, none⟩)) (k0 : w.cell? ⟨b, 0, none⟩ = some u0) (k1 : w.cell? ⟨b, 1, none⟩ = some u1) (k2 : w.cell? ⟨b, 2, none⟩ = some u2) (k3 : w.cell? ⟨b, 3, none⟩ = some u3) :
  (execOp ρ { dst := d, op := .load 63 x, type := ty, pos := pos, after := af, guard := gd }).run Tryz.prog w = .ok (.value (.agg #[u0, u1, u2, u3])) w := by
 simp only [execOp, h]
 simp [go_sem, k0, k1, k2, k3]
theorem abt {Q : Exit → Act → World → Prop} {l : List Oper} {n : Nat} {T : Nat → World → Value → Prop} {G : World → Prop} {al : List Nat} {a0 : Act} {k d b : Nat} {x : Operand} {q : Rat} {ty : TypeId} {pos : String} {af : Array Edge} {gd : Option (Nat × Bool)}
  (hal : al.contains k = false) (hx : Rg.ji l n T a0 k x (Rg.ax (.pointer (some ⟨b, 0, none⟩)))) (hb : ∀ W, G W → Fx W b q) (hT : T k = Ca q) :
  Rg.Step Tryz.prog Q l n T G gm al a0 k { dst := some d, op := .load 63 x, type := ty, pos := pos, after := af, guard := gd } := by
 intro a w hG hO hN
 obtain ⟨A1, c1, l1, m1, A2, c2, l2, m2, hk, hq⟩ := hb w hG
 exact pz (P := Tryz.prog) (aot (hx a w hO hN) (ah hk 0) (ah hk 1) (ah hk 2) (ah hk 3)) ⟨_, rfl, hG, Below.refl _ _, by rw [hT]; exact ⟨A1, c1, l1, m1, A2, c2, l2, m2, rfl, hq⟩, fun h => by rw [hal] at h; cases h⟩
structure Own (w : World) (bs : List (Nat × Rat)) (W : World) : Prop where
 bel : Below w.heap.size w W
 nd : (bs.map Prod.fst).Nodup
 box : ∀ b q, (b, q) ∈ bs → w.heap.size ≤ b ∧ Fx W b q
theorem Own.nil (w : World) : Own w [] w := ⟨Below.refl _ _, List.nodup_nil, fun b q h => by cases h⟩
theorem Own.step {w : World} {bs : List (Nat × Rat)} : ∀ W W', Own w bs W → gm W W' → Own w bs W' := fun W W' h hb => ⟨bz h.bel hb, h.nd, fun b q hm => ⟨(h.box b q hm).1, (h.box b q hm).2.below hb⟩⟩
theorem Own.lt {w W : World} {bs : List (Nat × Rat)} {b : Nat} {q : Rat} (h : Own w bs W) (hm : (b, q) ∈ bs) : b < W.heap.size := (h.box b q hm).2.lt
theorem Own.add {w W V : World} {bs : List (Nat × Rat)} {b : Nat} {q : Rat} (h : Own w bs V) (Vw : gm V W) (hb : V.heap.size ≤ b) (hq : Fx W b q) : Own w ((b, q) :: bs) W :=
 ⟨bz h.bel Vw, List.nodup_cons.2 ⟨fun hm => by
  obtain ⟨p, hp, he⟩ := List.mem_map.1 hm
  have := h.lt (b := p.1) (q := p.2) hp
  omega, h.nd⟩, fun b' q' hm => by
  rcases List.mem_cons.1 hm with e | hm
  ·
   cases e; exact ⟨Nat.le_trans h.bel.size hb, hq⟩
  ·
   exact ((Own.step V W h Vw).box b' q' hm)⟩
theorem Own.push {w W : World} {bs : List (Nat × Rat)} {q : Rat} {A1 : Option Addr} {c1 : Nat} {l1 : List Nat} {m1 : Bool} {A2 : Option Addr} {c2 : Nat} {l2 : List Nat} {m2 : Bool} (h : Own w bs W) (hv : QV W A1 c1 l1 m1 A2 c2 l2 m2 q) (b : Nat) (hb : b = W.heap.size) : Own w ((b, q) :: bs) (W.alloc (.cells #[.slice A1 l1.length c1, .bool m1, .slice A2 l2.length c2, .bool m2] 63)) := by
 subst hb
 exact h.add ((Below.refl _ _).alloc (Nat.le_refl _) _) (Nat.le_refl _) ⟨_, _, _, _, _, _, _, _, heap_alloc_new W _, hv.below ((Below.refl _ _).alloc (Nat.le_refl _) _)⟩
theorem Own.bga {w W : World} {bs : List (Nat × Rat)} (h : Own w bs W) (b : Nat) (hb : b = W.heap.size) : Own w ((b, 0) :: bs) (W.alloc (.cells #[.slice none 0 0, .bool false, .slice none 0 0, .bool false] 63)) := by
 subst hb
 exact h.add ((Below.refl _ _).alloc (Nat.le_refl _) _) (Nat.le_refl _) (avv (heap_alloc_new W _))
theorem Own.other {w W : World} {bs : List (Nat × Rat)} (o : Obj) (h : Own w bs W) : Own w bs (W.alloc o) := Own.step _ _ h ((Below.refl _ _).alloc (Nat.le_refl _) _)
def bbb (W : World) (b : Nat) (v0 v1 v2 v3 : Value) : World := (((W.setCell ⟨b, 0, none⟩ v0).setCell ⟨b, 1, none⟩ v1).setCell ⟨b, 2, none⟩ v2).setCell ⟨b, 3, none⟩ v3
theorem Own.set {w W : World} {xs ys : List (Nat × Rat)} {b : Nat} {q0 q : Rat} {A1 : Option Addr} {c1 : Nat} {l1 : List Nat} {m1 : Bool} {A2 : Option Addr} {c2 : Nat} {l2 : List Nat} {m2 : Bool} (h : Own w (xs ++ (b, q0) :: ys) W) (hv : QV W A1 c1 l1 m1 A2 c2 l2 m2 q) :
  Own w (xs ++ (b, q) :: ys) (bbb W b (.slice A1 l1.length c1) (.bool m1) (.slice A2 l2.length c2) (.bool m2)) := by
 obtain ⟨hge, hb⟩ := h.box b q0 (List.mem_append_right _ List.mem_cons_self)
 obtain ⟨A, c, l, m, A', c', l', m', h1, h2⟩ := hb
 have hg := mo W b (.slice A1 l1.length c1) (.bool m1) (.slice A2 l2.length c2) (.bool m2)
 have hnd := h.nd
 rw [List.map_append, List.map_cons] at hnd
 have hn : ∀ b' q', (b', q') ∈ xs ++ ys → b' ≠ b := fun b' q' hm e => by
  subst e
  obtain ⟨_, h4, h5⟩ := List.nodup_append.1 hnd
  rcases List.mem_append.1 hm with hm | hm
  ·
   exact h5 b' (List.mem_map.2 ⟨_, hm, rfl⟩) b' List.mem_cons_self rfl
  ·
   exact (List.nodup_cons.1 h4).1 (List.mem_map.2 ⟨_, hm, rfl⟩)
 refine ⟨h.bel.grown hg h.bel.size (fun k hk => by injection hk with hk; omega), by rw [List.map_append, List.map_cons]; exact hnd, fun b' q' hm => ?_⟩
 rcases List.mem_append.1 hm with hm | hm
 rotate_left
 rcases List.mem_cons.1 hm with e | hm
 ·
  cases e
  exact ⟨hge, ⟨_, _, _, _, _, _, _, _, ali h1, hv.upto h1 (Ao _ _ _ _ _ _ _ _) hg⟩⟩
 all_goals
  have hne := hn b' q' (by first | exact List.mem_append_right _ hm | exact List.mem_append_left _ hm)
  obtain ⟨hge', B, d, r, p, B', d', r', p', g1, g2⟩ := h.box b' q' (by first | exact List.mem_append_right _ (List.mem_cons_of_mem _ hm) | exact List.mem_append_left _ hm)
  exact ⟨hge', B, d, r, p, B', d', r', p', (hg.block b' (lt_of_block g1) (fun e => hne (by first | exact Option.some.inj e | exact (Option.some.inj e).symm))).trans g1, g2.upto h1 (Ao _ _ _ _ _ _ _ _) hg⟩
theorem Own.Wn {w W V : World} {bs : List (Nat × Rat)} {b b' : Nat} {q q' : Rat} (h : Own w bs V) (Vw : gm V W) (hb : V.heap.size ≤ b) (hq : Fx W b q) (hb' : V.heap.size ≤ b') (hq' : Fx W b' q') (hne : b' ≠ b) : Own w ((b', q') :: (b, q) :: bs) W := by
 have h1 := Own.add h Vw hb hq
 have h2 := Own.add h Vw hb' hq'
 refine ⟨h1.bel, List.nodup_cons.2 ⟨fun hm => ?_, h1.nd⟩, fun c p hm => ?_⟩
 ·
  rw [List.map_cons] at hm
  rcases List.mem_cons.1 hm with e | hm
  ·
   exact hne e
  ·
   exact (List.nodup_cons.1 h2.nd).1 hm
 ·
  rcases List.mem_cons.1 hm with e | hm
  ·
   cases e; exact h2.box _ _ List.mem_cons_self
  ·
   exact h1.box _ _ hm
def az (w : World) (bs : List (Nat × Rat)) (V : World) : World → Prop := fun W => Own w bs W ∧ gm V W
theorem az.step {w V : World} {bs : List (Nat × Rat)} : ∀ W W', az w bs V W → gm W W' → az w bs V W' := fun W W' h hb => ⟨Own.step W W' h.1 hb, bz h.2 hb⟩
theorem az.size {w V : World} {bs : List (Nat × Rat)} : ∀ W, az w bs V W → V.heap.size ≤ W.heap.size := fun _ h => h.2.size
theorem az.start {w V : World} {bs : List (Nat × Rat)} (h : Own w bs V) : az w bs V V.drew := ⟨Own.step _ _ h (gm.drew V), gm.drew V⟩
theorem az.begin {w V : World} {bs : List (Nat × Rat)} (h : Own w bs V) : az w bs V V := ⟨h, Below.refl _ _⟩
theorem az.box {w V W : World} {bs : List (Nat × Rat)} {b : Nat} {q : Rat} (hm : (b, q) ∈ bs) (h : az w bs V W) : Fx W b q := (h.1.box b q hm).2
theorem Ih {w w' : World} {q : Rat} {e : Ending} (h : QR w q e w') : il (Ca q) w e w' := by
 obtain ⟨A1, c1, l1, m1, A2, c2, l2, m2, rfl, h1, h2, hb⟩ := h
 exact ⟨_, rfl, hb, _, _, _, _, _, _, _, _, rfl, QV.of h1 h2⟩
def Df (z : Int) : World → Value → Prop := fun W v => ∃ A c l m, v = .agg #[.slice A (List.length l) c, .bool m] ∧ ik W A c l m z
theorem Ji (z : Int) : Rg.Em gm (Df z) := by
 rintro w w' v hb ⟨A, c, l, m, rfl, h⟩
 exact ⟨_, _, _, _, rfl, h.below hb⟩
theorem aou {ρ : Operand → Value} {w : World} {d : Option Tmp} {x : Operand} {b : Nat} {ty : TypeId} {pos : String} {af : Array Edge} {gd : Option (Nat × Bool)} (h : ρ x = .pointer (some ⟨b, 0, none⟩)) :
  (execOp ρ { dst := d, op := .fieldAddr 63 x 0, type := ty, pos := pos, after := af, guard := gd }).run Tryz.prog w = .ok (.value (.pointer (some ⟨b, 0, none⟩))) w := by
 simp only [execOp, h]
 simp [go_sem]
theorem ajm {Q : Exit → Act → World → Prop} {l : List Oper} {n : Nat} {T : Nat → World → Value → Prop} {G : World → Prop} {al : List Nat} {a0 : Act} {k d b : Nat} {x : Operand} {ty : TypeId} {pos : String} {af : Array Edge} {gd : Option (Nat × Bool)}
  (hal : al.contains k = false) (hx : Rg.ji l n T a0 k x (Rg.ax (.pointer (some ⟨b, 0, none⟩)))) (hT : T k = Rg.ax (.pointer (some ⟨b, 0, none⟩))) :
  Rg.Step Tryz.prog Q l n T G gm al a0 k { dst := some d, op := .fieldAddr 63 x 0, type := ty, pos := pos, after := af, guard := gd } := by
 intro a w hG hO hN
 exact pz (P := Tryz.prog) (aou (hx a w hO hN)) ⟨_, rfl, hG, Below.refl _ _, by rw [hT]; rfl, fun h => by rw [hal] at h; cases h⟩
theorem aos {ρ : Operand → Value} {w : World} {d : Option Tmp} {x : Operand} {b : Nat} {u0 u1 : Value} {ty : TypeId} {pos : String} {af : Array Edge} {gd : Option (Nat × Bool)} (h : ρ x = .pointer (some ⟨b, 0, none⟩)) (k0 : w.cell? ⟨b, 0, none⟩ = some u0) (k1 : w.cell? ⟨b, 1, none⟩ = some u1) :
  (execOp ρ { dst := d, op := .load 61 x, type := ty, pos := pos, after := af, guard := gd }).run Tryz.prog w = .ok (.value (.agg #[u0, u1])) w := by
 simp only [execOp, h]
 simp [go_sem, k0, k1]
theorem ajl {Q : Exit → Act → World → Prop} {l : List Oper} {n : Nat} {T : Nat → World → Value → Prop} {G : World → Prop} {al : List Nat} {a0 : Act} {k d b : Nat} {x : Operand} {q : Rat} {ty : TypeId} {pos : String} {af : Array Edge} {gd : Option (Nat × Bool)}
  (hal : al.contains k = false) (hx : Rg.ji l n T a0 k x (Rg.ax (.pointer (some ⟨b, 0, none⟩)))) (hb : ∀ W, G W → Fx W b q) (hT : T k = Df q.num) :
  Rg.Step Tryz.prog Q l n T G gm al a0 k { dst := some d, op := .load 61 x, type := ty, pos := pos, after := af, guard := gd } := by
 intro a w hG hO hN
 obtain ⟨A1, c1, l1, m1, A2, c2, l2, m2, hk, hq⟩ := hb w hG
 exact pz (P := Tryz.prog) (aos (hx a w hO hN) (ah hk 0) (ah hk 1)) ⟨_, rfl, hG, Below.refl _ _, by rw [hT]; exact ⟨A1, c1, l1, m1, rfl, hq.num⟩, fun h => by rw [hal] at h; cases h⟩
theorem alo {ρ : Operand → Value} {w : World} {d : Option Tmp} {x y : Operand} {u0 u1 u2 u3 : Value} {ty : TypeId} {pos : String} {af : Array Edge} {gd : Option (Nat × Bool)} (h : ρ x = .agg #[u0, u1]) (h' : ρ y = .agg #[u2, u3]) :
  (execOp ρ { dst := d, op := .build 63 #[(0, x), (1, y)], type := ty, pos := pos, after := af, guard := gd }).run Tryz.prog w = .ok (.value (.agg #[u0, u1, u2, u3])) w := by
 simp [execOp, h, h', go_sem]
theorem asz {Q : Exit → Act → World → Prop} {l : List Oper} {n : Nat} {T : Nat → World → Value → Prop} {G : World → Prop} {al : List Nat} {a0 : Act} {k d : Nat} {x y : Operand} {a b : Int} {q : Rat} {ty : TypeId} {pos : String} {af : Array Edge} {gd : Option (Nat × Bool)}
  (hal : al.contains k = false) (hx : Rg.ji l n T a0 k x (Df a)) (hy : Rg.ji l n T a0 k y (Df b)) (ha : a = q.num) (hb : b = (q.den : Int)) (hT : T k = Ca q) :
  Rg.Step Tryz.prog Q l n T G gm al a0 k { dst := some d, op := .build 63 #[(0, x), (1, y)], type := ty, pos := pos, after := af, guard := gd } := by
 intro s w hG hO hN
 obtain ⟨A1, c1, l1, m1, e1, h1⟩ := hx s w hO hN
 obtain ⟨A2, c2, l2, m2, e2, h2⟩ := hy s w hO hN
 subst ha; subst hb
 exact pz (P := Tryz.prog) (alo e1 e2) ⟨_, rfl, hG, Below.refl _ _, by rw [hT]; exact ⟨A1, c1, l1, m1, A2, c2, l2, m2, rfl, QV.of h1 h2⟩, fun h => by rw [hal] at h; cases h⟩
theorem Ur {w w' : World} {z : Int} {e : Ending} (h : Ba w z e w') : il (Df z) w e w' := by
 obtain ⟨A, c, l, m, rfl, h1, hb⟩ := h
 exact ⟨_, rfl, hb, _, _, _, _, rfl, h1⟩
def bex (w : World) (bs : List (Nat × Rat)) (r s : Nat) : World → Prop := fun W => ∃ p q, Own w ((r, p) :: (s, q) :: bs) W
theorem bex.box {w W : World} {bs : List (Nat × Rat)} {r s b : Nat} {x : Rat} (hm : (b, x) ∈ bs) (h : bex w bs r s W) : Fx W b x := by
 obtain ⟨p, q, h⟩ := h
 exact (h.box b x (List.mem_cons_of_mem _ (List.mem_cons_of_mem _ hm))).2
end Go.Proofs.YtjdnmdlnaoedoaaGreatDoor
namespace Go.Proofs.YtjdnmdlnaoedoaaGreatDoor
open Go.RowKit

namespace Sb
def wK (n : Int) : Kind where
 size := 2
 ok := fun W c => ∃ A cap l m, c = [.slice A (List.length l) cap, .bool m] ∧ ik W A cap l m n
 noW := by
  rintro W c ⟨A, cap, l, m, rfl, h⟩ u hu
  simp only [List.mem_cons, List.not_mem_nil, or_false] at hu
  rcases hu with rfl | rfl
  ·
   exact Vd _ _ _
  ·
   exact Ve _
 below := fun hb ⟨A, cap, l, m, e, h⟩ => ⟨A, cap, l, m, e, h.below hb⟩
 upto := fun hg hn hgr ⟨A, cap, l, m, e, h⟩ => ⟨A, cap, l, m, e, h.upto hg hn.ber hgr⟩
 len := by rintro W c ⟨A, cap, l, m, rfl, h⟩; rfl
theorem gu.w {W : World} {n : Int} {A1 : Option Addr} {c1 : Nat} {l1 : List Nat} {m1 : Bool} {ls : List Leaf} {cs : List Value} (h1 : ik W A1 c1 l1 m1 n) (h : gu W ls cs) : gu W (.k (wK n) :: ls) (.slice A1 l1.length c1 :: .bool m1 :: cs) := ⟨[_, _], cs, rfl, ⟨_, _, _, _, rfl, h1⟩, h⟩
theorem gu.akw {W : World} {n : Int} {ls : List Leaf} {cs : List Value} (h : gu W (.k (wK n) :: ls) cs) : ∃ A1 c1 l1 m1 r, cs = .slice A1 (List.length l1) c1 :: .bool m1 :: r ∧ ik W A1 c1 l1 m1 n ∧ gu W ls r := by
 obtain ⟨c, r, rfl, ⟨A1, c1, l1, m1, rfl, h1⟩, h⟩ := h
 exact ⟨A1, c1, l1, m1, r, rfl, h1, h⟩
theorem Xp {W : World} {n : Int} {v : Value} (h : ai [.k (wK n)] W v) : ∃ A1 c1 l1 m1, v = .agg #[.slice A1 (List.length l1) c1, .bool m1] ∧ ik W A1 c1 l1 m1 n := by
 obtain ⟨cs, rfl, h⟩ := h
 obtain ⟨A1, c1, l1, m1, r, rfl, h1, h⟩ := h.akw
 cases h
 exact ⟨_, _, _, _, rfl, h1⟩
theorem Ke {W : World} {n d : Int} {v : Value} (h : ai [.k (wK n), .k (wK d)] W v) : ∃ A1 c1 l1 m1 A2 c2 l2 m2, v = .agg #[.slice A1 (List.length l1) c1, .bool m1, .slice A2 (List.length l2) c2, .bool m2] ∧ ik W A1 c1 l1 m1 n ∧ ik W A2 c2 l2 m2 d := by
 obtain ⟨cs, rfl, h⟩ := h
 obtain ⟨A1, c1, l1, m1, r, rfl, h1, h⟩ := h.akw
 obtain ⟨A2, c2, l2, m2, r, rfl, h2, h⟩ := h.akw
 cases h
 exact ⟨_, _, _, _, _, _, _, _, rfl, h1, h2⟩
def C1 (w : World) (F : Nat) (ls ks : List Leaf) : Prop := ∀ W v0, Below w.heap.size w W → ai ls W v0 → Calls Tryz.prog F #[v0] W (il (ai ks) W)
def C2 (w : World) (F : Nat) (ls ms ks : List Leaf) : Prop := ∀ W v0 v1, Below w.heap.size w W → ai ls W v0 → ai ms W v1 → Calls Tryz.prog F #[v0, v1] W (il (ai ks) W)
def CB (w : World) (F : Nat) (ls : List Leaf) (b : Bool) : Prop := ∀ W v0, Below w.heap.size w W → ai ls W v0 → Calls Tryz.prog F #[v0] W (il (Rg.ax (.bool b)) W)
theorem akv {w w' : World} {z : Int} {e : Ending} (h : Ba w z e w') : il (ai [.k (wK z)]) w e w' := by
 obtain ⟨A, cap, l, m, rfl, h1, hb⟩ := h
 exact ⟨_, rfl, hb, _, rfl, gu.w h1 rfl⟩
theorem baj {w w' : World} {q : Rat} {e : Ending} (h : QR w q e w') : il (ai [.k (wK q.num), .k (wK (q.den : Int))]) w e w' := by
 obtain ⟨A1, c1, l1, m1, A2, c2, l2, m2, rfl, h1, h2, hb⟩ := h
 exact ⟨_, rfl, hb, _, rfl, gu.w h1 (gu.w h2 rfl)⟩
theorem aad {w w' : World} {q : Rat} {e : Ending} (h : il (ai [.k (wK q.num), .k (wK (q.den : Int))]) w e w') : QR w q e w' := by
 obtain ⟨u, rfl, hb, h⟩ := h
 obtain ⟨A1, c1, l1, m1, A2, c2, l2, m2, rfl, f1, f2⟩ := Ke h
 exact ⟨_, _, _, _, _, _, _, _, rfl, f1, f2, hb⟩
theorem Nl {w : World} {F : Nat} {a b c : Int} (h : awd w F a b c) : C2 w F [.k (wK a)] [.k (wK b)] [.k (wK c)] := fun W v0 v1 hb h0 h1 => by
 obtain ⟨A1, c1, l1, m1, rfl, f1⟩ := Xp h0
 obtain ⟨A2, c2, l2, m2, rfl, f2⟩ := Xp h1
 exact (h _ _ _ _ _ _ _ _ W hb f1 f2).mono fun e w' h => akv h
theorem cwq {w : World} {F : Nat} {a b : Int} {q : Rat} (h : bey w F a b q) : C2 w F [.k (wK a)] [.k (wK b)] [.k (wK q.num), .k (wK (q.den : Int))] := fun W v0 v1 hb h0 h1 => by
 obtain ⟨A1, c1, l1, m1, rfl, f1⟩ := Xp h0
 obtain ⟨A2, c2, l2, m2, rfl, f2⟩ := Xp h1
 exact (h _ _ _ _ _ _ _ _ W hb f1 f2).mono fun e w' h => baj h
theorem Ta {W : World} {A1 : Option Addr} {c1 : Nat} {l1 : List Nat} {m1 : Bool} {A2 : Option Addr} {c2 : Nat} {l2 : List Nat} {m2 : Bool} {x : Rat} (h : QV W A1 c1 l1 m1 A2 c2 l2 m2 x) : ∃ d : Int, (d = (x.den : Int) ∨ (d = 0 ∧ x.den = 1)) ∧ ai [.k (wK x.num), .k (wK d)] W (.agg #[.slice A1 l1.length c1, .bool m1, .slice A2 l2.length c2, .bool m2]) := by
 obtain ⟨d, h2, h3⟩ := h.den
 exact ⟨d, h3, _, rfl, gu.w h.num (gu.w h2 rfl)⟩
theorem Qt (w : World) {x : Rat} {d : Int} (h : d = (x.den : Int) ∨ (d = 0 ∧ x.den = 1)) : C1 w 117 [.k (wK x.num), .k (wK d)] [.k (wK (x.den : Int))] := fun W v0 hb h0 => by
 obtain ⟨A1, c1, l1, m1, A2, c2, l2, m2, rfl, f1, f2⟩ := Ke h0
 exact (Qg A1 c1 l1 m1 A2 c2 l2 m2 x W ⟨f1, d, f2, h⟩).mono fun e w' h => akv h
theorem Xn (w : World) {b : Int} {o : Bool} (h : o = decide (b = 1)) : CB w 118 [.k (wK b)] o := fun W v0 hb h0 => by
 obtain ⟨A1, c1, l1, m1, rfl, f1⟩ := Xp h0
 rw [h]
 exact (Zz A1 c1 l1 m1 b W f1).mono fun e w' h => We h
theorem bec (w : World) (b : Int) : C1 w 156 [.k (wK b)] [.k (wK (-b))] := fun W v0 hb h0 => by
 obtain ⟨A1, c1, l1, m1, rfl, f1⟩ := Xp h0
 exact (Ym A1 c1 l1 m1 b W f1).mono fun e w' h => akv h
theorem qw : Io Tryz.prog 61 2 := by
 intro ρ w d x b off us ty pos af gd hl hc hx
 match us, hl with
 | [u0, u1], _ =>
 have k0 : w.cell? ⟨b, off, none⟩ = some u0 := hc 0 om
 have k1 : w.cell? ⟨b, off + 1, none⟩ = some u1 := hc 1 om
 clear hc
 simp only [execOp, hx]
 simp [go_sem, k0, k1]
theorem Xb : Cv Tryz.prog 61 2 := by
 intro ρ w d p x b off cs TB us ty pos af gd hl hu hb ho hp hx
 match us, hl with
 | [u0, u1], _ =>
 have o0 := hu u0 (by simp)
 have o1 := hu u1 (by simp)
 have f0 : w.frozen? ⟨b, off, none⟩ = false := bf hb _
 have f1 : w.frozen? ⟨b, off + 1, none⟩ = false := bf hb _
 obtain ⟨c0, k0⟩ : ∃ c, w.cell? ⟨b, off, none⟩ = some c := lh hb om
 obtain ⟨c1, k1⟩ : ∃ c, w.cell? ⟨b, off + 1, none⟩ = some c := lh hb om
 have hlt := lt_of_block hb
 clear hb ho hu
 simp only [execOp, hp, hx, setM]
 simp [go_sem, hlt, run_store _ _ _ _ _ o0, o0, run_store _ _ _ _ _ o1, o1, k0, k1, f0, f1]
theorem aem : Kg Tryz.prog 61 [.slice none 0 0, .bool false] := by
 intro ρ w d ty pos af gd
 simp only [execOp]
 simp [go_sem]
theorem ll : Io Tryz.prog 63 4 := by
 intro ρ w d x b off us ty pos af gd hl hc hx
 match us, hl with
 | [u0, u1, u2, u3], _ =>
 have k0 : w.cell? ⟨b, off, none⟩ = some u0 := hc 0 om
 have k1 : w.cell? ⟨b, off + 1, none⟩ = some u1 := hc 1 om
 have k2 : w.cell? ⟨b, off + 2, none⟩ = some u2 := hc 2 om
 have k3 : w.cell? ⟨b, off + 3, none⟩ = some u3 := hc 3 om
 clear hc
 simp only [execOp, hx]
 simp [go_sem, k0, k1, k2, k3]
theorem Bp : Cv Tryz.prog 63 4 := by
 intro ρ w d p x b off cs TB us ty pos af gd hl hu hb ho hp hx
 match us, hl with
 | [u0, u1, u2, u3], _ =>
 have o0 := hu u0 (by simp)
 have o1 := hu u1 (by simp)
 have o2 := hu u2 (by simp)
 have o3 := hu u3 (by simp)
 have f0 : w.frozen? ⟨b, off, none⟩ = false := bf hb _
 have f1 : w.frozen? ⟨b, off + 1, none⟩ = false := bf hb _
 have f2 : w.frozen? ⟨b, off + 2, none⟩ = false := bf hb _
 have f3 : w.frozen? ⟨b, off + 3, none⟩ = false := bf hb _
 obtain ⟨c0, k0⟩ : ∃ c, w.cell? ⟨b, off, none⟩ = some c := lh hb om
 obtain ⟨c1, k1⟩ : ∃ c, w.cell? ⟨b, off + 1, none⟩ = some c := lh hb om
 obtain ⟨c2, k2⟩ : ∃ c, w.cell? ⟨b, off + 2, none⟩ = some c := lh hb om
 obtain ⟨c3, k3⟩ : ∃ c, w.cell? ⟨b, off + 3, none⟩ = some c := lh hb om
 have hlt := lt_of_block hb
 clear hb ho hu
 simp only [execOp, hp, hx, setM]
 simp [go_sem, hlt, run_store _ _ _ _ _ o0, o0, run_store _ _ _ _ _ o1, o1, run_store _ _ _ _ _ o2, o2, run_store _ _ _ _ _ o3, o3, k0, k1, k2, k3, f0, f1, f2, f3]
theorem awu : Kg Tryz.prog 63 [.slice none 0 0, .bool false, .slice none 0 0, .bool false] := by
 intro ρ w d ty pos af gd
 simp only [execOp]
 simp [go_sem]
theorem Gd : Hz Tryz.prog 63 4 := by
 intro w b off us hl hc
 match us, hl with
 | [u0, u1, u2, u3], _ =>
 have k0 : w.cell? ⟨b, off, none⟩ = some u0 := hc 0 om
 have k1 : w.cell? ⟨b, off + 1, none⟩ = some u1 := hc 1 om
 have k2 : w.cell? ⟨b, off + 2, none⟩ = some u2 := hc 2 om
 have k3 : w.cell? ⟨b, off + 3, none⟩ = some u3 := hc 3 om
 clear hc
 simp [go_sem, k0, k1, k2, k3]
theorem aci : Si Tryz.prog 63 2 2 := by
 intro ρ w d x y us vs ty pos af gd h1 h2 e1 e2
 match us, h1, vs, h2 with
 | [u0, u1], _, [v0, v1], _ =>
 simp only [execOp]
 simp [go_sem, e1, e2]
 try rfl
theorem baa : Iq Tryz.prog (fun x => .fieldAddr 63 x 0) 0 := by
 intro a w d x b off ty pos af gd hx
 have hc : ∀ v, a.eval (.const v) = v := fun _ => rfl
 simp only [execOp, hx, hc]
 simp [go_sem]
theorem zw {Q : Exit → Act → World → Prop} {l : List Oper} {n : Nat} {T : Nat → World → Value → Prop} {G : World → Prop} {al : List Nat} {a0 : Act} {k d : Nat} {ty : TypeId} {pos : String} {af : Array Edge} {gd : Option (Nat × Bool)} {b off off' : Nat} {x : Operand} (hal : al.contains k = false) (hx : Rg.ji l n T a0 k x (Rg.ax (.pointer (some ⟨b, off, none⟩)))) (ho : off + 0 = off') (hT : T k = Rg.ax (.pointer (some ⟨b, off', none⟩))) :
  Rg.Step Tryz.prog Q l n T G gm al a0 k { dst := some d, op := .fieldAddr 63 x 0, type := ty, pos := pos, after := af, guard := gd } := by
 exact Jv (P := Tryz.prog) (o := fun x => .fieldAddr 63 x 0) baa hal hx ho hT
end Sb

end Go.Proofs.YtjdnmdlnaoedoaaGreatDoor
namespace Go.Proofs.YtjdnmdlnaoedoaaGreatDoor
open Go.RowKit

namespace Sb
theorem apj {xn xe xd c : Int} (w : World) (u0 : Value) (h0 : ai [.k (wK xn), .k (wK xe)] w u0)
  (hd1 : C1 w 117 [.k (wK xn), .k (wK xe)] [.k (wK xd)])
  (hn : C1 w 156 [.k (wK xn)] [.k (wK c)]) :
  Calls Tryz.prog 121 #[u0] w (il (ai [.k (wK c), .k (wK xd)]) w) := by
 have HD1 := hide hd1
 have HN := hide hn
 clear hd1 hn
 obtain ⟨ru, c0a, rq, Ee, vg, c0b, ve, Ff, rfl, f0a, Aw⟩ := Ke h0
 go_enter Tryz.func121, Tryz.ntmps121
 go_upto_region 1 with fail
 have hO := (Own.push (T := 63) (ls := zX) (cs := [.slice none 0 0, .bool false, .slice none 0 0, .bool false]) (Own.push (T := 63) (ls := [.k (wK xn), .k (wK xe)]) (cs := [.slice ru (List.length rq) c0a, .bool Ee, .slice vg (List.length ve) c0b, .bool Ff]) (Own.nil w) (gu.w f0a (gu.w Aw rfl)) (w.heap.size) rfl) (((gu.vs w [.slice none 0 0, .bool false, .slice none 0 0, .bool false] rfl) : gu w zX [.slice none 0 0, .bool false, .slice none 0 0, .bool false]).below (by repeat (first | exact Below.refl _ _ | refine jc ?_ _))) (w.heap.size + 1) (by simp only [World.size_alloc]))
 generalize (w.alloc (.cells #[.slice ru (List.length rq) c0a, .bool Ee, .slice vg (List.length ve) c0b, .bool Ff] 63)).alloc (.cells #[.slice none 0 0, .bool false, .slice none 0 0, .bool false] 63) = W0 at *
 have HO := hide hO
 clear hO
 go_upto_region 1 with fail
 refine Rg.region 6 9 (Rg.pick [Rg.ax (.pointer (some ⟨w.heap.size, 0, none⟩)), ai [.k (wK xn)], ai [.k (wK c)], ai [.k (wK xn), .k (wK xe)], ai [.k (wK xd)], ai [.k (wK c), .k (wK xd)]]) (az w _ W0) gm [] kr kr rfl (Rg.fq.pick ⟨Rg.ae _, au _, au _, au _, au _, au _, trivial⟩) (az.start (aa HO))
  (ag (zw (b := w.heap.size) (off := 0) rfl aF rfl rfl)
  (ag (fw qw ky (aT 0) [] [.k (wK xn)] [.k (wK xe)])
  (ag (sc1 Tryz.func156 (aT 1) (fun W v0 hG h0 => aa HN W v0 hG.bel h0))
  (ag (fw ll ky aF [] [.k (wK xn), .k (wK xe)] [])
  (ag (sc1 Tryz.func117 (aT 3) (fun W v0 hG h0 => aa HD1 W v0 hG.bel h0))
  (ag (xx aci rfl (aT 2) (aT 4) rfl rfl rfl)
  Rg.bg)))))) ?_
 intro v1 V1 hG1 hv1 hne1
 simp only [Rg.puts, Act.put, tA]
 have hO := hG1.1
 refine jd hO 0 [] zX [.k (wK c), .k (wK xd)] [] rfl Bp rfl (show ai [.k (wK c), .k (wK xd)] V1 (v1 5) from hv1 5 (by decide)) rfl rfl rfl ?_
 intro uo gy hk0
 replace hO := gy
 clear gy
 clear HO
 have HO := hide hO
 clear hO hG1 hv1 hne1 hk0
 go_wp2_with fail
 exact xu Tryz.results121 Gd rfl (aa HO) me0 rfl rfl
theorem apm {xn xe yn ye xd yd m1 m2 a b : Int} (w : World) (u0 : Value) (h0 : ai [.k (wK xn), .k (wK xe)] w u0) (u1 : Value) (h1 : ai [.k (wK yn), .k (wK ye)] w u1)
  (hd1 : C1 w 117 [.k (wK xn), .k (wK xe)] [.k (wK xd)])
  (hd2 : C1 w 117 [.k (wK yn), .k (wK ye)] [.k (wK yd)])
  (hm1 : C2 w 120 [.k (wK xn)] [.k (wK yd)] [.k (wK m1)])
  (hm2 : C2 w 120 [.k (wK xd)] [.k (wK yn)] [.k (wK m2)])
  (hr : C2 w 115 [.k (wK m1)] [.k (wK m2)] [.k (wK a), .k (wK b)]) :
  Calls Tryz.prog 54 #[u0, u1] w (il (ai [.k (wK a), .k (wK b)]) w) := by
 have HD1 := hide hd1
 have HD2 := hide hd2
 have HM1 := hide hm1
 have HM2 := hide hm2
 have HR := hide hr
 clear hd1 hd2 hm1 hm2 hr
 obtain ⟨ru, c0a, rq, Ee, vg, c0b, ve, Ff, rfl, f0a, Aw⟩ := Ke h0
 obtain ⟨wu, c1a, wm, Gg, zt, zq, zo, Jn, rfl, f1a, Ps⟩ := Ke h1
 go_enter Tryz.func54, Tryz.ntmps54
 go_upto_region 1 with fail
 have hO := (Own.push (T := 63) (ls := zX) (cs := [.slice none 0 0, .bool false, .slice none 0 0, .bool false]) (Own.push (T := 63) (ls := [.k (wK yn), .k (wK ye)]) (cs := [.slice wu (List.length wm) c1a, .bool Gg, .slice zt (List.length zo) zq, .bool Jn]) (Own.push (T := 63) (ls := [.k (wK xn), .k (wK xe)]) (cs := [.slice ru (List.length rq) c0a, .bool Ee, .slice vg (List.length ve) c0b, .bool Ff]) (Own.nil w) (gu.w f0a (gu.w Aw rfl)) (w.heap.size) rfl) (((gu.w f1a (gu.w Ps rfl)) : gu w [.k (wK yn), .k (wK ye)] [.slice wu (List.length wm) c1a, .bool Gg, .slice zt (List.length zo) zq, .bool Jn]).below (by repeat (first | exact Below.refl _ _ | refine jc ?_ _))) (w.heap.size + 1) (by simp only [World.size_alloc])) (((gu.vs w [.slice none 0 0, .bool false, .slice none 0 0, .bool false] rfl) : gu w zX [.slice none 0 0, .bool false, .slice none 0 0, .bool false]).below (by repeat (first | exact Below.refl _ _ | refine jc ?_ _))) (w.heap.size + 2) (by simp only [World.size_alloc]))
 generalize ((w.alloc (.cells #[.slice ru (List.length rq) c0a, .bool Ee, .slice vg (List.length ve) c0b, .bool Ff] 63)).alloc (.cells #[.slice wu (List.length wm) c1a, .bool Gg, .slice zt (List.length zo) zq, .bool Jn] 63)).alloc (.cells #[.slice none 0 0, .bool false, .slice none 0 0, .bool false] 63) = W0 at *
 have HO := hide hO
 clear hO
 go_upto_region 1 with fail
 refine Rg.region 11 16 (Rg.pick [Rg.ax (.pointer (some ⟨w.heap.size, 0, none⟩)), ai [.k (wK xn)], ai [.k (wK yn), .k (wK ye)], ai [.k (wK yd)], ai [.k (wK m1)], ai [.k (wK xn), .k (wK xe)], ai [.k (wK xd)], Rg.ax (.pointer (some ⟨w.heap.size + 1, 0, none⟩)), ai [.k (wK yn)], ai [.k (wK m2)], ai [.k (wK a), .k (wK b)]]) (az w _ W0) gm [] kr kr rfl (Rg.fq.pick ⟨Rg.ae _, au _, au _, au _, au _, au _, au _, Rg.ae _, au _, au _, au _, trivial⟩) (az.start (aa HO))
  (ag (zw (b := w.heap.size) (off := 0) rfl aF rfl rfl)
  (ag (fw qw rf (aT 0) [] [.k (wK xn)] [.k (wK xe)])
  (ag (fw ll ky aF [] [.k (wK yn), .k (wK ye)] [])
  (ag (sc1 Tryz.func117 (aT 2) (fun W v0 hG h0 => aa HD2 W v0 hG.bel h0))
  (ag (sc2 Tryz.func120 (aT 1) (aT 3) (fun W v0 v1 hG h0 h1 => aa HM1 W v0 v1 hG.bel h0 h1))
  (ag (fw ll rf aF [] [.k (wK xn), .k (wK xe)] [])
  (ag (sc1 Tryz.func117 (aT 5) (fun W v0 hG h0 => aa HD1 W v0 hG.bel h0))
  (ag (zw (b := w.heap.size + 1) (off := 0) rfl aF rfl rfl)
  (ag (fw qw ky (aT 7) [] [.k (wK yn)] [.k (wK ye)])
  (ag (sc2 Tryz.func120 (aT 6) (aT 8) (fun W v0 v1 hG h0 h1 => aa HM2 W v0 v1 hG.bel h0 h1))
  (ag (sc2 Tryz.func115 (aT 4) (aT 9) (fun W v0 v1 hG h0 h1 => aa HR W v0 v1 hG.bel h0 h1))
  Rg.bg))))))))))) ?_
 intro v1 V1 hG1 hv1 hne1
 simp only [Rg.puts, Act.put, tA]
 have hO := hG1.1
 refine jd hO 0 [] zX [.k (wK a), .k (wK b)] [] rfl Bp rfl (show ai [.k (wK a), .k (wK b)] V1 (v1 10) from hv1 10 (by decide)) rfl rfl rfl ?_
 intro uo gy hk0
 replace hO := gy
 clear gy
 clear HO
 have HO := hide hO
 clear hO hG1 hv1 hne1 hk0
 go_wp2_with fail
 exact xu Tryz.results54 Gd rfl (aa HO) me0 rfl rfl
theorem apk {xn xe yn ye xd yd s m3 a b : Int} {o1 o2 : Bool} (w : World) (u0 : Value) (h0 : ai [.k (wK xn), .k (wK xe)] w u0) (u1 : Value) (h1 : ai [.k (wK yn), .k (wK ye)] w u1)
  (hd1 : C1 w 117 [.k (wK xn), .k (wK xe)] [.k (wK xd)])
  (hd2 : C1 w 117 [.k (wK yn), .k (wK ye)] [.k (wK yd)])
  (ho1 : CB w 118 [.k (wK xd)] o1)
  (ho2 : CB w 118 [.k (wK yd)] o2)
  (hc : (o1 = true ∧ o2 = true ∧ xd = b ∧ C2 w 120 [.k (wK xn)] [.k (wK yn)] [.k (wK a)]) ∨ ((o1 = false ∨ o1 = true ∧ o2 = false) ∧ C2 w 120 [.k (wK xn)] [.k (wK yn)] [.k (wK s)] ∧ C2 w 120 [.k (wK xd)] [.k (wK yd)] [.k (wK m3)] ∧ C2 w 115 [.k (wK s)] [.k (wK m3)] [.k (wK a), .k (wK b)])) :
  Calls Tryz.prog 52 #[u0, u1] w (il (ai [.k (wK a), .k (wK b)]) w) := by
 have HD1 := hide hd1
 have HD2 := hide hd2
 have Qa := hide ho1
 have Sc := hide ho2
 have HC := hide hc
 clear hd1 hd2 ho1 ho2 hc
 obtain ⟨ru, c0a, rq, Ee, vg, c0b, ve, Ff, rfl, f0a, Aw⟩ := Ke h0
 obtain ⟨wu, c1a, wm, Gg, zt, zq, zo, Jn, rfl, f1a, Ps⟩ := Ke h1
 go_enter Tryz.func52, Tryz.ntmps52
 go_upto_region 1 with fail
 have hO := (Own.push (T := 63) (ls := zX) (cs := [.slice none 0 0, .bool false, .slice none 0 0, .bool false]) (Own.push (T := 63) (ls := [.k (wK yn), .k (wK ye)]) (cs := [.slice wu (List.length wm) c1a, .bool Gg, .slice zt (List.length zo) zq, .bool Jn]) (Own.push (T := 63) (ls := [.k (wK xn), .k (wK xe)]) (cs := [.slice ru (List.length rq) c0a, .bool Ee, .slice vg (List.length ve) c0b, .bool Ff]) (Own.nil w) (gu.w f0a (gu.w Aw rfl)) (w.heap.size) rfl) (((gu.w f1a (gu.w Ps rfl)) : gu w [.k (wK yn), .k (wK ye)] [.slice wu (List.length wm) c1a, .bool Gg, .slice zt (List.length zo) zq, .bool Jn]).below (by repeat (first | exact Below.refl _ _ | refine jc ?_ _))) (w.heap.size + 1) (by simp only [World.size_alloc])) (((gu.vs w [.slice none 0 0, .bool false, .slice none 0 0, .bool false] rfl) : gu w zX [.slice none 0 0, .bool false, .slice none 0 0, .bool false]).below (by repeat (first | exact Below.refl _ _ | refine jc ?_ _))) (w.heap.size + 2) (by simp only [World.size_alloc]))
 generalize ((w.alloc (.cells #[.slice ru (List.length rq) c0a, .bool Ee, .slice vg (List.length ve) c0b, .bool Ff] 63)).alloc (.cells #[.slice wu (List.length wm) c1a, .bool Gg, .slice zt (List.length zo) zq, .bool Jn] 63)).alloc (.cells #[.slice none 0 0, .bool false, .slice none 0 0, .bool false] 63) = W0 at *
 have HO := hide hO
 clear hO
 go_upto_region 1 with fail
 go_upto_region 1 with fail
 refine Rg.Ri 8 33 (fun k => if k = 6 then 5 else 6) (Rg.pick [ai [.k (wK xn), .k (wK xe)], ai [.k (wK xd)], ai [.k (wK yn), .k (wK ye)], ai [.k (wK yd)], fun _ _ => True, fun _ _ => True, fun _ _ => True, fun _ _ => True]) (az w [(w.heap.size + 2, 63, zX), (w.heap.size + 1, 63, [.k (wK yn), .k (wK ye)]), (w.heap.size, 63, [.k (wK xn), .k (wK xe)])] W0) (EX W0.heap.size 61) (J2 61 2 W0.heap.size 4 5 6 7 [.k (wK xd)] [.k (wK yd)]) kr kr kr rfl (Rg.fq.pick ⟨(sw _), (sw _), (sw _), (sw _), (vw), (vw), (vw), (vw), trivial⟩) (az.start (aa HO)) (fun _ => J2.start) (fun _ _ _ _ h => J2.congr (n := 8) (by decide) h)
  (Rg.ja (Aj (fw ll rf aF [] [.k (wK xn), .k (wK xe)] []))
   (Rg.ja (Aj (wh Tryz.func117 kr rfl az.step (aT 0) (fun W v0 hG h0 => aa HD1 W v0 hG.bel h0)))
   (Rg.ja (Aj (fw ll ky aF [] [.k (wK yn), .k (wK ye)] []))
   (Rg.ja (Aj (wh Tryz.func117 kr rfl az.step (aT 2) (fun W v0 hG h0 => aa HD2 W v0 hG.bel h0)))
   (Rg.ja (Oc aem rfl rfl rfl)
   (Rg.ja (Ot aem rfl rfl rfl)
   (Rg.ja (Ob (aa HO) Xb kr (aT 1) rfl rfl rfl)
   (Rg.ja (Oq (aa HO) Xb kr (aT 3) rfl rfl rfl)
   Rg.Jt)))))))) ?_
 intro v1 V1 hG1 hJ1 hv1 hne1
 simp only [Rg.puts, Act.put, tA]
 obtain ⟨_, _, hd1, hf1, hg1⟩ := hJ1
 obtain ⟨avw, e4, hge4, hz4⟩ := (hf1 trivial).2
 obtain ⟨ahw, e5, Pp, Vm⟩ := (hg1 trivial).2
 simp only [e4, e5]
 have hO := Own.Wn (aa HO) hG1.2 hge4 hz4 Pp Vm (fun h => hd1 trivial trivial (by rw [e4, e5, h]))
 clear hge4 hz4 Pp Vm hd1 hf1 hg1
 clear HO
 have HO := hide hO
 clear hO hG1 hv1 hne1
 try clear e4 e5
 rcases aa HC with ⟨rfl, rfl, rfl, hp⟩ | ⟨ho, hp⟩
 ·
  have HOP := hide hp
  clear hp HC
  go_upto_region 2 with fail
  refine Rg.dz 6 33 (Rg.pick [ai [.k (wK xd)], Rg.ax (.bool true), Rg.ax (.bool true), ai [.k (wK yd)], Rg.ax (.bool true), Rg.ax (.bool true)]) (az w _ V1) gm [] kr rfl (Rg.fq.pick ⟨au _, Rg.ae _, Rg.ae _, au _, Rg.ae _, Rg.ae _, trivial⟩) (az.begin (aa HO))
   (ag (fw qw ky aF [] [.k (wK xd)] [])
   (ag (sc1 Tryz.func118 (aT 0) (fun W v0 hG h0 => aa Qa W v0 hG.bel h0))
   (ag (dm rfl (aT 1))
   (Rg.ay (Rg.fe (d := 13) rfl kr rfl (fw qw me0 aF [] [.k (wK yd)] []))
   (Rg.ay (Rg.fe (d := 13) rfl kr rfl (wh Tryz.func118 kr rfl az.step (aT 3) (fun W v0 hG h0 => aa Sc W v0 hG.bel h0)))
   (ag (mr rfl (aT 2) (aT 4))
   Rg.bg)))))) ?_
  intro v2 V2 hG2 hv2 hne2
  simp only [Rg.puts, Act.put, tA]
  have e5 : v2 5 = .bool true := hv2 5 (by decide)
  simp only [e5]
  have hO := hG2.1
  clear HO
  have HO := hide hO
  clear hO hG2 hv2 hne2
  try clear e5
  go_upto_region 3 with fail
  refine Rg.region 7 33 (Rg.pick [Rg.ax (.pointer (some ⟨w.heap.size, 0, none⟩)), ai [.k (wK xn)], Rg.ax (.pointer (some ⟨w.heap.size + 1, 0, none⟩)), ai [.k (wK yn)], ai [.k (wK a)], ai [.k (wK xd)], ai [.k (wK a), .k (wK xd)]]) (az w _ V2) gm [] kr kr rfl (Rg.fq.pick ⟨Rg.ae _, au _, Rg.ae _, au _, au _, au _, au _, trivial⟩) (az.start (aa HO))
   (ag (zw (b := w.heap.size) (off := 0) rfl aF rfl rfl)
   (ag (fw qw Uk (aT 0) [] [.k (wK xn)] [.k (wK xe)])
   (ag (zw (b := w.heap.size + 1) (off := 0) rfl aF rfl rfl)
   (ag (fw qw Ed (aT 2) [] [.k (wK yn)] [.k (wK ye)])
   (ag (sc2 Tryz.func120 (aT 1) (aT 3) (fun W v0 v1 hG h0 h1 => aa HOP W v0 v1 hG.bel h0 h1))
   (ag (fw qw ky aF [] [.k (wK xd)] [])
   (ag (xx aci rfl (aT 4) (aT 5) rfl rfl rfl)
   Rg.bg))))))) ?_
  intro v3 V3 hG3 hv3 mf
  simp only [Rg.puts, Act.put, tA]
  have hO := hG3.1
  refine jd hO 2 [] zX [.k (wK a), .k (wK xd)] [] rfl Bp rfl (show ai [.k (wK a), .k (wK xd)] V3 (v3 6) from hv3 6 (by decide)) rfl rfl rfl ?_
  intro Da gy hk0
  replace hO := gy
  clear gy
  clear HO
  have HO := hide hO
  clear hO hG3 hv3 mf hk0
  go_wp2_with fail
  exact xu Tryz.results52 Gd rfl (aa HO) rf rfl rfl
 ·
  obtain ⟨h0, h1, h2⟩ := hp
  have HS := hide h0
  have HM3 := hide h1
  have HR := hide h2
  clear h0 h1 h2 HC
  rcases ho with rfl | ⟨rfl, rfl⟩
  ·
   go_upto_region 2 with fail
   refine Rg.dz 6 33 (Rg.pick [ai [.k (wK xd)], Rg.ax (.bool false), Rg.ax (.bool false), Rg.ax undef, Rg.ax undef, Rg.ax (.bool false)]) (az w _ V1) gm [] kr rfl (Rg.fq.pick ⟨au _, Rg.ae _, Rg.ae _, Rg.ae _, Rg.ae _, Rg.ae _, trivial⟩) (az.begin (aa HO))
    (ag (fw qw ky aF [] [.k (wK xd)] [])
    (ag (sc1 Tryz.func118 (aT 0) (fun W v0 hG h0 => aa Qa W v0 hG.bel h0))
    (ag (dm rfl (aT 1))
    (Rg.ay (Rg.jb (d := 13) rfl kr rfl rfl iy rfl rfl)
    (Rg.ay (Rg.jb (d := 13) rfl kr rfl rfl iy rfl rfl)
    (ag (qi rfl (aT 2) (Rg.je _))
    Rg.bg)))))) ?_
   intro v2 V2 hG2 hv2 hne2
   simp only [Rg.puts, Act.put, tA]
   have e5 : v2 5 = .bool false := hv2 5 (by decide)
   simp only [e5]
   have hO := hG2.1
   clear HO
   have HO := hide hO
   clear hO hG2 hv2 hne2
   try clear e5
   go_upto_region 4 with fail
   refine Rg.region 9 33 (Rg.pick [Rg.ax (.pointer (some ⟨w.heap.size, 0, none⟩)), ai [.k (wK xn)], Rg.ax (.pointer (some ⟨w.heap.size + 1, 0, none⟩)), ai [.k (wK yn)], ai [.k (wK s)], ai [.k (wK xd)], ai [.k (wK yd)], ai [.k (wK m3)], ai [.k (wK a), .k (wK b)]]) (az w _ V2) gm [] kr kr rfl (Rg.fq.pick ⟨Rg.ae _, au _, Rg.ae _, au _, au _, au _, au _, au _, au _, trivial⟩) (az.start (aa HO))
    (ag (zw (b := w.heap.size) (off := 0) rfl aF rfl rfl)
    (ag (fw qw Uk (aT 0) [] [.k (wK xn)] [.k (wK xe)])
    (ag (zw (b := w.heap.size + 1) (off := 0) rfl aF rfl rfl)
    (ag (fw qw Ed (aT 2) [] [.k (wK yn)] [.k (wK ye)])
    (ag (sc2 Tryz.func120 (aT 1) (aT 3) (fun W v0 v1 hG h0 h1 => aa HS W v0 v1 hG.bel h0 h1))
    (ag (fw qw ky aF [] [.k (wK xd)] [])
    (ag (fw qw me0 aF [] [.k (wK yd)] [])
    (ag (sc2 Tryz.func120 (aT 5) (aT 6) (fun W v0 v1 hG h0 h1 => aa HM3 W v0 v1 hG.bel h0 h1))
    (ag (sc2 Tryz.func115 (aT 4) (aT 7) (fun W v0 v1 hG h0 h1 => aa HR W v0 v1 hG.bel h0 h1))
    Rg.bg))))))))) ?_
   intro v3 V3 hG3 hv3 mf
   simp only [Rg.puts, Act.put, tA]
   have hO := hG3.1
   refine jd hO 2 [] zX [.k (wK a), .k (wK b)] [] rfl Bp rfl (show ai [.k (wK a), .k (wK b)] V3 (v3 8) from hv3 8 (by decide)) rfl rfl rfl ?_
   intro Da gy hk0
   replace hO := gy
   clear gy
   clear HO
   have HO := hide hO
   clear hO hG3 hv3 mf hk0
   go_wp2_with fail
   exact xu Tryz.results52 Gd rfl (aa HO) rf rfl rfl
  ·
   go_upto_region 2 with fail
   refine Rg.dz 6 33 (Rg.pick [ai [.k (wK xd)], Rg.ax (.bool true), Rg.ax (.bool true), ai [.k (wK yd)], Rg.ax (.bool false), Rg.ax (.bool false)]) (az w _ V1) gm [] kr rfl (Rg.fq.pick ⟨au _, Rg.ae _, Rg.ae _, au _, Rg.ae _, Rg.ae _, trivial⟩) (az.begin (aa HO))
    (ag (fw qw ky aF [] [.k (wK xd)] [])
    (ag (sc1 Tryz.func118 (aT 0) (fun W v0 hG h0 => aa Qa W v0 hG.bel h0))
    (ag (dm rfl (aT 1))
    (Rg.ay (Rg.fe (d := 13) rfl kr rfl (fw qw me0 aF [] [.k (wK yd)] []))
    (Rg.ay (Rg.fe (d := 13) rfl kr rfl (wh Tryz.func118 kr rfl az.step (aT 3) (fun W v0 hG h0 => aa Sc W v0 hG.bel h0)))
    (ag (mr rfl (aT 2) (aT 4))
    Rg.bg)))))) ?_
   intro v2 V2 hG2 hv2 hne2
   simp only [Rg.puts, Act.put, tA]
   have e5 : v2 5 = .bool false := hv2 5 (by decide)
   simp only [e5]
   have hO := hG2.1
   clear HO
   have HO := hide hO
   clear hO hG2 hv2 hne2
   try clear e5
   go_upto_region 4 with fail
   refine Rg.region 9 33 (Rg.pick [Rg.ax (.pointer (some ⟨w.heap.size, 0, none⟩)), ai [.k (wK xn)], Rg.ax (.pointer (some ⟨w.heap.size + 1, 0, none⟩)), ai [.k (wK yn)], ai [.k (wK s)], ai [.k (wK xd)], ai [.k (wK yd)], ai [.k (wK m3)], ai [.k (wK a), .k (wK b)]]) (az w _ V2) gm [] kr kr rfl (Rg.fq.pick ⟨Rg.ae _, au _, Rg.ae _, au _, au _, au _, au _, au _, au _, trivial⟩) (az.start (aa HO))
    (ag (zw (b := w.heap.size) (off := 0) rfl aF rfl rfl)
    (ag (fw qw Uk (aT 0) [] [.k (wK xn)] [.k (wK xe)])
    (ag (zw (b := w.heap.size + 1) (off := 0) rfl aF rfl rfl)
    (ag (fw qw Ed (aT 2) [] [.k (wK yn)] [.k (wK ye)])
    (ag (sc2 Tryz.func120 (aT 1) (aT 3) (fun W v0 v1 hG h0 h1 => aa HS W v0 v1 hG.bel h0 h1))
    (ag (fw qw ky aF [] [.k (wK xd)] [])
    (ag (fw qw me0 aF [] [.k (wK yd)] [])
    (ag (sc2 Tryz.func120 (aT 5) (aT 6) (fun W v0 v1 hG h0 h1 => aa HM3 W v0 v1 hG.bel h0 h1))
    (ag (sc2 Tryz.func115 (aT 4) (aT 7) (fun W v0 v1 hG h0 h1 => aa HR W v0 v1 hG.bel h0 h1))
    Rg.bg))))))))) ?_
   intro v3 V3 hG3 hv3 mf
   simp only [Rg.puts, Act.put, tA]
   have hO := hG3.1
   refine jd hO 2 [] zX [.k (wK a), .k (wK b)] [] rfl Bp rfl (show ai [.k (wK a), .k (wK b)] V3 (v3 8) from hv3 8 (by decide)) rfl rfl rfl ?_
   intro Da gy hk0
   replace hO := gy
   clear gy
   clear HO
   have HO := hide hO
   clear hO hG3 hv3 mf hk0
   go_wp2_with fail
   exact xu Tryz.results52 Gd rfl (aa HO) rf rfl rfl
theorem apn {xn xe yn ye xd yd m1 m2 s m3 a b : Int} {o1 o2 : Bool} (w : World) (u0 : Value) (h0 : ai [.k (wK xn), .k (wK xe)] w u0) (u1 : Value) (h1 : ai [.k (wK yn), .k (wK ye)] w u1)
  (hd1 : C1 w 117 [.k (wK xn), .k (wK xe)] [.k (wK xd)])
  (hd2 : C1 w 117 [.k (wK yn), .k (wK ye)] [.k (wK yd)])
  (ho1 : CB w 118 [.k (wK xd)] o1)
  (ho2 : CB w 118 [.k (wK yd)] o2)
  (hc : (o1 = true ∧ o2 = true ∧ xd = b ∧ C2 w 119 [.k (wK xn)] [.k (wK yn)] [.k (wK a)]) ∨ ((o1 = false ∨ o1 = true ∧ o2 = false) ∧ C2 w 120 [.k (wK xn)] [.k (wK yd)] [.k (wK m1)] ∧ C2 w 120 [.k (wK yn)] [.k (wK xd)] [.k (wK m2)] ∧ C2 w 119 [.k (wK m1)] [.k (wK m2)] [.k (wK s)] ∧ C2 w 120 [.k (wK xd)] [.k (wK yd)] [.k (wK m3)] ∧ C2 w 115 [.k (wK s)] [.k (wK m3)] [.k (wK a), .k (wK b)])) :
  Calls Tryz.prog 50 #[u0, u1] w (il (ai [.k (wK a), .k (wK b)]) w) := by
 have HD1 := hide hd1
 have HD2 := hide hd2
 have Qa := hide ho1
 have Sc := hide ho2
 have HC := hide hc
 clear hd1 hd2 ho1 ho2 hc
 obtain ⟨ru, c0a, rq, Ee, vg, c0b, ve, Ff, rfl, f0a, Aw⟩ := Ke h0
 obtain ⟨wu, c1a, wm, Gg, zt, zq, zo, Jn, rfl, f1a, Ps⟩ := Ke h1
 go_enter Tryz.func50, Tryz.ntmps50
 go_upto_region 1 with fail
 have hO := (Own.push (T := 63) (ls := zX) (cs := [.slice none 0 0, .bool false, .slice none 0 0, .bool false]) (Own.push (T := 63) (ls := [.k (wK yn), .k (wK ye)]) (cs := [.slice wu (List.length wm) c1a, .bool Gg, .slice zt (List.length zo) zq, .bool Jn]) (Own.push (T := 63) (ls := [.k (wK xn), .k (wK xe)]) (cs := [.slice ru (List.length rq) c0a, .bool Ee, .slice vg (List.length ve) c0b, .bool Ff]) (Own.nil w) (gu.w f0a (gu.w Aw rfl)) (w.heap.size) rfl) (((gu.w f1a (gu.w Ps rfl)) : gu w [.k (wK yn), .k (wK ye)] [.slice wu (List.length wm) c1a, .bool Gg, .slice zt (List.length zo) zq, .bool Jn]).below (by repeat (first | exact Below.refl _ _ | refine jc ?_ _))) (w.heap.size + 1) (by simp only [World.size_alloc])) (((gu.vs w [.slice none 0 0, .bool false, .slice none 0 0, .bool false] rfl) : gu w zX [.slice none 0 0, .bool false, .slice none 0 0, .bool false]).below (by repeat (first | exact Below.refl _ _ | refine jc ?_ _))) (w.heap.size + 2) (by simp only [World.size_alloc]))
 generalize ((w.alloc (.cells #[.slice ru (List.length rq) c0a, .bool Ee, .slice vg (List.length ve) c0b, .bool Ff] 63)).alloc (.cells #[.slice wu (List.length wm) c1a, .bool Gg, .slice zt (List.length zo) zq, .bool Jn] 63)).alloc (.cells #[.slice none 0 0, .bool false, .slice none 0 0, .bool false] 63) = W0 at *
 have HO := hide hO
 clear hO
 go_upto_region 1 with fail
 go_upto_region 1 with fail
 refine Rg.Ri 8 37 (fun k => if k = 6 then 5 else 6) (Rg.pick [ai [.k (wK xn), .k (wK xe)], ai [.k (wK xd)], ai [.k (wK yn), .k (wK ye)], ai [.k (wK yd)], fun _ _ => True, fun _ _ => True, fun _ _ => True, fun _ _ => True]) (az w [(w.heap.size + 2, 63, zX), (w.heap.size + 1, 63, [.k (wK yn), .k (wK ye)]), (w.heap.size, 63, [.k (wK xn), .k (wK xe)])] W0) (EX W0.heap.size 61) (J2 61 2 W0.heap.size 4 5 6 7 [.k (wK xd)] [.k (wK yd)]) kr kr kr rfl (Rg.fq.pick ⟨(sw _), (sw _), (sw _), (sw _), (vw), (vw), (vw), (vw), trivial⟩) (az.start (aa HO)) (fun _ => J2.start) (fun _ _ _ _ h => J2.congr (n := 8) (by decide) h)
  (Rg.ja (Aj (fw ll rf aF [] [.k (wK xn), .k (wK xe)] []))
   (Rg.ja (Aj (wh Tryz.func117 kr rfl az.step (aT 0) (fun W v0 hG h0 => aa HD1 W v0 hG.bel h0)))
   (Rg.ja (Aj (fw ll ky aF [] [.k (wK yn), .k (wK ye)] []))
   (Rg.ja (Aj (wh Tryz.func117 kr rfl az.step (aT 2) (fun W v0 hG h0 => aa HD2 W v0 hG.bel h0)))
   (Rg.ja (Oc aem rfl rfl rfl)
   (Rg.ja (Ot aem rfl rfl rfl)
   (Rg.ja (Ob (aa HO) Xb kr (aT 1) rfl rfl rfl)
   (Rg.ja (Oq (aa HO) Xb kr (aT 3) rfl rfl rfl)
   Rg.Jt)))))))) ?_
 intro v1 V1 hG1 hJ1 hv1 hne1
 simp only [Rg.puts, Act.put, tA]
 obtain ⟨_, _, hd1, hf1, hg1⟩ := hJ1
 obtain ⟨avw, e4, hge4, hz4⟩ := (hf1 trivial).2
 obtain ⟨ahw, e5, Pp, Vm⟩ := (hg1 trivial).2
 simp only [e4, e5]
 have hO := Own.Wn (aa HO) hG1.2 hge4 hz4 Pp Vm (fun h => hd1 trivial trivial (by rw [e4, e5, h]))
 clear hge4 hz4 Pp Vm hd1 hf1 hg1
 clear HO
 have HO := hide hO
 clear hO hG1 hv1 hne1
 try clear e4 e5
 rcases aa HC with ⟨rfl, rfl, rfl, hp⟩ | ⟨ho, hp⟩
 ·
  have HOP := hide hp
  clear hp HC
  go_upto_region 2 with fail
  refine Rg.dz 6 37 (Rg.pick [ai [.k (wK xd)], Rg.ax (.bool true), Rg.ax (.bool true), ai [.k (wK yd)], Rg.ax (.bool true), Rg.ax (.bool true)]) (az w _ V1) gm [] kr rfl (Rg.fq.pick ⟨au _, Rg.ae _, Rg.ae _, au _, Rg.ae _, Rg.ae _, trivial⟩) (az.begin (aa HO))
   (ag (fw qw ky aF [] [.k (wK xd)] [])
   (ag (sc1 Tryz.func118 (aT 0) (fun W v0 hG h0 => aa Qa W v0 hG.bel h0))
   (ag (dm rfl (aT 1))
   (Rg.ay (Rg.fe (d := 13) rfl kr rfl (fw qw me0 aF [] [.k (wK yd)] []))
   (Rg.ay (Rg.fe (d := 13) rfl kr rfl (wh Tryz.func118 kr rfl az.step (aT 3) (fun W v0 hG h0 => aa Sc W v0 hG.bel h0)))
   (ag (mr rfl (aT 2) (aT 4))
   Rg.bg)))))) ?_
  intro v2 V2 hG2 hv2 hne2
  simp only [Rg.puts, Act.put, tA]
  have e5 : v2 5 = .bool true := hv2 5 (by decide)
  simp only [e5]
  have hO := hG2.1
  clear HO
  have HO := hide hO
  clear hO hG2 hv2 hne2
  try clear e5
  go_upto_region 3 with fail
  refine Rg.region 7 37 (Rg.pick [Rg.ax (.pointer (some ⟨w.heap.size, 0, none⟩)), ai [.k (wK xn)], Rg.ax (.pointer (some ⟨w.heap.size + 1, 0, none⟩)), ai [.k (wK yn)], ai [.k (wK a)], ai [.k (wK xd)], ai [.k (wK a), .k (wK xd)]]) (az w _ V2) gm [] kr kr rfl (Rg.fq.pick ⟨Rg.ae _, au _, Rg.ae _, au _, au _, au _, au _, trivial⟩) (az.start (aa HO))
   (ag (zw (b := w.heap.size) (off := 0) rfl aF rfl rfl)
   (ag (fw qw Uk (aT 0) [] [.k (wK xn)] [.k (wK xe)])
   (ag (zw (b := w.heap.size + 1) (off := 0) rfl aF rfl rfl)
   (ag (fw qw Ed (aT 2) [] [.k (wK yn)] [.k (wK ye)])
   (ag (sc2 Tryz.func119 (aT 1) (aT 3) (fun W v0 v1 hG h0 h1 => aa HOP W v0 v1 hG.bel h0 h1))
   (ag (fw qw ky aF [] [.k (wK xd)] [])
   (ag (xx aci rfl (aT 4) (aT 5) rfl rfl rfl)
   Rg.bg))))))) ?_
  intro v3 V3 hG3 hv3 mf
  simp only [Rg.puts, Act.put, tA]
  have hO := hG3.1
  refine jd hO 2 [] zX [.k (wK a), .k (wK xd)] [] rfl Bp rfl (show ai [.k (wK a), .k (wK xd)] V3 (v3 6) from hv3 6 (by decide)) rfl rfl rfl ?_
  intro Da gy hk0
  replace hO := gy
  clear gy
  clear HO
  have HO := hide hO
  clear hO hG3 hv3 mf hk0
  go_wp2_with fail
  exact xu Tryz.results50 Gd rfl (aa HO) rf rfl rfl
 ·
  obtain ⟨h0, h1, h2, h3, h4⟩ := hp
  have HM1 := hide h0
  have HM2 := hide h1
  have HS := hide h2
  have HM3 := hide h3
  have HR := hide h4
  clear h0 h1 h2 h3 h4 HC
  rcases ho with rfl | ⟨rfl, rfl⟩
  ·
   go_upto_region 2 with fail
   refine Rg.dz 6 37 (Rg.pick [ai [.k (wK xd)], Rg.ax (.bool false), Rg.ax (.bool false), Rg.ax undef, Rg.ax undef, Rg.ax (.bool false)]) (az w _ V1) gm [] kr rfl (Rg.fq.pick ⟨au _, Rg.ae _, Rg.ae _, Rg.ae _, Rg.ae _, Rg.ae _, trivial⟩) (az.begin (aa HO))
    (ag (fw qw ky aF [] [.k (wK xd)] [])
    (ag (sc1 Tryz.func118 (aT 0) (fun W v0 hG h0 => aa Qa W v0 hG.bel h0))
    (ag (dm rfl (aT 1))
    (Rg.ay (Rg.jb (d := 13) rfl kr rfl rfl iy rfl rfl)
    (Rg.ay (Rg.jb (d := 13) rfl kr rfl rfl iy rfl rfl)
    (ag (qi rfl (aT 2) (Rg.je _))
    Rg.bg)))))) ?_
   intro v2 V2 hG2 hv2 hne2
   simp only [Rg.puts, Act.put, tA]
   have e5 : v2 5 = .bool false := hv2 5 (by decide)
   simp only [e5]
   have hO := hG2.1
   clear HO
   have HO := hide hO
   clear hO hG2 hv2 hne2
   try clear e5
   go_upto_region 4 with fail
   refine Rg.region 13 37 (Rg.pick [Rg.ax (.pointer (some ⟨w.heap.size, 0, none⟩)), ai [.k (wK xn)], ai [.k (wK yd)], ai [.k (wK m1)], Rg.ax (.pointer (some ⟨w.heap.size + 1, 0, none⟩)), ai [.k (wK yn)], ai [.k (wK xd)], ai [.k (wK m2)], ai [.k (wK s)], ai [.k (wK xd)], ai [.k (wK yd)], ai [.k (wK m3)], ai [.k (wK a), .k (wK b)]]) (az w _ V2) gm [] kr kr rfl (Rg.fq.pick ⟨Rg.ae _, au _, au _, au _, Rg.ae _, au _, au _, au _, au _, au _, au _, au _, au _, trivial⟩) (az.start (aa HO))
    (ag (zw (b := w.heap.size) (off := 0) rfl aF rfl rfl)
    (ag (fw qw Uk (aT 0) [] [.k (wK xn)] [.k (wK xe)])
    (ag (fw qw me0 aF [] [.k (wK yd)] [])
    (ag (sc2 Tryz.func120 (aT 1) (aT 2) (fun W v0 v1 hG h0 h1 => aa HM1 W v0 v1 hG.bel h0 h1))
    (ag (zw (b := w.heap.size + 1) (off := 0) rfl aF rfl rfl)
    (ag (fw qw Ed (aT 4) [] [.k (wK yn)] [.k (wK ye)])
    (ag (fw qw ky aF [] [.k (wK xd)] [])
    (ag (sc2 Tryz.func120 (aT 5) (aT 6) (fun W v0 v1 hG h0 h1 => aa HM2 W v0 v1 hG.bel h0 h1))
    (ag (sc2 Tryz.func119 (aT 3) (aT 7) (fun W v0 v1 hG h0 h1 => aa HS W v0 v1 hG.bel h0 h1))
    (ag (fw qw ky aF [] [.k (wK xd)] [])
    (ag (fw qw me0 aF [] [.k (wK yd)] [])
    (ag (sc2 Tryz.func120 (aT 9) (aT 10) (fun W v0 v1 hG h0 h1 => aa HM3 W v0 v1 hG.bel h0 h1))
    (ag (sc2 Tryz.func115 (aT 8) (aT 11) (fun W v0 v1 hG h0 h1 => aa HR W v0 v1 hG.bel h0 h1))
    Rg.bg))))))))))))) ?_
   intro v3 V3 hG3 hv3 mf
   simp only [Rg.puts, Act.put, tA]
   have hO := hG3.1
   refine jd hO 2 [] zX [.k (wK a), .k (wK b)] [] rfl Bp rfl (show ai [.k (wK a), .k (wK b)] V3 (v3 12) from hv3 12 (by decide)) rfl rfl rfl ?_
   intro Da gy hk0
   replace hO := gy
   clear gy
   clear HO
   have HO := hide hO
   clear hO hG3 hv3 mf hk0
   go_wp2_with fail
   exact xu Tryz.results50 Gd rfl (aa HO) rf rfl rfl
  ·
   go_upto_region 2 with fail
   refine Rg.dz 6 37 (Rg.pick [ai [.k (wK xd)], Rg.ax (.bool true), Rg.ax (.bool true), ai [.k (wK yd)], Rg.ax (.bool false), Rg.ax (.bool false)]) (az w _ V1) gm [] kr rfl (Rg.fq.pick ⟨au _, Rg.ae _, Rg.ae _, au _, Rg.ae _, Rg.ae _, trivial⟩) (az.begin (aa HO))
    (ag (fw qw ky aF [] [.k (wK xd)] [])
    (ag (sc1 Tryz.func118 (aT 0) (fun W v0 hG h0 => aa Qa W v0 hG.bel h0))
    (ag (dm rfl (aT 1))
    (Rg.ay (Rg.fe (d := 13) rfl kr rfl (fw qw me0 aF [] [.k (wK yd)] []))
    (Rg.ay (Rg.fe (d := 13) rfl kr rfl (wh Tryz.func118 kr rfl az.step (aT 3) (fun W v0 hG h0 => aa Sc W v0 hG.bel h0)))
    (ag (mr rfl (aT 2) (aT 4))
    Rg.bg)))))) ?_
   intro v2 V2 hG2 hv2 hne2
   simp only [Rg.puts, Act.put, tA]
   have e5 : v2 5 = .bool false := hv2 5 (by decide)
   simp only [e5]
   have hO := hG2.1
   clear HO
   have HO := hide hO
   clear hO hG2 hv2 hne2
   try clear e5
   go_upto_region 4 with fail
   refine Rg.region 13 37 (Rg.pick [Rg.ax (.pointer (some ⟨w.heap.size, 0, none⟩)), ai [.k (wK xn)], ai [.k (wK yd)], ai [.k (wK m1)], Rg.ax (.pointer (some ⟨w.heap.size + 1, 0, none⟩)), ai [.k (wK yn)], ai [.k (wK xd)], ai [.k (wK m2)], ai [.k (wK s)], ai [.k (wK xd)], ai [.k (wK yd)], ai [.k (wK m3)], ai [.k (wK a), .k (wK b)]]) (az w _ V2) gm [] kr kr rfl (Rg.fq.pick ⟨Rg.ae _, au _, au _, au _, Rg.ae _, au _, au _, au _, au _, au _, au _, au _, au _, trivial⟩) (az.start (aa HO))
    (ag (zw (b := w.heap.size) (off := 0) rfl aF rfl rfl)
    (ag (fw qw Uk (aT 0) [] [.k (wK xn)] [.k (wK xe)])
    (ag (fw qw me0 aF [] [.k (wK yd)] [])
    (ag (sc2 Tryz.func120 (aT 1) (aT 2) (fun W v0 v1 hG h0 h1 => aa HM1 W v0 v1 hG.bel h0 h1))
    (ag (zw (b := w.heap.size + 1) (off := 0) rfl aF rfl rfl)
    (ag (fw qw Ed (aT 4) [] [.k (wK yn)] [.k (wK ye)])
    (ag (fw qw ky aF [] [.k (wK xd)] [])
    (ag (sc2 Tryz.func120 (aT 5) (aT 6) (fun W v0 v1 hG h0 h1 => aa HM2 W v0 v1 hG.bel h0 h1))
    (ag (sc2 Tryz.func119 (aT 3) (aT 7) (fun W v0 v1 hG h0 h1 => aa HS W v0 v1 hG.bel h0 h1))
    (ag (fw qw ky aF [] [.k (wK xd)] [])
    (ag (fw qw me0 aF [] [.k (wK yd)] [])
    (ag (sc2 Tryz.func120 (aT 9) (aT 10) (fun W v0 v1 hG h0 h1 => aa HM3 W v0 v1 hG.bel h0 h1))
    (ag (sc2 Tryz.func115 (aT 8) (aT 11) (fun W v0 v1 hG h0 h1 => aa HR W v0 v1 hG.bel h0 h1))
    Rg.bg))))))))))))) ?_
   intro v3 V3 hG3 hv3 mf
   simp only [Rg.puts, Act.put, tA]
   have hO := hG3.1
   refine jd hO 2 [] zX [.k (wK a), .k (wK b)] [] rfl Bp rfl (show ai [.k (wK a), .k (wK b)] V3 (v3 12) from hv3 12 (by decide)) rfl rfl rfl ?_
   intro Da gy hk0
   replace hO := gy
   clear gy
   clear HO
   have HO := hide hO
   clear hO hG3 hv3 mf hk0
   go_wp2_with fail
   exact xu Tryz.results50 Gd rfl (aa HO) rf rfl rfl
end Sb

end Go.Proofs.YtjdnmdlnaoedoaaGreatDoor
