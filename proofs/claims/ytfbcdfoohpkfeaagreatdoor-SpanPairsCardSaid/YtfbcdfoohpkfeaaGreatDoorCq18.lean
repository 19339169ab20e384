/- Texts beneath a law of layer 1. -/
import Derived.Test.YtfbcdfoohpkfeaaGreatDoorCq17
set_option maxRecDepth 100000
namespace Go.Proofs.YtfbcdfoohpkfeaaGreatDoor
open Go.RowKit

namespace Sb
set_option maxHeartbeats 16000000 in
theorem aku {bf az ay ax dm di dh df : Int} (t : Gi) (b : Bool) (w : World) (u0 : Value) (h0 : bg [iv bf, iv az, iv ay, iv ax] w u0) (u1 : Value) (h1 : bg [iv dm, iv di, iv dh, iv df] w u1)
  (hr : (su [⟨bf, az, ay, ax⟩, ⟨dm, di, dh, df⟩] = 1 → t = ⟨0, 0, 0, 0, 1⟩ ∧ b = false) ∧ (su [⟨bf, az, ay, ax⟩, ⟨dm, di, dh, df⟩] = 0 → (¬ ja ((eu (Wd.qR bf az) [(Wd.qR dm di)]).num * (fe (Wd.qR ay ax) [(Wd.qR dh df)]).den - (fe (Wd.qR ay ax) [(Wd.qR dh df)]).num * (eu (Wd.qR bf az) [(Wd.qR dm di)]).den) ≤ 0 → t = ⟨0, 0, 0, 0, 0⟩ ∧ b = false) ∧ (ja ((eu (Wd.qR bf az) [(Wd.qR dm di)]).num * (fe (Wd.qR ay ax) [(Wd.qR dh df)]).den - (fe (Wd.qR ay ax) [(Wd.qR dh df)]).num * (eu (Wd.qR bf az) [(Wd.qR dm di)]).den) ≤ 0 → t = (gu (eu (Wd.qR bf az) [(Wd.qR dm di)]) (fe (Wd.qR ay ax) [(Wd.qR dh df)])) ∧ b = ((gu (eu (Wd.qR bf az) [(Wd.qR dm di)]) (fe (Wd.qR ay ax) [(Wd.qR dh df)])).e == 0)))) :
  Calls Tryz.prog 38 #[u0, u1] w (nk (qj [bg [.v (.int .i64 t.a), .v (.int .i64 t.b), .v (.int .i64 t.c), .v (.int .i64 t.d)], Rg.cz (.bool b), Rg.cz (.int .i64 t.e)]) w) := by
 have HR := hide hr
 clear hr
 have hu0 := Ak h0
 subst hu0
 have hu1 := Ak h1
 subst hu1
 go_enter Tryz.func38, Tryz.ntmps38
 go_upto_region 1 with fail
 have hO := (Own.push (T := 41) (ls := zS) (cs := [.int .i64 0, .int .i64 0, .int .i64 0, .int .i64 0]) (Own.push (T := 41) (ls := [iv dm, iv di, iv dh, iv df]) (cs := [.int .i64 dm, .int .i64 di, .int .i64 dh, .int .i64 df]) (Own.push (T := 41) (ls := [iv bf, iv az, iv ay, iv ax]) (cs := [.int .i64 bf, .int .i64 az, .int .i64 ay, .int .i64 ax]) (Own.nil w) (jf.v (jl _) (jf.v (jl _) (jf.v (jl _) (jf.v (jl _) rfl)))) (w.heap.size) rfl) (((jf.v (jl _) (jf.v (jl _) (jf.v (jl _) (jf.v (jl _) rfl)))) : jf w [iv dm, iv di, iv dh, iv df] [.int .i64 dm, .int .i64 di, .int .i64 dh, .int .i64 df]).below (by repeat (first | exact Below.refl _ _ | refine jk ?_ _))) (w.heap.size + 1) (by simp only [World.size_alloc])) (((jf.vs w [.int .i64 0, .int .i64 0, .int .i64 0, .int .i64 0] rfl) : jf w zS [.int .i64 0, .int .i64 0, .int .i64 0, .int .i64 0]).below (by repeat (first | exact Below.refl _ _ | refine jk ?_ _))) (w.heap.size + 2) (by simp only [World.size_alloc]))
 generalize ((w.alloc (.cells #[.int .i64 bf, .int .i64 az, .int .i64 ay, .int .i64 ax] 41)).alloc (.cells #[.int .i64 dm, .int .i64 di, .int .i64 dh, .int .i64 df] 41)).alloc (.cells #[.int .i64 0, .int .i64 0, .int .i64 0, .int .i64 0] 41) = W0 at *
 have HO := hide hO
 clear hO
 by_cases g1 : Bu bf az ay ax
 ·
  by_cases g2 : Bu dm di dh df
  ·
   have k1 : decide (Bu bf az ay ax) = true := decide_eq_true g1
   have k2 : decide (Bu dm di dh df) = true := decide_eq_true g2
   go_upto_region 1 with fail
   refine Rg.ik 8 40 (Rg.pick [bg [iv bf, iv az, iv ay, iv ax], Rg.cz (.bool true), Rg.cz (.bool false), Rg.cz (.bool false), bg [iv dm, iv di, iv dh, iv df], Rg.cz (.bool true), Rg.cz (.bool false), Rg.cz (.bool false)]) (dw w [(w.heap.size + 2, 41, zS), (w.heap.size + 1, 41, [iv dm, iv di, iv dh, iv df]), (w.heap.size, 41, [iv bf, iv az, iv ay, iv ax])] W0) jb [] kr rfl (Rg.iq.pick ⟨cu _, Rg.ag _, Rg.ag _, Rg.ag _, cu _, Rg.ag _, Rg.ag _, Rg.ag _, trivial⟩) (dw.begin (aa HO))
    (ah (je qi ug (Rg.gm kr rfl) [] [iv bf, iv az, iv ay, iv ax] [])
    (ah (ku Tryz.func85 kr rfl dw.step (Rg.ai 0 kr) (fun W v0 hG h0 => k1 ▸ Hy W _ h0))
    (ah (Bj rfl (Rg.ai 1 kr) rfl rfl)
    (ah (il rfl (Rg.ai 2 kr))
    (Rg.dz (Rg.iy (d := 14) rfl kr rfl (je qi rf (Rg.gm kr rfl) [] [iv dm, iv di, iv dh, iv df] []))
    (Rg.dz (Rg.iy (d := 14) rfl kr rfl (ku Tryz.func85 kr rfl dw.step (Rg.ai 4 kr) (fun W v0 hG h0 => k2 ▸ Hy W _ h0)))
    (Rg.dz (Rg.iy (d := 14) rfl kr rfl (Bj rfl (Rg.ai 5 kr) rfl rfl))
    (ah (zk rfl (Rg.ai 3 kr) (Rg.ai 6 kr))
    Rg.fq)))))))) ?_
   intro v1 V1 hG1 hv1 hne1
   simp only [Rg.puts, ko, kg, jy, jw, Act.put, jr, jq, jo]
   have e7 : v1 7 = .bool false := hv1 7 (by decide)
   simp only [e7]
   have hO := hG1.1
   clear HO
   have HO := hide hO
   clear hO hG1 hv1 hne1
   try clear e7
   have g0 : su [⟨bf, az, ay, ax⟩, ⟨dm, di, dh, df⟩] = 0 := agm g1 g2
   clear k1 k2
   have HR2 := hide ((aa HR).2 g0)
   have HQ := hide (And.intro g1 g2)
   clear HR g0 g1 g2
   go_upto_region 3 with fail
   go_upto_region 3 with fail
   refine Rg.aat 11 40 (fun _ => 7) (Rg.pick [bg [iv bf, iv az, iv ay, iv ax], bg [.r (Wd.qR bf az), .r (Wd.qR ay ax)], bg [iv dm, iv di, iv dh, iv df], bg [.r (Wd.qR dm di), .r (Wd.qR dh df)], qj [bg [.r (eu (Wd.qR bf az) [(Wd.qR dm di)]), .r (fe (Wd.qR ay ax) [(Wd.qR dh df)])], Rg.cz (.bool (decide (ja ((eu (Wd.qR bf az) [(Wd.qR dm di)]).num * (fe (Wd.qR ay ax) [(Wd.qR dh df)]).den - (fe (Wd.qR ay ax) [(Wd.qR dh df)]).num * (eu (Wd.qR bf az) [(Wd.qR dm di)]).den) ≤ 0)))], qj [bg [.r (eu (Wd.qR bf az) [(Wd.qR dm di)]), .r (fe (Wd.qR ay ax) [(Wd.qR dh df)])], Rg.cz (.bool (decide (ja ((eu (Wd.qR bf az) [(Wd.qR dm di)]).num * (fe (Wd.qR ay ax) [(Wd.qR dh df)]).den - (fe (Wd.qR ay ax) [(Wd.qR dh df)]).num * (eu (Wd.qR bf az) [(Wd.qR dm di)]).den) ≤ 0)))], bg [.r (eu (Wd.qR bf az) [(Wd.qR dm di)]), .r (fe (Wd.qR ay ax) [(Wd.qR dh df)])], Rg.cz (.bool (decide (ja ((eu (Wd.qR bf az) [(Wd.qR dm di)]).num * (fe (Wd.qR ay ax) [(Wd.qR dh df)]).den - (fe (Wd.qR ay ax) [(Wd.qR dh df)]).num * (eu (Wd.qR bf az) [(Wd.qR dm di)]).den) ≤ 0))), Yb 100 8 V1.heap.size, Vq 100 [.r (eu (Wd.qR bf az) [(Wd.qR dm di)]), .r (fe (Wd.qR ay ax) [(Wd.qR dh df)])] V1.heap.size, Rg.cz (.bool (decide (ja ((eu (Wd.qR bf az) [(Wd.qR dm di)]).num * (fe (Wd.qR ay ax) [(Wd.qR dh df)]).den - (fe (Wd.qR ay ax) [(Wd.qR dh df)]).num * (eu (Wd.qR bf az) [(Wd.qR dm di)]).den) ≤ 0)))]) (dw w [(w.heap.size + 2, 41, zS), (w.heap.size + 1, 41, [iv dm, iv di, iv dh, iv df]), (w.heap.size, 41, [iv bf, iv az, iv ay, iv ax])] V1) (EN V1.heap.size 100 [.r (eu (Wd.qR bf az) [(Wd.qR dm di)]), .r (fe (Wd.qR ay ax) [(Wd.qR dh df)])]) kr kr kr rfl (Rg.iq.pick ⟨(zn _), (zn _), (zn _), (zn _), (Pk ⟨(zn _), (Df _), trivial⟩), (Pk ⟨(zn _), (Df _), trivial⟩), (zn _), (Df _), (Rz), (Uk), (Df _), trivial⟩) (dw.start (aa HO))
    (Rg.pz (Rg.uw rfl rfl (ry (je qi ug (Rg.gm kr rfl) [] [iv bf, iv az, iv ay, iv ax] [])))
     (Rg.pz (Rg.uw rfl rfl (ry (ku Tryz.func86 kr rfl dw.step (Rg.ai 0 kr) (fun W v0 hG h0 => Zy ⟨(aa HQ).1.1, (aa HQ).1.2.1⟩ W _ h0))))
     (Rg.pz (Rg.uw rfl rfl (ry (je qi rf (Rg.gm kr rfl) [] [iv dm, iv di, iv dh, iv df] [])))
     (Rg.pz (Rg.uw rfl rfl (ry (ku Tryz.func86 kr rfl dw.step (Rg.ai 2 kr) (fun W v0 hG h0 => Zy ⟨(aa HQ).2.1, (aa HQ).2.2.1⟩ W _ h0))))
     (Rg.pz (Rg.uw rfl rfl (ry (ll Tryz.func106 kr rfl dw.step (Rg.ai 1 kr) (Rg.ai 3 kr) (fun W v0 v1 hG h0 h1 => apx (Cq (aa HQ).1.1) (Cq (aa HQ).1.2.1) (Cq (aa HQ).2.1) (Cq (aa HQ).2.2.1) W _ h0 _ h1))))
     (Rg.pz (Rg.uw rfl rfl (ry (il rfl (Rg.ai 4 kr))))
     (Rg.pz (Rg.uw rfl rfl (ry (oo (ts := [bg [.r (eu (Wd.qR bf az) [(Wd.qR dm di)]), .r (fe (Wd.qR ay ax) [(Wd.qR dh df)])], Rg.cz (.bool (decide (ja ((eu (Wd.qR bf az) [(Wd.qR dm di)]).num * (fe (Wd.qR ay ax) [(Wd.qR dh df)]).den - (fe (Wd.qR ay ax) [(Wd.qR dh df)]).num * (eu (Wd.qR bf az) [(Wd.qR dm di)]).den) ≤ 0)))]) rfl (Rg.ai 5 kr) (of_decide_eq_true rfl) rfl)))
     (Rg.pz (Rg.uw rfl rfl (ry (oo (ts := [bg [.r (eu (Wd.qR bf az) [(Wd.qR dm di)]), .r (fe (Wd.qR ay ax) [(Wd.qR dh df)])], Rg.cz (.bool (decide (ja ((eu (Wd.qR bf az) [(Wd.qR dm di)]).num * (fe (Wd.qR ay ax) [(Wd.qR dh df)]).den - (fe (Wd.qR ay ax) [(Wd.qR dh df)]).num * (eu (Wd.qR bf az) [(Wd.qR dm di)]).den) ≤ 0)))]) rfl (Rg.ai 5 kr) (of_decide_eq_true rfl) rfl)))
     (Rg.pz (Rg.uw rfl rfl (ry (Xa ads rfl rfl dw.step dw.size rfl)))
     (Rg.pz (Wz (aa HO) Gr (Rg.ai 8 kr) (Rg.ai 6 kr) rfl rfl rfl)
     (Rg.pz (Rg.uw rfl rfl (ry (ma rfl (Rg.ai 7 kr))))
     Rg.Ry))))))))))) ?_
   intro v2 V2 hG2 hv2 hne2
   simp only [Rg.puts, ko, kg, jy, jw, Act.put, jr, jq, jo]
   have e7 : v2 7 = .bool (decide (ja ((eu (Wd.qR bf az) [(Wd.qR dm di)]).num * (fe (Wd.qR ay ax) [(Wd.qR dh df)]).den - (fe (Wd.qR ay ax) [(Wd.qR dh df)]).num * (eu (Wd.qR bf az) [(Wd.qR dm di)]).den) ≤ 0)) := hv2 7 (by decide)
   have e10 : v2 10 = .bool (decide (ja ((eu (Wd.qR bf az) [(Wd.qR dm di)]).num * (fe (Wd.qR ay ax) [(Wd.qR dh df)]).den - (fe (Wd.qR ay ax) [(Wd.qR dh df)]).num * (eu (Wd.qR bf az) [(Wd.qR dm di)]).den) ≤ 0)) := hv2 10 (by decide)
   have e98 : v2 9 = v2 8 := hne2 9 8 (by decide) (by decide) rfl rfl
   obtain ⟨Xu, e8, Vb, hz8⟩ := (show Vq 100 [.r (eu (Wd.qR bf az) [(Wd.qR dm di)]), .r (fe (Wd.qR ay ax) [(Wd.qR dh df)])] V1.heap.size V2 (v2 9) from hv2 9 (by decide))
   rw [e98] at e8
   clear e98
   simp only [e7, e10, e8]
   have hO := Own.add (aa HO) hG2.2 Vb hz8
   clear Vb hz8
   clear HO
   have HO := hide hO
   clear hO hG2 hv2 hne2
   try clear e7 e10 e8
   by_cases g1 : ja ((eu (Wd.qR bf az) [(Wd.qR dm di)]).num * (fe (Wd.qR ay ax) [(Wd.qR dh df)]).den - (fe (Wd.qR ay ax) [(Wd.qR dh df)]).num * (eu (Wd.qR bf az) [(Wd.qR dm di)]).den) ≤ 0
   ·
    have k2 : (decide (ja ((eu (Wd.qR bf az) [(Wd.qR dm di)]).num * (fe (Wd.qR ay ax) [(Wd.qR dh df)]).den - (fe (Wd.qR ay ax) [(Wd.qR dh df)]).num * (eu (Wd.qR bf az) [(Wd.qR dm di)]).den) ≤ 0)) = true := decide_eq_true g1
    have k2' : (!(decide (ja ((eu (Wd.qR bf az) [(Wd.qR dm di)]).num * (fe (Wd.qR ay ax) [(Wd.qR dh df)]).den - (fe (Wd.qR ay ax) [(Wd.qR dh df)]).num * (eu (Wd.qR bf az) [(Wd.qR dm di)]).den) ≤ 0))) = false := by rw [k2]; rfl
    obtain ⟨rfl, rfl⟩ := (aa HR2).2 g1
    clear HR2
    go_upto_region 4 with fail
    refine Rg.ik 2 40 (Rg.pick [Rg.cz (.bool (decide (ja ((eu (Wd.qR bf az) [(Wd.qR dm di)]).num * (fe (Wd.qR ay ax) [(Wd.qR dh df)]).den - (fe (Wd.qR ay ax) [(Wd.qR dh df)]).num * (eu (Wd.qR bf az) [(Wd.qR dm di)]).den) ≤ 0))), Rg.cz (.bool false)]) (dw w [(Xu, 100, [.r (eu (Wd.qR bf az) [(Wd.qR dm di)]), .r (fe (Wd.qR ay ax) [(Wd.qR dh df)])]), (w.heap.size + 2, 41, zS), (w.heap.size + 1, 41, [iv dm, iv di, iv dh, iv df]), (w.heap.size, 41, [iv bf, iv az, iv ay, iv ax])] V2) jb [] kr rfl (Rg.iq.pick ⟨Rg.ag _, Rg.ag _, trivial⟩) (dw.begin (aa HO))
     (ah (il rfl (Rg.gm kr rfl))
     (ah (Bj rfl (Rg.ai 0 kr) rfl k2')
     Rg.fq)) ?_
    intro v3 V3 hG3 hv3 si
    simp only [Rg.puts, ko, kg, jy, jw, Act.put, jr, jq, jo]
    have e1 : v3 1 = .bool false := hv3 1 (by decide)
    simp only [e1]
    have hO := hG3.1
    clear HO
    have HO := hide hO
    clear hO hG3 hv3 si
    try clear e1
    clear k2 k2' g1
    go_upto_region 6 with fail
    refine Rg.ik 6 40 (Rg.pick [bg [.r (eu (Wd.qR bf az) [(Wd.qR dm di)]), .r (fe (Wd.qR ay ax) [(Wd.qR dh df)])], qj [bg [iv (gu (eu (Wd.qR bf az) [(Wd.qR dm di)]) (fe (Wd.qR ay ax) [(Wd.qR dh df)])).a, iv (gu (eu (Wd.qR bf az) [(Wd.qR dm di)]) (fe (Wd.qR ay ax) [(Wd.qR dh df)])).b, iv (gu (eu (Wd.qR bf az) [(Wd.qR dm di)]) (fe (Wd.qR ay ax) [(Wd.qR dh df)])).c, iv (gu (eu (Wd.qR bf az) [(Wd.qR dm di)]) (fe (Wd.qR ay ax) [(Wd.qR dh df)])).d], Rg.cz (.int .i64 (gu (eu (Wd.qR bf az) [(Wd.qR dm di)]) (fe (Wd.qR ay ax) [(Wd.qR dh df)])).e)], qj [bg [iv (gu (eu (Wd.qR bf az) [(Wd.qR dm di)]) (fe (Wd.qR ay ax) [(Wd.qR dh df)])).a, iv (gu (eu (Wd.qR bf az) [(Wd.qR dm di)]) (fe (Wd.qR ay ax) [(Wd.qR dh df)])).b, iv (gu (eu (Wd.qR bf az) [(Wd.qR dm di)]) (fe (Wd.qR ay ax) [(Wd.qR dh df)])).c, iv (gu (eu (Wd.qR bf az) [(Wd.qR dm di)]) (fe (Wd.qR ay ax) [(Wd.qR dh df)])).d], Rg.cz (.int .i64 (gu (eu (Wd.qR bf az) [(Wd.qR dm di)]) (fe (Wd.qR ay ax) [(Wd.qR dh df)])).e)], bg [iv (gu (eu (Wd.qR bf az) [(Wd.qR dm di)]) (fe (Wd.qR ay ax) [(Wd.qR dh df)])).a, iv (gu (eu (Wd.qR bf az) [(Wd.qR dm di)]) (fe (Wd.qR ay ax) [(Wd.qR dh df)])).b, iv (gu (eu (Wd.qR bf az) [(Wd.qR dm di)]) (fe (Wd.qR ay ax) [(Wd.qR dh df)])).c, iv (gu (eu (Wd.qR bf az) [(Wd.qR dm di)]) (fe (Wd.qR ay ax) [(Wd.qR dh df)])).d], Rg.cz (.int .i64 (gu (eu (Wd.qR bf az) [(Wd.qR dm di)]) (fe (Wd.qR ay ax) [(Wd.qR dh df)])).e), uf 41 zS V3.heap.size]) (dw w [(Xu, 100, [.r (eu (Wd.qR bf az) [(Wd.qR dm di)]), .r (fe (Wd.qR ay ax) [(Wd.qR dh df)])]), (w.heap.size + 2, 41, zS), (w.heap.size + 1, 41, [iv dm, iv di, iv dh, iv df]), (w.heap.size, 41, [iv bf, iv az, iv ay, iv ax])] V3) jb [5] kr rfl (Rg.iq.pick ⟨cu _, nu ⟨(cu _), (Rg.ag _), trivial⟩, nu ⟨(cu _), (Rg.ag _), trivial⟩, cu _, Rg.ag _, ui _ _ _, trivial⟩) (dw.begin (aa HO))
     (ah (je Rh me0 (Rg.gm kr rfl) [] [.r (eu (Wd.qR bf az) [(Wd.qR dm di)]), .r (fe (Wd.qR ay ax) [(Wd.qR dh df)])] [])
     (ah (ku Tryz.func92 kr rfl dw.step (Rg.ai 0 kr) (fun W v0 hG h0 => ajd W _ h0))
     (ah (il rfl (Rg.ai 1 kr))
     (ah (oo (ts := [bg [iv (gu (eu (Wd.qR bf az) [(Wd.qR dm di)]) (fe (Wd.qR ay ax) [(Wd.qR dh df)])).a, iv (gu (eu (Wd.qR bf az) [(Wd.qR dm di)]) (fe (Wd.qR ay ax) [(Wd.qR dh df)])).b, iv (gu (eu (Wd.qR bf az) [(Wd.qR dm di)]) (fe (Wd.qR ay ax) [(Wd.qR dh df)])).c, iv (gu (eu (Wd.qR bf az) [(Wd.qR dm di)]) (fe (Wd.qR ay ax) [(Wd.qR dh df)])).d], Rg.cz (.int .i64 (gu (eu (Wd.qR bf az) [(Wd.qR dm di)]) (fe (Wd.qR ay ax) [(Wd.qR dh df)])).e)]) rfl (Rg.ai 2 kr) (of_decide_eq_true rfl) rfl)
     (ah (oo (ts := [bg [iv (gu (eu (Wd.qR bf az) [(Wd.qR dm di)]) (fe (Wd.qR ay ax) [(Wd.qR dh df)])).a, iv (gu (eu (Wd.qR bf az) [(Wd.qR dm di)]) (fe (Wd.qR ay ax) [(Wd.qR dh df)])).b, iv (gu (eu (Wd.qR bf az) [(Wd.qR dm di)]) (fe (Wd.qR ay ax) [(Wd.qR dh df)])).c, iv (gu (eu (Wd.qR bf az) [(Wd.qR dm di)]) (fe (Wd.qR ay ax) [(Wd.qR dh df)])).d], Rg.cz (.int .i64 (gu (eu (Wd.qR bf az) [(Wd.qR dm di)]) (fe (Wd.qR ay ax) [(Wd.qR dh df)])).e)]) rfl (Rg.ai 2 kr) (of_decide_eq_true rfl) rfl)
     (ah (vv Sr rfl dw.step dw.size rfl (xx (by intro j hj; simp at hj; (repeat' (first | (rcases hj with rfl | hj))) <;> first | (subst hj; exact ⟨_, _, _, rfl⟩) | exact ⟨_, _, _, rfl⟩)))
     Rg.fq)))))) ?_
    intro v4 V4 hG4 hv4 xh
    simp only [Rg.puts, ko, kg, jy, jw, Act.put, jr, jq, jo]
    have e4 : v4 4 = .int .i64 (gu (eu (Wd.qR bf az) [(Wd.qR dm di)]) (fe (Wd.qR ay ax) [(Wd.qR dh df)])).e := hv4 4 (by decide)
    obtain ⟨bjt, e5, Jz, Qa⟩ := (show uf 41 zS V3.heap.size V4 (v4 5) from hv4 5 (by decide))
    simp only [e4, e5]
    have hO := hG4.1
    replace hO := Own.add (aa HO) hG4.2 Jz Qa
    clear Jz Qa
    refine nz hO 0 [] zS [iv (gu (eu (Wd.qR bf az) [(Wd.qR dm di)]) (fe (Wd.qR ay ax) [(Wd.qR dh df)])).a, iv (gu (eu (Wd.qR bf az) [(Wd.qR dm di)]) (fe (Wd.qR ay ax) [(Wd.qR dh df)])).b, iv (gu (eu (Wd.qR bf az) [(Wd.qR dm di)]) (fe (Wd.qR ay ax) [(Wd.qR dh df)])).c, iv (gu (eu (Wd.qR bf az) [(Wd.qR dm di)]) (fe (Wd.qR ay ax) [(Wd.qR dh df)])).d] [] rfl vo rfl (show bg [iv (gu (eu (Wd.qR bf az) [(Wd.qR dm di)]) (fe (Wd.qR ay ax) [(Wd.qR dh df)])).a, iv (gu (eu (Wd.qR bf az) [(Wd.qR dm di)]) (fe (Wd.qR ay ax) [(Wd.qR dh df)])).b, iv (gu (eu (Wd.qR bf az) [(Wd.qR dm di)]) (fe (Wd.qR ay ax) [(Wd.qR dh df)])).c, iv (gu (eu (Wd.qR bf az) [(Wd.qR dm di)]) (fe (Wd.qR ay ax) [(Wd.qR dh df)])).d] V4 (v4 3) from hv4 3 (by decide)) rfl rfl rfl ?_
    intro Mt ji hk0
    replace hO := ji
    clear ji
    clear HO
    have HO := hide hO
    clear hO hG4 hv4 xh hk0
    try clear e4 e5
    go_upto_region 7 with fail
    refine Rg.ik 4 40 (Rg.pick [bg [iv (gu (eu (Wd.qR bf az) [(Wd.qR dm di)]) (fe (Wd.qR ay ax) [(Wd.qR dh df)])).a, iv (gu (eu (Wd.qR bf az) [(Wd.qR dm di)]) (fe (Wd.qR ay ax) [(Wd.qR dh df)])).b, iv (gu (eu (Wd.qR bf az) [(Wd.qR dm di)]) (fe (Wd.qR ay ax) [(Wd.qR dh df)])).c, iv (gu (eu (Wd.qR bf az) [(Wd.qR dm di)]) (fe (Wd.qR ay ax) [(Wd.qR dh df)])).d], Rg.cz (.int .i64 (gu (eu (Wd.qR bf az) [(Wd.qR dm di)]) (fe (Wd.qR ay ax) [(Wd.qR dh df)])).e), Rg.cz (.bool ((gu (eu (Wd.qR bf az) [(Wd.qR dm di)]) (fe (Wd.qR ay ax) [(Wd.qR dh df)])).e == 0)), Rg.cz (.int .i64 (gu (eu (Wd.qR bf az) [(Wd.qR dm di)]) (fe (Wd.qR ay ax) [(Wd.qR dh df)])).e)]) (dw w [(bjt, 41, [iv (gu (eu (Wd.qR bf az) [(Wd.qR dm di)]) (fe (Wd.qR ay ax) [(Wd.qR dh df)])).a, iv (gu (eu (Wd.qR bf az) [(Wd.qR dm di)]) (fe (Wd.qR ay ax) [(Wd.qR dh df)])).b, iv (gu (eu (Wd.qR bf az) [(Wd.qR dm di)]) (fe (Wd.qR ay ax) [(Wd.qR dh df)])).c, iv (gu (eu (Wd.qR bf az) [(Wd.qR dm di)]) (fe (Wd.qR ay ax) [(Wd.qR dh df)])).d]), (Xu, 100, [.r (eu (Wd.qR bf az) [(Wd.qR dm di)]), .r (fe (Wd.qR ay ax) [(Wd.qR dh df)])]), (w.heap.size + 2, 41, zS), (w.heap.size + 1, 41, [iv dm, iv di, iv dh, iv df]), (w.heap.size, 41, [iv bf, iv az, iv ay, iv ax])] Mt) jb [] kr rfl (Rg.iq.pick ⟨cu _, Rg.ag _, Rg.ag _, Rg.ag _, trivial⟩) (dw.begin (aa HO))
     (ah (je qi me0 (Rg.gm kr rfl) [] [iv (gu (eu (Wd.qR bf az) [(Wd.qR dm di)]) (fe (Wd.qR ay ax) [(Wd.qR dh df)])).a, iv (gu (eu (Wd.qR bf az) [(Wd.qR dm di)]) (fe (Wd.qR ay ax) [(Wd.qR dh df)])).b, iv (gu (eu (Wd.qR bf az) [(Wd.qR dm di)]) (fe (Wd.qR ay ax) [(Wd.qR dh df)])).c, iv (gu (eu (Wd.qR bf az) [(Wd.qR dm di)]) (fe (Wd.qR ay ax) [(Wd.qR dh df)])).d] [])
     (ah (il rfl (Rg.gm kr rfl))
     (ah (He rfl (Rg.ai 1 kr) (Rg.lv _) rfl rfl)
     (ah (il rfl (Rg.gm kr rfl))
     Rg.fq)))) ?_
    intro v5 V5 zo hv5 hne5
    simp only [Rg.puts, ko, kg, jy, jw, Act.put, jr, jq, jo]
    have e2 : v5 2 = .bool ((gu (eu (Wd.qR bf az) [(Wd.qR dm di)]) (fe (Wd.qR ay ax) [(Wd.qR dh df)])).e == 0) := hv5 2 (by decide)
    have e3 : v5 3 = .int .i64 (gu (eu (Wd.qR bf az) [(Wd.qR dm di)]) (fe (Wd.qR ay ax) [(Wd.qR dh df)])).e := hv5 3 (by decide)
    simp only [e2, e3]
    have hO := zo.1
    refine nz hO 2 [] zS [iv (gu (eu (Wd.qR bf az) [(Wd.qR dm di)]) (fe (Wd.qR ay ax) [(Wd.qR dh df)])).a, iv (gu (eu (Wd.qR bf az) [(Wd.qR dm di)]) (fe (Wd.qR ay ax) [(Wd.qR dh df)])).b, iv (gu (eu (Wd.qR bf az) [(Wd.qR dm di)]) (fe (Wd.qR ay ax) [(Wd.qR dh df)])).c, iv (gu (eu (Wd.qR bf az) [(Wd.qR dm di)]) (fe (Wd.qR ay ax) [(Wd.qR dh df)])).d] [] rfl vo rfl (show bg [iv (gu (eu (Wd.qR bf az) [(Wd.qR dm di)]) (fe (Wd.qR ay ax) [(Wd.qR dh df)])).a, iv (gu (eu (Wd.qR bf az) [(Wd.qR dm di)]) (fe (Wd.qR ay ax) [(Wd.qR dh df)])).b, iv (gu (eu (Wd.qR bf az) [(Wd.qR dm di)]) (fe (Wd.qR ay ax) [(Wd.qR dh df)])).c, iv (gu (eu (Wd.qR bf az) [(Wd.qR dm di)]) (fe (Wd.qR ay ax) [(Wd.qR dh df)])).d] V5 (v5 0) from hv5 0 (by decide)) rfl rfl rfl ?_
    intro Lh ji hk0
    replace hO := ji
    clear ji
    clear HO
    have HO := hide hO
    clear hO zo hv5 hne5 hk0
    try clear e2 e3
    go_wp2_with fail
    exact Le Tryz.results38 zq rfl rfl rfl (aa HO) ug rfl rfl
   ·
    have k2 : (decide (ja ((eu (Wd.qR bf az) [(Wd.qR dm di)]).num * (fe (Wd.qR ay ax) [(Wd.qR dh df)]).den - (fe (Wd.qR ay ax) [(Wd.qR dh df)]).num * (eu (Wd.qR bf az) [(Wd.qR dm di)]).den) ≤ 0)) = false := decide_eq_false g1
    have k2' : (!(decide (ja ((eu (Wd.qR bf az) [(Wd.qR dm di)]).num * (fe (Wd.qR ay ax) [(Wd.qR dh df)]).den - (fe (Wd.qR ay ax) [(Wd.qR dh df)]).num * (eu (Wd.qR bf az) [(Wd.qR dm di)]).den) ≤ 0))) = true := by rw [k2]; rfl
    obtain ⟨rfl, rfl⟩ := (aa HR2).1 g1
    clear HR2
    go_upto_region 4 with fail
    refine Rg.ik 2 40 (Rg.pick [Rg.cz (.bool (decide (ja ((eu (Wd.qR bf az) [(Wd.qR dm di)]).num * (fe (Wd.qR ay ax) [(Wd.qR dh df)]).den - (fe (Wd.qR ay ax) [(Wd.qR dh df)]).num * (eu (Wd.qR bf az) [(Wd.qR dm di)]).den) ≤ 0))), Rg.cz (.bool true)]) (dw w [(Xu, 100, [.r (eu (Wd.qR bf az) [(Wd.qR dm di)]), .r (fe (Wd.qR ay ax) [(Wd.qR dh df)])]), (w.heap.size + 2, 41, zS), (w.heap.size + 1, 41, [iv dm, iv di, iv dh, iv df]), (w.heap.size, 41, [iv bf, iv az, iv ay, iv ax])] V2) jb [] kr rfl (Rg.iq.pick ⟨Rg.ag _, Rg.ag _, trivial⟩) (dw.begin (aa HO))
     (ah (il rfl (Rg.gm kr rfl))
     (ah (Bj rfl (Rg.ai 0 kr) rfl k2')
     Rg.fq)) ?_
    intro v3 V3 hG3 hv3 si
    simp only [Rg.puts, ko, kg, jy, jw, Act.put, jr, jq, jo]
    have e1 : v3 1 = .bool true := hv3 1 (by decide)
    simp only [e1]
    have hO := hG3.1
    clear HO
    have HO := hide hO
    clear hO hG3 hv3 si
    try clear e1
    go_upto_region 5 with fail
    refine Rg.ik 1 40 (Rg.pick [bg zS]) (dw w [(Xu, 100, [.r (eu (Wd.qR bf az) [(Wd.qR dm di)]), .r (fe (Wd.qR ay ax) [(Wd.qR dh df)])]), (w.heap.size + 2, 41, zS), (w.heap.size + 1, 41, [iv dm, iv di, iv dh, iv df]), (w.heap.size, 41, [iv bf, iv az, iv ay, iv ax])] V3) jb [] kr rfl (Rg.iq.pick ⟨cu _, trivial⟩) (dw.begin (aa HO))
     (ah (Ca Ce rfl rfl rfl)
     Rg.fq) ?_
    intro v4 V4 hG4 hv4 xh
    simp only [Rg.puts, ko, kg, jy, jw, Act.put, jr, jq, jo]
    have hO := hG4.1
    refine nz hO 1 [] zS zS [] rfl vo rfl (show bg zS V4 (v4 0) from hv4 0 (by decide)) rfl rfl rfl ?_
    intro Mt ji hk0
    replace hO := ji
    clear ji
    clear HO
    have HO := hide hO
    clear hO hG4 hv4 xh hk0
    go_wp2_with fail
    exact Le Tryz.results38 zq rfl rfl rfl (aa HO) rf rfl rfl
  ·
   have k1 : decide (Bu bf az ay ax) = true := decide_eq_true g1
   have k2 : decide (Bu dm di dh df) = false := decide_eq_false g2
   go_upto_region 1 with fail
   refine Rg.ik 8 40 (Rg.pick [bg [iv bf, iv az, iv ay, iv ax], Rg.cz (.bool true), Rg.cz (.bool false), Rg.cz (.bool false), bg [iv dm, iv di, iv dh, iv df], Rg.cz (.bool false), Rg.cz (.bool true), Rg.cz (.bool true)]) (dw w [(w.heap.size + 2, 41, zS), (w.heap.size + 1, 41, [iv dm, iv di, iv dh, iv df]), (w.heap.size, 41, [iv bf, iv az, iv ay, iv ax])] W0) jb [] kr rfl (Rg.iq.pick ⟨cu _, Rg.ag _, Rg.ag _, Rg.ag _, cu _, Rg.ag _, Rg.ag _, Rg.ag _, trivial⟩) (dw.begin (aa HO))
    (ah (je qi ug (Rg.gm kr rfl) [] [iv bf, iv az, iv ay, iv ax] [])
    (ah (ku Tryz.func85 kr rfl dw.step (Rg.ai 0 kr) (fun W v0 hG h0 => k1 ▸ Hy W _ h0))
    (ah (Bj rfl (Rg.ai 1 kr) rfl rfl)
    (ah (il rfl (Rg.ai 2 kr))
    (Rg.dz (Rg.iy (d := 14) rfl kr rfl (je qi rf (Rg.gm kr rfl) [] [iv dm, iv di, iv dh, iv df] []))
    (Rg.dz (Rg.iy (d := 14) rfl kr rfl (ku Tryz.func85 kr rfl dw.step (Rg.ai 4 kr) (fun W v0 hG h0 => k2 ▸ Hy W _ h0)))
    (Rg.dz (Rg.iy (d := 14) rfl kr rfl (Bj rfl (Rg.ai 5 kr) rfl rfl))
    (ah (zk rfl (Rg.ai 3 kr) (Rg.ai 6 kr))
    Rg.fq)))))))) ?_
   intro v1 V1 hG1 hv1 hne1
   simp only [Rg.puts, ko, kg, jy, jw, Act.put, jr, jq, jo]
   have e7 : v1 7 = .bool true := hv1 7 (by decide)
   simp only [e7]
   have hO := hG1.1
   clear HO
   have HO := hide hO
   clear hO hG1 hv1 hne1
   try clear e7
   have g0 : su [⟨bf, az, ay, ax⟩, ⟨dm, di, dh, df⟩] = 1 := if_neg (fun h => g2 (h ⟨dm, di, dh, df⟩ (by simp)))
   obtain ⟨rfl, rfl⟩ := (aa HR).1 g0
   clear HR
   go_upto_region 2 with fail
   refine Rg.ik 1 40 (Rg.pick [bg zS]) (dw w [(w.heap.size + 2, 41, zS), (w.heap.size + 1, 41, [iv dm, iv di, iv dh, iv df]), (w.heap.size, 41, [iv bf, iv az, iv ay, iv ax])] V1) jb [] kr rfl (Rg.iq.pick ⟨cu _, trivial⟩) (dw.begin (aa HO))
    (ah (Ca Ce rfl rfl rfl)
    Rg.fq) ?_
   intro v2 V2 hG2 hv2 hne2
   simp only [Rg.puts, ko, kg, jy, jw, Act.put, jr, jq, jo]
   have hO := hG2.1
   refine nz hO 0 [] zS zS [] rfl vo rfl (show bg zS V2 (v2 0) from hv2 0 (by decide)) rfl rfl rfl ?_
   intro Dh ji hk0
   replace hO := ji
   clear ji
   clear HO
   have HO := hide hO
   clear hO hG2 hv2 hne2 hk0
   go_wp2_with fail
   exact Le Tryz.results38 zq rfl rfl rfl (aa HO) me0 rfl rfl
 ·
  have k1 : decide (Bu bf az ay ax) = false := decide_eq_false g1
  go_upto_region 1 with fail
  refine Rg.ik 8 40 (Rg.pick [bg [iv bf, iv az, iv ay, iv ax], Rg.cz (.bool false), Rg.cz (.bool true), Rg.cz (.bool true), Rg.cz undef, Rg.cz undef, Rg.cz undef, Rg.cz (.bool true)]) (dw w [(w.heap.size + 2, 41, zS), (w.heap.size + 1, 41, [iv dm, iv di, iv dh, iv df]), (w.heap.size, 41, [iv bf, iv az, iv ay, iv ax])] W0) jb [] kr rfl (Rg.iq.pick ⟨cu _, Rg.ag _, Rg.ag _, Rg.ag _, Rg.ag _, Rg.ag _, Rg.ag _, Rg.ag _, trivial⟩) (dw.begin (aa HO))
   (ah (je qi ug (Rg.gm kr rfl) [] [iv bf, iv az, iv ay, iv ax] [])
   (ah (ku Tryz.func85 kr rfl dw.step (Rg.ai 0 kr) (fun W v0 hG h0 => k1 ▸ Hy W _ h0))
   (ah (Bj rfl (Rg.ai 1 kr) rfl rfl)
   (ah (il rfl (Rg.ai 2 kr))
   (Rg.dz (Rg.mq (d := 14) rfl kr rfl rfl mi rfl rfl)
   (Rg.dz (Rg.mq (d := 14) rfl kr rfl rfl mi rfl rfl)
   (Rg.dz (Rg.mq (d := 14) rfl kr rfl rfl mi rfl rfl)
   (ah (xw rfl (Rg.ai 3 kr) (Rg.lv _))
   Rg.fq)))))))) ?_
  intro v1 V1 hG1 hv1 hne1
  simp only [Rg.puts, ko, kg, jy, jw, Act.put, jr, jq, jo]
  have e7 : v1 7 = .bool true := hv1 7 (by decide)
  simp only [e7]
  have hO := hG1.1
  clear HO
  have HO := hide hO
  clear hO hG1 hv1 hne1
  try clear e7
  have g0 : su [⟨bf, az, ay, ax⟩, ⟨dm, di, dh, df⟩] = 1 := if_neg (fun h => g1 (h ⟨bf, az, ay, ax⟩ (by simp)))
  obtain ⟨rfl, rfl⟩ := (aa HR).1 g0
  clear HR
  go_upto_region 2 with fail
  refine Rg.ik 1 40 (Rg.pick [bg zS]) (dw w [(w.heap.size + 2, 41, zS), (w.heap.size + 1, 41, [iv dm, iv di, iv dh, iv df]), (w.heap.size, 41, [iv bf, iv az, iv ay, iv ax])] V1) jb [] kr rfl (Rg.iq.pick ⟨cu _, trivial⟩) (dw.begin (aa HO))
   (ah (Ca Ce rfl rfl rfl)
   Rg.fq) ?_
  intro v2 V2 hG2 hv2 hne2
  simp only [Rg.puts, ko, kg, jy, jw, Act.put, jr, jq, jo]
  have hO := hG2.1
  refine nz hO 0 [] zS zS [] rfl vo rfl (show bg zS V2 (v2 0) from hv2 0 (by decide)) rfl rfl rfl ?_
  intro Dh ji hk0
  replace hO := ji
  clear ji
  clear HO
  have HO := hide hO
  clear hO hG2 hv2 hne2 hk0
  go_wp2_with fail
  exact Le Tryz.results38 zq rfl rfl rfl (aa HO) me0 rfl rfl
theorem anl {K : Nat} {a b c : Rat} (ha : Fw K a) (hb : Fw K b) (hc : Fw K c) : ∀ z ∈ [a, b, c], Fw K z := fun z hz => by
 simp only [List.mem_cons, List.not_mem_nil, or_false] at hz
 rcases hz with rfl | rfl | rfl
 ·
  exact ha
 ·
  exact hb
 ·
  exact hc
set_option maxHeartbeats 16000000 in
theorem akv {bf az ay ax dm di dh df : Int} (t : Gi) (w : World) (u0 : Value) (h0 : bg [iv bf, iv az, iv ay, iv ax] w u0) (u1 : Value) (h1 : bg [iv dm, iv di, iv dh, iv df] w u1)
  (hr : (su [⟨bf, az, ay, ax⟩, ⟨dm, di, dh, df⟩] = 1 → t = ⟨0, 0, 0, 0, 1⟩) ∧ (su [⟨bf, az, ay, ax⟩, ⟨dm, di, dh, df⟩] = 0 → t = gu (fe (Wd.qR bf az) [(Wd.qR ay ax), (Wd.qR dm di), (Wd.qR dh df)]) (eu (Wd.qR bf az) [(Wd.qR ay ax), (Wd.qR dm di), (Wd.qR dh df)]))) :
  Calls Tryz.prog 40 #[u0, u1] w (nk (Uf t) w) := by
 have HR := hide hr
 clear hr
 have hu0 := Ak h0
 subst hu0
 have hu1 := Ak h1
 subst hu1
 go_enter Tryz.func40, Tryz.ntmps40
 go_upto_region 1 with fail
 have hO := (Own.push (T := 41) (ls := zS) (cs := [.int .i64 0, .int .i64 0, .int .i64 0, .int .i64 0]) (Own.push (T := 41) (ls := [iv dm, iv di, iv dh, iv df]) (cs := [.int .i64 dm, .int .i64 di, .int .i64 dh, .int .i64 df]) (Own.push (T := 41) (ls := [iv bf, iv az, iv ay, iv ax]) (cs := [.int .i64 bf, .int .i64 az, .int .i64 ay, .int .i64 ax]) (Own.nil w) (jf.v (jl _) (jf.v (jl _) (jf.v (jl _) (jf.v (jl _) rfl)))) (w.heap.size) rfl) (((jf.v (jl _) (jf.v (jl _) (jf.v (jl _) (jf.v (jl _) rfl)))) : jf w [iv dm, iv di, iv dh, iv df] [.int .i64 dm, .int .i64 di, .int .i64 dh, .int .i64 df]).below (by repeat (first | exact Below.refl _ _ | refine jk ?_ _))) (w.heap.size + 1) (by simp only [World.size_alloc])) (((jf.vs w [.int .i64 0, .int .i64 0, .int .i64 0, .int .i64 0] rfl) : jf w zS [.int .i64 0, .int .i64 0, .int .i64 0, .int .i64 0]).below (by repeat (first | exact Below.refl _ _ | refine jk ?_ _))) (w.heap.size + 2) (by simp only [World.size_alloc]))
 generalize ((w.alloc (.cells #[.int .i64 bf, .int .i64 az, .int .i64 ay, .int .i64 ax] 41)).alloc (.cells #[.int .i64 dm, .int .i64 di, .int .i64 dh, .int .i64 df] 41)).alloc (.cells #[.int .i64 0, .int .i64 0, .int .i64 0, .int .i64 0] 41) = W0 at *
 have HO := hide hO
 clear hO
 by_cases g1 : Bu bf az ay ax
 ·
  by_cases g2 : Bu dm di dh df
  ·
   have k1 : decide (Bu bf az ay ax) = true := decide_eq_true g1
   have k2 : decide (Bu dm di dh df) = true := decide_eq_true g2
   go_upto_region 1 with fail
   refine Rg.ik 8 34 (Rg.pick [bg [iv bf, iv az, iv ay, iv ax], Rg.cz (.bool true), Rg.cz (.bool false), Rg.cz (.bool false), bg [iv dm, iv di, iv dh, iv df], Rg.cz (.bool true), Rg.cz (.bool false), Rg.cz (.bool false)]) (dw w [(w.heap.size + 2, 41, zS), (w.heap.size + 1, 41, [iv dm, iv di, iv dh, iv df]), (w.heap.size, 41, [iv bf, iv az, iv ay, iv ax])] W0) jb [] kr rfl (Rg.iq.pick ⟨cu _, Rg.ag _, Rg.ag _, Rg.ag _, cu _, Rg.ag _, Rg.ag _, Rg.ag _, trivial⟩) (dw.begin (aa HO))
    (ah (je qi ug (Rg.gm kr rfl) [] [iv bf, iv az, iv ay, iv ax] [])
    (ah (ku Tryz.func85 kr rfl dw.step (Rg.ai 0 kr) (fun W v0 hG h0 => k1 ▸ Hy W _ h0))
    (ah (Bj rfl (Rg.ai 1 kr) rfl rfl)
    (ah (il rfl (Rg.ai 2 kr))
    (Rg.dz (Rg.iy (d := 11) rfl kr rfl (je qi rf (Rg.gm kr rfl) [] [iv dm, iv di, iv dh, iv df] []))
    (Rg.dz (Rg.iy (d := 11) rfl kr rfl (ku Tryz.func85 kr rfl dw.step (Rg.ai 4 kr) (fun W v0 hG h0 => k2 ▸ Hy W _ h0)))
    (Rg.dz (Rg.iy (d := 11) rfl kr rfl (Bj rfl (Rg.ai 5 kr) rfl rfl))
    (ah (zk rfl (Rg.ai 3 kr) (Rg.ai 6 kr))
    Rg.fq)))))))) ?_
   intro v1 V1 hG1 hv1 hne1
   simp only [Rg.puts, ko, kg, jy, jw, Act.put, jr, jq, jo]
   have e7 : v1 7 = .bool false := hv1 7 (by decide)
   simp only [e7]
   have hO := hG1.1
   clear HO
   have HO := hide hO
   clear hO hG1 hv1 hne1
   try clear e7
   have g0 : su [⟨bf, az, ay, ax⟩, ⟨dm, di, dh, df⟩] = 0 := agm g1 g2
   clear k1 k2
   have hr := (aa HR).2 g0
   have HQ := hide (And.intro g1 g2)
   clear HR g0 g1 g2
   subst hr
   go_upto_region 3 with fail
   refine Rg.region 6 34 (Rg.pick [bg [iv bf, iv az, iv ay, iv ax], bg [.r (Wd.qR bf az), .r (Wd.qR ay ax)], bg [iv dm, iv di, iv dh, iv df], bg [.r (Wd.qR dm di), .r (Wd.qR dh df)], uf 100 zY V1.heap.size, uf 100 zY V1.heap.size]) (dw w [(w.heap.size + 2, 41, zS), (w.heap.size + 1, 41, [iv dm, iv di, iv dh, iv df]), (w.heap.size, 41, [iv bf, iv az, iv ay, iv ax])] V1) jb [4, 5] kr kr rfl (Rg.iq.pick ⟨cu _, cu _, cu _, cu _, ui _ _ _, ui _ _ _, trivial⟩) (dw.start (aa HO))
    (ah (je qi ug (Rg.gm kr rfl) [] [iv bf, iv az, iv ay, iv ax] [])
    (ah (ku Tryz.func86 kr rfl dw.step (Rg.ai 0 kr) (fun W v0 hG h0 => Zy ⟨(aa HQ).1.1, (aa HQ).1.2.1⟩ W _ h0))
    (ah (je qi rf (Rg.gm kr rfl) [] [iv dm, iv di, iv dh, iv df] [])
    (ah (ku Tryz.func86 kr rfl dw.step (Rg.ai 2 kr) (fun W v0 hG h0 => Zy ⟨(aa HQ).2.1, (aa HQ).2.2.1⟩ W _ h0))
    (ah (vv ads rfl dw.step dw.size rfl (xx (by intro j hj; simp at hj; (repeat' (first | (rcases hj with rfl | hj))) <;> first | (subst hj; exact ⟨_, _, _, rfl⟩) | exact ⟨_, _, _, rfl⟩)))
    (ah (vv ads rfl dw.step dw.size rfl (xx (by intro j hj; simp at hj; (repeat' (first | (rcases hj with rfl | hj))) <;> first | (subst hj; exact ⟨_, _, _, rfl⟩) | exact ⟨_, _, _, rfl⟩)))
    Rg.fq)))))) ?_
   intro v2 V2 hG2 hv2 hne2
   simp only [Rg.puts, ko, kg, jy, jw, Act.put, jr, jq, jo]
   obtain ⟨abn, e4, hge4, hz4⟩ := (show uf 100 zY V1.heap.size V2 (v2 4) from hv2 4 (by decide))
   obtain ⟨abm, e5, Jz, Qa⟩ := (show uf 100 zY V1.heap.size V2 (v2 5) from hv2 5 (by decide))
   simp only [e4, e5]
   have hO := hG2.1
   have hnn : abm ≠ abn := fun h => hne2 5 4 rfl rfl (by decide) (by decide) (by decide) rfl rfl (by rw [e4, e5, h])
   replace hO := Own.Xx (aa HO) hG2.2 hge4 hz4 Jz Qa hnn
   clear hnn hge4 hz4 Jz Qa
   refine nz hO 1 [] zY [.r (Wd.qR bf az), .r (Wd.qR ay ax)] [] rfl Gr rfl (show bg [.r (Wd.qR bf az), .r (Wd.qR ay ax)] V2 (v2 1) from hv2 1 (by decide)) rfl rfl rfl ?_
   intro Dh ji hk0
   replace hO := ji
   clear ji
   refine nz hO 0 [] zY [.r (Wd.qR dm di), .r (Wd.qR dh df)] [] rfl Gr rfl (hk0 _ _ (show bg [.r (Wd.qR dm di), .r (Wd.qR dh df)] V2 (v2 3) from hv2 3 (by decide))) rfl rfl rfl ?_
   intro bdw Mj hk1
   replace hO := Mj
   clear Mj
   clear HO
   have HO := hide hO
   clear hO hG2 hv2 hne2 hk0 hk1
   try clear e4 e5
   go_upto_region 4 with fail
   refine Rg.ik 13 34 (Rg.pick [Rg.cz (.pointer (some ⟨abn, 0, none⟩)), bg [.r (Wd.qR bf az)], Rg.cz (.pointer (some ⟨abn, 4, none⟩)), bg [.r (Wd.qR ay ax)], Rg.cz (.pointer (some ⟨abm, 0, none⟩)), bg [.r (Wd.qR dm di)], Rg.cz (.pointer (some ⟨abm, 4, none⟩)), bg [.r (Wd.qR dh df)], Qh 63 4 [.r (Wd.qR bf az), .r (Wd.qR ay ax), .r (Wd.qR dm di), .r (Wd.qR dh df)], bg [.r (fe (Wd.qR bf az) [(Wd.qR ay ax), (Wd.qR dm di), (Wd.qR dh df)]), .r (eu (Wd.qR bf az) [(Wd.qR ay ax), (Wd.qR dm di), (Wd.qR dh df)])], qj [bg [iv (gu (fe (Wd.qR bf az) [(Wd.qR ay ax), (Wd.qR dm di), (Wd.qR dh df)]) (eu (Wd.qR bf az) [(Wd.qR ay ax), (Wd.qR dm di), (Wd.qR dh df)])).a, iv (gu (fe (Wd.qR bf az) [(Wd.qR ay ax), (Wd.qR dm di), (Wd.qR dh df)]) (eu (Wd.qR bf az) [(Wd.qR ay ax), (Wd.qR dm di), (Wd.qR dh df)])).b, iv (gu (fe (Wd.qR bf az) [(Wd.qR ay ax), (Wd.qR dm di), (Wd.qR dh df)]) (eu (Wd.qR bf az) [(Wd.qR ay ax), (Wd.qR dm di), (Wd.qR dh df)])).c, iv (gu (fe (Wd.qR bf az) [(Wd.qR ay ax), (Wd.qR dm di), (Wd.qR dh df)]) (eu (Wd.qR bf az) [(Wd.qR ay ax), (Wd.qR dm di), (Wd.qR dh df)])).d], Rg.cz (.int .i64 (gu (fe (Wd.qR bf az) [(Wd.qR ay ax), (Wd.qR dm di), (Wd.qR dh df)]) (eu (Wd.qR bf az) [(Wd.qR ay ax), (Wd.qR dm di), (Wd.qR dh df)])).e)], bg [iv (gu (fe (Wd.qR bf az) [(Wd.qR ay ax), (Wd.qR dm di), (Wd.qR dh df)]) (eu (Wd.qR bf az) [(Wd.qR ay ax), (Wd.qR dm di), (Wd.qR dh df)])).a, iv (gu (fe (Wd.qR bf az) [(Wd.qR ay ax), (Wd.qR dm di), (Wd.qR dh df)]) (eu (Wd.qR bf az) [(Wd.qR ay ax), (Wd.qR dm di), (Wd.qR dh df)])).b, iv (gu (fe (Wd.qR bf az) [(Wd.qR ay ax), (Wd.qR dm di), (Wd.qR dh df)]) (eu (Wd.qR bf az) [(Wd.qR ay ax), (Wd.qR dm di), (Wd.qR dh df)])).c, iv (gu (fe (Wd.qR bf az) [(Wd.qR ay ax), (Wd.qR dm di), (Wd.qR dh df)]) (eu (Wd.qR bf az) [(Wd.qR ay ax), (Wd.qR dm di), (Wd.qR dh df)])).d], Rg.cz (.int .i64 (gu (fe (Wd.qR bf az) [(Wd.qR ay ax), (Wd.qR dm di), (Wd.qR dh df)]) (eu (Wd.qR bf az) [(Wd.qR ay ax), (Wd.qR dm di), (Wd.qR dh df)])).e)]) (dw w [(abm, 100, [.r (Wd.qR dm di), .r (Wd.qR dh df)]), (abn, 100, [.r (Wd.qR bf az), .r (Wd.qR ay ax)]), (w.heap.size + 2, 41, zS), (w.heap.size + 1, 41, [iv dm, iv di, iv dh, iv df]), (w.heap.size, 41, [iv bf, iv az, iv ay, iv ax])] bdw) jb [] kr rfl (Rg.iq.pick ⟨Rg.ag _, cu _, Rg.ag _, cu _, Rg.ag _, cu _, Rg.ag _, cu _, Ji _ _ _, cu _, nu ⟨(cu _), (Rg.ag _), trivial⟩, cu _, Rg.ag _, trivial⟩) (dw.begin (aa HO))
    (ah (xc (b := abn) (off := 0) rfl (Rg.gm kr rfl) rfl rfl)
    (ah (je og rf (Rg.ai 0 kr) [] [.r (Wd.qR bf az)] [.r (Wd.qR ay ax)])
    (ah (sw (b := abn) (off := 0) rfl (Rg.gm kr rfl) rfl rfl)
    (ah (je og rf (Rg.ai 2 kr) [.r (Wd.qR bf az)] [.r (Wd.qR ay ax)] [])
    (ah (xc (b := abm) (off := 0) rfl (Rg.gm kr rfl) rfl rfl)
    (ah (je og me0 (Rg.ai 4 kr) [] [.r (Wd.qR dm di)] [.r (Wd.qR dh df)])
    (ah (sw (b := abm) (off := 0) rfl (Rg.gm kr rfl) rfl rfl)
    (ah (je og me0 (Rg.ai 6 kr) [.r (Wd.qR dm di)] [.r (Wd.qR dh df)] [])
    (ah (Fz (ps := [(0, .tmp 22), (1, .tmp 24), (2, .tmp 26), (3, .tmp 28)]) (gs := [[.r (Wd.qR bf az)], [.r (Wd.qR ay ax)], [.r (Wd.qR dm di)], [.r (Wd.qR dh df)]]) amg rfl dw.step rfl (wy.cons (Rg.ai 1 kr) rfl (wy.cons (Rg.ai 3 kr) rfl (wy.cons (Rg.ai 5 kr) rfl (wy.cons (Rg.ai 7 kr) rfl wy.nil)))) rfl)
    (ah (ku Tryz.func108 kr rfl dw.step (Rg.ai 8 kr) (fun W v0 hG h0 => avv (qs := [(Wd.qR ay ax), (Wd.qR dm di), (Wd.qR dh df)]) (Cq (aa HQ).1.1) (anl (Cq (aa HQ).1.2.1) (Cq (aa HQ).2.1) (Cq (aa HQ).2.2.1)) (by simp) W _ h0))
    (ah (ku Tryz.func92 kr rfl dw.step (Rg.ai 9 kr) (fun W v0 hG h0 => ajd W _ h0))
    (ah (oo (ts := [bg [iv (gu (fe (Wd.qR bf az) [(Wd.qR ay ax), (Wd.qR dm di), (Wd.qR dh df)]) (eu (Wd.qR bf az) [(Wd.qR ay ax), (Wd.qR dm di), (Wd.qR dh df)])).a, iv (gu (fe (Wd.qR bf az) [(Wd.qR ay ax), (Wd.qR dm di), (Wd.qR dh df)]) (eu (Wd.qR bf az) [(Wd.qR ay ax), (Wd.qR dm di), (Wd.qR dh df)])).b, iv (gu (fe (Wd.qR bf az) [(Wd.qR ay ax), (Wd.qR dm di), (Wd.qR dh df)]) (eu (Wd.qR bf az) [(Wd.qR ay ax), (Wd.qR dm di), (Wd.qR dh df)])).c, iv (gu (fe (Wd.qR bf az) [(Wd.qR ay ax), (Wd.qR dm di), (Wd.qR dh df)]) (eu (Wd.qR bf az) [(Wd.qR ay ax), (Wd.qR dm di), (Wd.qR dh df)])).d], Rg.cz (.int .i64 (gu (fe (Wd.qR bf az) [(Wd.qR ay ax), (Wd.qR dm di), (Wd.qR dh df)]) (eu (Wd.qR bf az) [(Wd.qR ay ax), (Wd.qR dm di), (Wd.qR dh df)])).e)]) rfl (Rg.ai 10 kr) (of_decide_eq_true rfl) rfl)
    (ah (oo (ts := [bg [iv (gu (fe (Wd.qR bf az) [(Wd.qR ay ax), (Wd.qR dm di), (Wd.qR dh df)]) (eu (Wd.qR bf az) [(Wd.qR ay ax), (Wd.qR dm di), (Wd.qR dh df)])).a, iv (gu (fe (Wd.qR bf az) [(Wd.qR ay ax), (Wd.qR dm di), (Wd.qR dh df)]) (eu (Wd.qR bf az) [(Wd.qR ay ax), (Wd.qR dm di), (Wd.qR dh df)])).b, iv (gu (fe (Wd.qR bf az) [(Wd.qR ay ax), (Wd.qR dm di), (Wd.qR dh df)]) (eu (Wd.qR bf az) [(Wd.qR ay ax), (Wd.qR dm di), (Wd.qR dh df)])).c, iv (gu (fe (Wd.qR bf az) [(Wd.qR ay ax), (Wd.qR dm di), (Wd.qR dh df)]) (eu (Wd.qR bf az) [(Wd.qR ay ax), (Wd.qR dm di), (Wd.qR dh df)])).d], Rg.cz (.int .i64 (gu (fe (Wd.qR bf az) [(Wd.qR ay ax), (Wd.qR dm di), (Wd.qR dh df)]) (eu (Wd.qR bf az) [(Wd.qR ay ax), (Wd.qR dm di), (Wd.qR dh df)])).e)]) rfl (Rg.ai 10 kr) (of_decide_eq_true rfl) rfl)
    Rg.fq))))))))))))) ?_
   intro v3 V3 hG3 hv3 si
   simp only [Rg.puts, ko, kg, jy, jw, Act.put, jr, jq, jo]
   have e12 : v3 12 = .int .i64 (gu (fe (Wd.qR bf az) [(Wd.qR ay ax), (Wd.qR dm di), (Wd.qR dh df)]) (eu (Wd.qR bf az) [(Wd.qR ay ax), (Wd.qR dm di), (Wd.qR dh df)])).e := hv3 12 (by decide)
   simp only [e12]
   have hO := hG3.1
   refine nz hO 2 [] zS [iv (gu (fe (Wd.qR bf az) [(Wd.qR ay ax), (Wd.qR dm di), (Wd.qR dh df)]) (eu (Wd.qR bf az) [(Wd.qR ay ax), (Wd.qR dm di), (Wd.qR dh df)])).a, iv (gu (fe (Wd.qR bf az) [(Wd.qR ay ax), (Wd.qR dm di), (Wd.qR dh df)]) (eu (Wd.qR bf az) [(Wd.qR ay ax), (Wd.qR dm di), (Wd.qR dh df)])).b, iv (gu (fe (Wd.qR bf az) [(Wd.qR ay ax), (Wd.qR dm di), (Wd.qR dh df)]) (eu (Wd.qR bf az) [(Wd.qR ay ax), (Wd.qR dm di), (Wd.qR dh df)])).c, iv (gu (fe (Wd.qR bf az) [(Wd.qR ay ax), (Wd.qR dm di), (Wd.qR dh df)]) (eu (Wd.qR bf az) [(Wd.qR ay ax), (Wd.qR dm di), (Wd.qR dh df)])).d] [] rfl vo rfl (show bg [iv (gu (fe (Wd.qR bf az) [(Wd.qR ay ax), (Wd.qR dm di), (Wd.qR dh df)]) (eu (Wd.qR bf az) [(Wd.qR ay ax), (Wd.qR dm di), (Wd.qR dh df)])).a, iv (gu (fe (Wd.qR bf az) [(Wd.qR ay ax), (Wd.qR dm di), (Wd.qR dh df)]) (eu (Wd.qR bf az) [(Wd.qR ay ax), (Wd.qR dm di), (Wd.qR dh df)])).b, iv (gu (fe (Wd.qR bf az) [(Wd.qR ay ax), (Wd.qR dm di), (Wd.qR dh df)]) (eu (Wd.qR bf az) [(Wd.qR ay ax), (Wd.qR dm di), (Wd.qR dh df)])).c, iv (gu (fe (Wd.qR bf az) [(Wd.qR ay ax), (Wd.qR dm di), (Wd.qR dh df)]) (eu (Wd.qR bf az) [(Wd.qR ay ax), (Wd.qR dm di), (Wd.qR dh df)])).d] V3 (v3 11) from hv3 11 (by decide)) rfl rfl rfl ?_
   intro Ik ji hk0
   replace hO := ji
   clear ji
   clear HO
   have HO := hide hO
   clear hO hG3 hv3 si hk0
   try clear e12
   go_wp2_with fail
   exact Bv Tryz.results40 zq rfl rfl (aa HO) ug rfl rfl
  ·
   have k1 : decide (Bu bf az ay ax) = true := decide_eq_true g1
   have k2 : decide (Bu dm di dh df) = false := decide_eq_false g2
   go_upto_region 1 with fail
   refine Rg.ik 8 34 (Rg.pick [bg [iv bf, iv az, iv ay, iv ax], Rg.cz (.bool true), Rg.cz (.bool false), Rg.cz (.bool false), bg [iv dm, iv di, iv dh, iv df], Rg.cz (.bool false), Rg.cz (.bool true), Rg.cz (.bool true)]) (dw w [(w.heap.size + 2, 41, zS), (w.heap.size + 1, 41, [iv dm, iv di, iv dh, iv df]), (w.heap.size, 41, [iv bf, iv az, iv ay, iv ax])] W0) jb [] kr rfl (Rg.iq.pick ⟨cu _, Rg.ag _, Rg.ag _, Rg.ag _, cu _, Rg.ag _, Rg.ag _, Rg.ag _, trivial⟩) (dw.begin (aa HO))
    (ah (je qi ug (Rg.gm kr rfl) [] [iv bf, iv az, iv ay, iv ax] [])
    (ah (ku Tryz.func85 kr rfl dw.step (Rg.ai 0 kr) (fun W v0 hG h0 => k1 ▸ Hy W _ h0))
    (ah (Bj rfl (Rg.ai 1 kr) rfl rfl)
    (ah (il rfl (Rg.ai 2 kr))
    (Rg.dz (Rg.iy (d := 11) rfl kr rfl (je qi rf (Rg.gm kr rfl) [] [iv dm, iv di, iv dh, iv df] []))
    (Rg.dz (Rg.iy (d := 11) rfl kr rfl (ku Tryz.func85 kr rfl dw.step (Rg.ai 4 kr) (fun W v0 hG h0 => k2 ▸ Hy W _ h0)))
    (Rg.dz (Rg.iy (d := 11) rfl kr rfl (Bj rfl (Rg.ai 5 kr) rfl rfl))
    (ah (zk rfl (Rg.ai 3 kr) (Rg.ai 6 kr))
    Rg.fq)))))))) ?_
   intro v1 V1 hG1 hv1 hne1
   simp only [Rg.puts, ko, kg, jy, jw, Act.put, jr, jq, jo]
   have e7 : v1 7 = .bool true := hv1 7 (by decide)
   simp only [e7]
   have hO := hG1.1
   clear HO
   have HO := hide hO
   clear hO hG1 hv1 hne1
   try clear e7
   have g0 : su [⟨bf, az, ay, ax⟩, ⟨dm, di, dh, df⟩] = 1 := if_neg (fun h => g2 (h ⟨dm, di, dh, df⟩ (by simp)))
   have hr := (aa HR).1 g0
   clear HR
   subst hr
   go_upto_region 2 with fail
   refine Rg.ik 1 34 (Rg.pick [bg zS]) (dw w [(w.heap.size + 2, 41, zS), (w.heap.size + 1, 41, [iv dm, iv di, iv dh, iv df]), (w.heap.size, 41, [iv bf, iv az, iv ay, iv ax])] V1) jb [] kr rfl (Rg.iq.pick ⟨cu _, trivial⟩) (dw.begin (aa HO))
    (ah (Ca Ce rfl rfl rfl)
    Rg.fq) ?_
   intro v2 V2 hG2 hv2 hne2
   simp only [Rg.puts, ko, kg, jy, jw, Act.put, jr, jq, jo]
   have hO := hG2.1
   refine nz hO 0 [] zS zS [] rfl vo rfl (show bg zS V2 (v2 0) from hv2 0 (by decide)) rfl rfl rfl ?_
   intro Dh ji hk0
   replace hO := ji
   clear ji
   clear HO
   have HO := hide hO
   clear hO hG2 hv2 hne2 hk0
   go_wp2_with fail
   exact Bv Tryz.results40 zq rfl rfl (aa HO) me0 rfl rfl
 ·
  have k1 : decide (Bu bf az ay ax) = false := decide_eq_false g1
  go_upto_region 1 with fail
  refine Rg.ik 8 34 (Rg.pick [bg [iv bf, iv az, iv ay, iv ax], Rg.cz (.bool false), Rg.cz (.bool true), Rg.cz (.bool true), Rg.cz undef, Rg.cz undef, Rg.cz undef, Rg.cz (.bool true)]) (dw w [(w.heap.size + 2, 41, zS), (w.heap.size + 1, 41, [iv dm, iv di, iv dh, iv df]), (w.heap.size, 41, [iv bf, iv az, iv ay, iv ax])] W0) jb [] kr rfl (Rg.iq.pick ⟨cu _, Rg.ag _, Rg.ag _, Rg.ag _, Rg.ag _, Rg.ag _, Rg.ag _, Rg.ag _, trivial⟩) (dw.begin (aa HO))
   (ah (je qi ug (Rg.gm kr rfl) [] [iv bf, iv az, iv ay, iv ax] [])
   (ah (ku Tryz.func85 kr rfl dw.step (Rg.ai 0 kr) (fun W v0 hG h0 => k1 ▸ Hy W _ h0))
   (ah (Bj rfl (Rg.ai 1 kr) rfl rfl)
   (ah (il rfl (Rg.ai 2 kr))
   (Rg.dz (Rg.mq (d := 11) rfl kr rfl rfl mi rfl rfl)
   (Rg.dz (Rg.mq (d := 11) rfl kr rfl rfl mi rfl rfl)
   (Rg.dz (Rg.mq (d := 11) rfl kr rfl rfl mi rfl rfl)
   (ah (xw rfl (Rg.ai 3 kr) (Rg.lv _))
   Rg.fq)))))))) ?_
  intro v1 V1 hG1 hv1 hne1
  simp only [Rg.puts, ko, kg, jy, jw, Act.put, jr, jq, jo]
  have e7 : v1 7 = .bool true := hv1 7 (by decide)
  simp only [e7]
  have hO := hG1.1
  clear HO
  have HO := hide hO
  clear hO hG1 hv1 hne1
  try clear e7
  have g0 : su [⟨bf, az, ay, ax⟩, ⟨dm, di, dh, df⟩] = 1 := if_neg (fun h => g1 (h ⟨bf, az, ay, ax⟩ (by simp)))
  have hr := (aa HR).1 g0
  clear HR
  subst hr
  go_upto_region 2 with fail
  refine Rg.ik 1 34 (Rg.pick [bg zS]) (dw w [(w.heap.size + 2, 41, zS), (w.heap.size + 1, 41, [iv dm, iv di, iv dh, iv df]), (w.heap.size, 41, [iv bf, iv az, iv ay, iv ax])] V1) jb [] kr rfl (Rg.iq.pick ⟨cu _, trivial⟩) (dw.begin (aa HO))
   (ah (Ca Ce rfl rfl rfl)
   Rg.fq) ?_
  intro v2 V2 hG2 hv2 hne2
  simp only [Rg.puts, ko, kg, jy, jw, Act.put, jr, jq, jo]
  have hO := hG2.1
  refine nz hO 0 [] zS zS [] rfl vo rfl (show bg zS V2 (v2 0) from hv2 0 (by decide)) rfl rfl rfl ?_
  intro Dh ji hk0
  replace hO := ji
  clear ji
  clear HO
  have HO := hide hO
  clear hO hG2 hv2 hne2 hk0
  go_wp2_with fail
  exact Bv Tryz.results40 zq rfl rfl (aa HO) me0 rfl rfl
theorem akq (x y : Rat) : 0 ≤ ja (x.num * y.den - y.num * x.den) ↔ y ≤ x := by
 rw [Rat.le_iff]
 unfold ja; (repeat' split) <;> omega
theorem apw {x y v : Rat} {K : Nat} (sx : Fw K x) (sy : Fw K y) (sv : Fw K v) (w : World) (u0 : Value) (h0 : bg [.r x, .r y] w u0) (u1 : Value) (h1 : bg [.r v] w u1) : Calls Tryz.prog 90 #[u0, u1] w (nk (Rg.cz (.bool (decide (x ≤ v ∧ v ≤ y)))) w) := by
 have h := avw sx sy sv w u0 h0 u1 h1
 simp only [Nh, akq] at h
 exact h
theorem azq {x y v : Rat} {K : Nat} (sx : Sm K x) (sy : Sm K y) (sv : Sm K v) (w : World) (u0 : Value) (h0 : bg [.q x, .q y] w u0) (u1 : Value) (h1 : bg [.q v] w u1) : Calls Tryz.prog 109 #[u0, u1] w (nk (Rg.cz (.bool (decide (x ≤ v ∧ v ≤ y)))) w) := by
 have h := bdn sx sy sv w u0 h0 u1 h1
 simp only [Nh] at h
 exact h
theorem Ro {P : Program} {fn : Func} {a : Act} {w w0 : World} {t t2 : Nat} {u u2 : Value} (hr : fn.results = #[.tmp t, .tmp t2]) (ht : a.tmps.getD t undef = u) (ht2 : a.tmps.getD t2 undef = u2) (hB : Below w0.heap.size w0 w) (hd : a.defers = []) : bodyPost P fn (nk (qj [Rg.cz u, Rg.cz u2]) w0) .ret a w :=
 bodyPost_ret (v := .tuple #[u, u2]) (by rw [results_tmp2 hr, ht, ht2]) hd ⟨_, rfl, hB, [u, u2], rfl, _, _, rfl, rfl, _, _, rfl, rfl, rfl⟩
set_option maxHeartbeats 16000000 in
theorem bfp {bf az ay ax n d : Int} (ib : Bool) (ie : Int) (w : World) (u0 : Value) (h0 : bg [iv bf, iv az, iv ay, iv ax] w u0) (u1 : Value) (h1 : bg [iv n, iv d] w u1)
  (hr : (Bu bf az ay ax → Wd.wm n d → (decide ((Wd.qR bf az) ≤ (Wd.qR n d) ∧ (Wd.qR n d) ≤ (Wd.qR ay ax))) = ib ∧ ie = 0) ∧ (¬ (Bu bf az ay ax ∧ Wd.wm n d) → ib = false ∧ ie = 1)) :
  Calls Tryz.prog 42 #[u0, u1] w (nk (qj [Rg.cz (.bool ib), Rg.cz (.int .i64 ie)]) w) := by
 have HR := hide hr
 clear hr
 have hu0 := Ak h0
 subst hu0
 have hu1 := Ke h1
 subst hu1
 go_enter Tryz.func42, Tryz.ntmps42
 go_upto_region 1 with fail
 have hO := (Own.push (T := 23) (ls := [iv n, iv d]) (cs := [.int .i64 n, .int .i64 d]) (Own.push (T := 41) (ls := [iv bf, iv az, iv ay, iv ax]) (cs := [.int .i64 bf, .int .i64 az, .int .i64 ay, .int .i64 ax]) (Own.nil w) (jf.v (jl _) (jf.v (jl _) (jf.v (jl _) (jf.v (jl _) rfl)))) (w.heap.size) rfl) (((jf.v (jl _) (jf.v (jl _) rfl)) : jf w [iv n, iv d] [.int .i64 n, .int .i64 d]).below (by repeat (first | exact Below.refl _ _ | refine jk ?_ _))) (w.heap.size + 1) (by simp only [World.size_alloc]))
 generalize (w.alloc (.cells #[.int .i64 bf, .int .i64 az, .int .i64 ay, .int .i64 ax] 41)).alloc (.cells #[.int .i64 n, .int .i64 d] 23) = W0 at *
 have HO := hide hO
 clear hO
 by_cases g1 : Bu bf az ay ax
 ·
  by_cases g2 : Wd.wm n d
  ·
   have k1 : decide (Bu bf az ay ax) = true := decide_eq_true g1
   have k2 : decide (Wd.wm n d) = true := decide_eq_true g2
   go_upto_region 1 with fail
   refine Rg.ik 8 19 (Rg.pick [bg [iv bf, iv az, iv ay, iv ax], Rg.cz (.bool true), Rg.cz (.bool false), Rg.cz (.bool false), bg [iv n, iv d], Rg.cz (.bool true), Rg.cz (.bool false), Rg.cz (.bool false)]) (dw w [(w.heap.size + 1, 23, [iv n, iv d]), (w.heap.size, 41, [iv bf, iv az, iv ay, iv ax])] W0) jb [] kr rfl (Rg.iq.pick ⟨cu _, Rg.ag _, Rg.ag _, Rg.ag _, cu _, Rg.ag _, Rg.ag _, Rg.ag _, trivial⟩) (dw.begin (aa HO))
    (ah (je qi rf (Rg.gm kr rfl) [] [iv bf, iv az, iv ay, iv ax] [])
    (ah (ku Tryz.func85 kr rfl dw.step (Rg.ai 0 kr) (fun W v0 hG h0 => k1 ▸ Hy W _ h0))
    (ah (Bj rfl (Rg.ai 1 kr) rfl rfl)
    (ah (il rfl (Rg.ai 2 kr))
    (Rg.dz (Rg.iy (d := 9) rfl kr rfl (je zb me0 (Rg.gm kr rfl) [] [iv n, iv d] []))
    (Rg.dz (Rg.iy (d := 9) rfl kr rfl (ku Tryz.func60 kr rfl dw.step (Rg.ai 4 kr) (fun W v0 hG h0 => k2 ▸ Sk h0)))
    (Rg.dz (Rg.iy (d := 9) rfl kr rfl (Bj rfl (Rg.ai 5 kr) rfl rfl))
    (ah (zk rfl (Rg.ai 3 kr) (Rg.ai 6 kr))
    Rg.fq)))))))) ?_
   intro v1 V1 hG1 hv1 hne1
   simp only [Rg.puts, ko, kg, jy, jw, Act.put, jr, jq, jo]
   have e7 : v1 7 = .bool false := hv1 7 (by decide)
   simp only [e7]
   have hO := hG1.1
   clear HO
   have HO := hide hO
   clear hO hG1 hv1 hne1
   try clear e7
   obtain ⟨hb, rfl⟩ := (aa HR).1 g1 g2
   subst hb
   clear HR k1 k2
   go_upto_region 3 with fail
   refine Rg.region 7 19 (Rg.pick [bg [iv bf, iv az, iv ay, iv ax], bg [.r (Wd.qR bf az), .r (Wd.qR ay ax)], bg [iv n, iv d], bg [.r (Wd.qR n d)], Rg.cz (.bool (decide ((Wd.qR bf az) ≤ (Wd.qR n d) ∧ (Wd.qR n d) ≤ (Wd.qR ay ax)))), Rg.cz (.bool (decide ((Wd.qR bf az) ≤ (Wd.qR n d) ∧ (Wd.qR n d) ≤ (Wd.qR ay ax)))), Rg.cz (.int .i64 0)]) (dw w [(w.heap.size + 1, 23, [iv n, iv d]), (w.heap.size, 41, [iv bf, iv az, iv ay, iv ax])] V1) jb [] kr kr rfl (Rg.iq.pick ⟨cu _, cu _, cu _, cu _, Rg.ag _, Rg.ag _, Rg.ag _, trivial⟩) (dw.start (aa HO))
    (ah (je qi rf (Rg.gm kr rfl) [] [iv bf, iv az, iv ay, iv ax] [])
    (ah (ku Tryz.func86 kr rfl dw.step (Rg.ai 0 kr) (fun W v0 hG h0 => Zy ⟨g1.1, g1.2.1⟩ W _ h0))
    (ah (je zb me0 (Rg.gm kr rfl) [] [iv n, iv d] [])
    (ah (ku Tryz.func48 kr rfl dw.step (Rg.ai 2 kr) (fun W v0 hG h0 => Xb g2 h0))
    (ah (ll Tryz.func90 kr rfl dw.step (Rg.ai 1 kr) (Rg.ai 3 kr) (fun W v0 v1 hG h0 h1 => apw (Cq g1.1) (Cq g1.2.1) (Cq g2) W _ h0 _ h1))
    (ah (ma rfl (Rg.ai 4 kr))
    (ah (ma rfl (Rg.lv _))
    Rg.fq))))))) ?_
   intro v2 V2 hG2 hv2 hne2
   simp only [Rg.puts, ko, kg, jy, jw, Act.put, jr, jq, jo]
   have e4 : v2 4 = .bool (decide ((Wd.qR bf az) ≤ (Wd.qR n d) ∧ (Wd.qR n d) ≤ (Wd.qR ay ax))) := hv2 4 (by decide)
   have e5 : v2 5 = .bool (decide ((Wd.qR bf az) ≤ (Wd.qR n d) ∧ (Wd.qR n d) ≤ (Wd.qR ay ax))) := hv2 5 (by decide)
   have e6 : v2 6 = .int .i64 0 := hv2 6 (by decide)
   simp only [e4, e5, e6]
   have hO := hG2.1
   clear HO
   have HO := hide hO
   clear hO hG2 hv2 hne2
   try clear e4 e5 e6
   go_wp2_with fail
   exact Ro Tryz.results42 rfl rfl (aa HO).bel rfl
  ·
   have k1 : decide (Bu bf az ay ax) = true := decide_eq_true g1
   have k2 : decide (Wd.wm n d) = false := decide_eq_false g2
   go_upto_region 1 with fail
   refine Rg.ik 8 19 (Rg.pick [bg [iv bf, iv az, iv ay, iv ax], Rg.cz (.bool true), Rg.cz (.bool false), Rg.cz (.bool false), bg [iv n, iv d], Rg.cz (.bool false), Rg.cz (.bool true), Rg.cz (.bool true)]) (dw w [(w.heap.size + 1, 23, [iv n, iv d]), (w.heap.size, 41, [iv bf, iv az, iv ay, iv ax])] W0) jb [] kr rfl (Rg.iq.pick ⟨cu _, Rg.ag _, Rg.ag _, Rg.ag _, cu _, Rg.ag _, Rg.ag _, Rg.ag _, trivial⟩) (dw.begin (aa HO))
    (ah (je qi rf (Rg.gm kr rfl) [] [iv bf, iv az, iv ay, iv ax] [])
    (ah (ku Tryz.func85 kr rfl dw.step (Rg.ai 0 kr) (fun W v0 hG h0 => k1 ▸ Hy W _ h0))
    (ah (Bj rfl (Rg.ai 1 kr) rfl rfl)
    (ah (il rfl (Rg.ai 2 kr))
    (Rg.dz (Rg.iy (d := 9) rfl kr rfl (je zb me0 (Rg.gm kr rfl) [] [iv n, iv d] []))
    (Rg.dz (Rg.iy (d := 9) rfl kr rfl (ku Tryz.func60 kr rfl dw.step (Rg.ai 4 kr) (fun W v0 hG h0 => k2 ▸ Sk h0)))
    (Rg.dz (Rg.iy (d := 9) rfl kr rfl (Bj rfl (Rg.ai 5 kr) rfl rfl))
    (ah (zk rfl (Rg.ai 3 kr) (Rg.ai 6 kr))
    Rg.fq)))))))) ?_
   intro v1 V1 hG1 hv1 hne1
   simp only [Rg.puts, ko, kg, jy, jw, Act.put, jr, jq, jo]
   have e7 : v1 7 = .bool true := hv1 7 (by decide)
   simp only [e7]
   have hO := hG1.1
   clear HO
   have HO := hide hO
   clear hO hG1 hv1 hne1
   try clear e7
   obtain ⟨rfl, rfl⟩ := (aa HR).2 (fun h => g2 h.2)
   clear HR
   go_upto_region 2 with fail
   refine Rg.ik 2 19 (Rg.pick [Rg.cz (.bool false), Rg.cz (.int .i64 1)]) (dw w [(w.heap.size + 1, 23, [iv n, iv d]), (w.heap.size, 41, [iv bf, iv az, iv ay, iv ax])] V1) jb [] kr rfl (Rg.iq.pick ⟨Rg.ag _, Rg.ag _, trivial⟩) (dw.begin (aa HO))
    (ah (ma rfl (Rg.lv _))
    (ah (ma rfl (Rg.lv _))
    Rg.fq)) ?_
   intro v2 V2 hG2 hv2 hne2
   simp only [Rg.puts, ko, kg, jy, jw, Act.put, jr, jq, jo]
   have e0 : v2 0 = .bool false := hv2 0 (by decide)
   have e1 : v2 1 = .int .i64 1 := hv2 1 (by decide)
   simp only [e0, e1]
   have hO := hG2.1
   clear HO
   have HO := hide hO
   clear hO hG2 hv2 hne2
   try clear e0 e1
   go_wp2_with fail
   exact Ro Tryz.results42 rfl rfl (aa HO).bel rfl
 ·
  have k1 : decide (Bu bf az ay ax) = false := decide_eq_false g1
  go_upto_region 1 with fail
  refine Rg.ik 8 19 (Rg.pick [bg [iv bf, iv az, iv ay, iv ax], Rg.cz (.bool false), Rg.cz (.bool true), Rg.cz (.bool true), Rg.cz undef, Rg.cz undef, Rg.cz undef, Rg.cz (.bool true)]) (dw w [(w.heap.size + 1, 23, [iv n, iv d]), (w.heap.size, 41, [iv bf, iv az, iv ay, iv ax])] W0) jb [] kr rfl (Rg.iq.pick ⟨cu _, Rg.ag _, Rg.ag _, Rg.ag _, Rg.ag _, Rg.ag _, Rg.ag _, Rg.ag _, trivial⟩) (dw.begin (aa HO))
   (ah (je qi rf (Rg.gm kr rfl) [] [iv bf, iv az, iv ay, iv ax] [])
   (ah (ku Tryz.func85 kr rfl dw.step (Rg.ai 0 kr) (fun W v0 hG h0 => k1 ▸ Hy W _ h0))
   (ah (Bj rfl (Rg.ai 1 kr) rfl rfl)
   (ah (il rfl (Rg.ai 2 kr))
   (Rg.dz (Rg.mq (d := 9) rfl kr rfl rfl mi rfl rfl)
   (Rg.dz (Rg.mq (d := 9) rfl kr rfl rfl mi rfl rfl)
   (Rg.dz (Rg.mq (d := 9) rfl kr rfl rfl mi rfl rfl)
   (ah (xw rfl (Rg.ai 3 kr) (Rg.lv _))
   Rg.fq)))))))) ?_
  intro v1 V1 hG1 hv1 hne1
  simp only [Rg.puts, ko, kg, jy, jw, Act.put, jr, jq, jo]
  have e7 : v1 7 = .bool true := hv1 7 (by decide)
  simp only [e7]
  have hO := hG1.1
  clear HO
  have HO := hide hO
  clear hO hG1 hv1 hne1
  try clear e7
  obtain ⟨rfl, rfl⟩ := (aa HR).2 (fun h => g1 h.1)
  clear HR
  go_upto_region 2 with fail
  refine Rg.ik 2 19 (Rg.pick [Rg.cz (.bool false), Rg.cz (.int .i64 1)]) (dw w [(w.heap.size + 1, 23, [iv n, iv d]), (w.heap.size, 41, [iv bf, iv az, iv ay, iv ax])] V1) jb [] kr rfl (Rg.iq.pick ⟨Rg.ag _, Rg.ag _, trivial⟩) (dw.begin (aa HO))
   (ah (ma rfl (Rg.lv _))
   (ah (ma rfl (Rg.lv _))
   Rg.fq)) ?_
  intro v2 V2 hG2 hv2 hne2
  simp only [Rg.puts, ko, kg, jy, jw, Act.put, jr, jq, jo]
  have e0 : v2 0 = .bool false := hv2 0 (by decide)
  have e1 : v2 1 = .int .i64 1 := hv2 1 (by decide)
  simp only [e0, e1]
  have hO := hG2.1
  clear HO
  have HO := hide hO
  clear hO hG2 hv2 hne2
  try clear e0 e1
  go_wp2_with fail
  exact Ro Tryz.results42 rfl rfl (aa HO).bel rfl
set_option maxHeartbeats 16000000 in
theorem bfq {bf az ay ax n d : Int} (ib : Bool) (ie : Int) (w : World) (hT : xg w) (u0 : Value) (h0 : bg [iv bf, iv az, iv ay, iv ax] w u0) (u1 : Value) (h1 : bg [iv n, iv d] w u1)
  (hr : (Bu bf az ay ax → Wd.wm n d → (decide ((Wd.qR bf az) ≤ (Wd.qR n d) ∧ (Wd.qR n d) ≤ (Wd.qR ay ax))) = ib ∧ ie = 0) ∧ (¬ (Bu bf az ay ax ∧ Wd.wm n d) → ib = false ∧ ie = 1)) :
  Calls Tryz.prog 41 #[u0, u1] w (nk (qj [Rg.cz (.bool ib), Rg.cz (.int .i64 ie)]) w) := by
 have HR := hide hr
 have HT := hide hT
 clear hr hT
 have hu0 := Ak h0
 subst hu0
 have hu1 := Ke h1
 subst hu1
 go_enter Tryz.func41, Tryz.ntmps41
 go_upto_region 1 with fail
 have hO := (Own.push (T := 23) (ls := [iv n, iv d]) (cs := [.int .i64 n, .int .i64 d]) (Own.push (T := 41) (ls := [iv bf, iv az, iv ay, iv ax]) (cs := [.int .i64 bf, .int .i64 az, .int .i64 ay, .int .i64 ax]) (Own.nil w) (jf.v (jl _) (jf.v (jl _) (jf.v (jl _) (jf.v (jl _) rfl)))) (w.heap.size) rfl) (((jf.v (jl _) (jf.v (jl _) rfl)) : jf w [iv n, iv d] [.int .i64 n, .int .i64 d]).below (by repeat (first | exact Below.refl _ _ | refine jk ?_ _))) (w.heap.size + 1) (by simp only [World.size_alloc]))
 generalize (w.alloc (.cells #[.int .i64 bf, .int .i64 az, .int .i64 ay, .int .i64 ax] 41)).alloc (.cells #[.int .i64 n, .int .i64 d] 23) = W0 at *
 have HO := hide hO
 clear hO
 go_upto_region 1 with fail
 refine Rg.ik 3 23 (Rg.pick [bg [iv bf, iv az, iv ay, iv ax], Rg.cz (.int .i64 (Jr bf az ay ax)), Rg.cz (.int .i64 (Jr bf az ay ax))]) (dw w [(w.heap.size + 1, 23, [iv n, iv d]), (w.heap.size, 41, [iv bf, iv az, iv ay, iv ax])] W0) jb [] kr rfl (Rg.iq.pick ⟨cu _, Rg.ag _, Rg.ag _, trivial⟩) (dw.begin (aa HO))
  (ah (je qi rf (Rg.gm kr rfl) [] [iv bf, iv az, iv ay, iv ax] [])
  (ah (ku Tryz.func31 kr rfl dw.step (Rg.ai 0 kr) (fun W v0 hG h0 => apv W ((aa HT).below hG.bel) _ h0))
  (ah (ma rfl (Rg.ai 1 kr))
  Rg.fq))) ?_
 intro v1 V1 hG1 hv1 hne1
 simp only [Rg.puts, ko, kg, jy, jw, Act.put, jr, jq, jo]
 have e1 : v1 1 = .int .i64 (Jr bf az ay ax) := hv1 1 (by decide)
 have e2 : v1 2 = .int .i64 (Jr bf az ay ax) := hv1 2 (by decide)
 simp only [e1, e2]
 have hO := hG1.1
 clear HO
 have HO := hide hO
 clear hO hG1 hv1 hne1
 try clear e1 e2
 by_cases g1 : Bu bf az ay ax
 ·
  have kv : Jr bf az ay ax = 0 := if_pos g1
  rw [kv]
  go_upto_region 2 with fail
  refine Rg.ik 2 23 (Rg.pick [Rg.cz (.int .i64 0), Rg.cz (.bool false)]) (dw w [(w.heap.size + 1, 23, [iv n, iv d]), (w.heap.size, 41, [iv bf, iv az, iv ay, iv ax])] V1) jb [] kr rfl (Rg.iq.pick ⟨Rg.ag _, Rg.ag _, trivial⟩) (dw.begin (aa HO))
   (ah (il rfl (Rg.gm kr rfl))
   (ah (Co rfl (Rg.ai 0 kr) (Rg.lv _) rfl rfl)
   Rg.fq)) ?_
  intro v2 V2 hG2 hv2 hne2
  simp only [Rg.puts, ko, kg, jy, jw, Act.put, jr, jq, jo]
  have e1 : v2 1 = .bool false := hv2 1 (by decide)
  simp only [e1]
  have hO := hG2.1
  clear HO
  have HO := hide hO
  clear hO hG2 hv2 hne2
  try clear e1
  go_upto_region 4 with fail
  refine Rg.ik 3 23 (Rg.pick [bg [iv n, iv d], Rg.cz (.int .i64 (Mm n d)), Rg.cz (.int .i64 (Mm n d))]) (dw w [(w.heap.size + 1, 23, [iv n, iv d]), (w.heap.size, 41, [iv bf, iv az, iv ay, iv ax])] V2) jb [] kr rfl (Rg.iq.pick ⟨cu _, Rg.ag _, Rg.ag _, trivial⟩) (dw.begin (aa HO))
   (ah (je zb me0 (Rg.gm kr rfl) [] [iv n, iv d] [])
   (ah (ku Tryz.func56 kr rfl dw.step (Rg.ai 0 kr) (fun W v0 hG h0 => by rw [Ke h0]; exact (aan n d W ((aa HT).below hG.bel)).mono fun e w' h => Vf h))
   (ah (ma rfl (Rg.ai 1 kr))
   Rg.fq))) ?_
  intro v3 V3 hG3 hv3 si
  simp only [Rg.puts, ko, kg, jy, jw, Act.put, jr, jq, jo]
  have e1 : v3 1 = .int .i64 (Mm n d) := hv3 1 (by decide)
  have e2 : v3 2 = .int .i64 (Mm n d) := hv3 2 (by decide)
  simp only [e1, e2]
  have hO := hG3.1
  clear HO
  have HO := hide hO
  clear hO hG3 hv3 si
  try clear e1 e2
  by_cases g2 : Wd.wm n d
  ·
   have kv2 : Mm n d = 0 := if_pos g2
   rw [kv2]
   obtain ⟨hb, rfl⟩ := (aa HR).1 g1 g2
   subst hb
   clear HR
   go_upto_region 5 with fail
   refine Rg.ik 2 23 (Rg.pick [Rg.cz (.int .i64 0), Rg.cz (.bool false)]) (dw w [(w.heap.size + 1, 23, [iv n, iv d]), (w.heap.size, 41, [iv bf, iv az, iv ay, iv ax])] V3) jb [] kr rfl (Rg.iq.pick ⟨Rg.ag _, Rg.ag _, trivial⟩) (dw.begin (aa HO))
    (ah (il rfl (Rg.gm kr rfl))
    (ah (Co rfl (Rg.ai 0 kr) (Rg.lv _) rfl rfl)
    Rg.fq)) ?_
   intro v4 V4 hG4 hv4 xh
   simp only [Rg.puts, ko, kg, jy, jw, Act.put, jr, jq, jo]
   have e1 : v4 1 = .bool false := hv4 1 (by decide)
   simp only [e1]
   have hO := hG4.1
   clear HO
   have HO := hide hO
   clear hO hG4 hv4 xh
   try clear e1
   go_upto_region 7 with fail
   refine Rg.region 7 23 (Rg.pick [bg [iv bf, iv az, iv ay, iv ax], bg [.q (Wd.qR bf az), .q (Wd.qR ay ax)], bg [iv n, iv d], bg [.q (Wd.qR n d)], Rg.cz (.bool (decide ((Wd.qR bf az) ≤ (Wd.qR n d) ∧ (Wd.qR n d) ≤ (Wd.qR ay ax)))), Rg.cz (.bool (decide ((Wd.qR bf az) ≤ (Wd.qR n d) ∧ (Wd.qR n d) ≤ (Wd.qR ay ax)))), Rg.cz (.int .i64 0)]) (dw w [(w.heap.size + 1, 23, [iv n, iv d]), (w.heap.size, 41, [iv bf, iv az, iv ay, iv ax])] V4) jb [] kr kr rfl (Rg.iq.pick ⟨cu _, cu _, cu _, cu _, Rg.ag _, Rg.ag _, Rg.ag _, trivial⟩) (dw.start (aa HO))
    (ah (je qi rf (Rg.gm kr rfl) [] [iv bf, iv az, iv ay, iv ax] [])
    (ah (ku Tryz.func95 kr rfl dw.step (Rg.ai 0 kr) (fun W v0 hG h0 => Oq ⟨g1.1, g1.2.1⟩ W _ h0))
    (ah (je zb me0 (Rg.gm kr rfl) [] [iv n, iv d] [])
    (ah (ku Tryz.func57 kr rfl dw.step (Rg.ai 2 kr) (fun W v0 hG h0 => avx g2 h0))
    (ah (ll Tryz.func109 kr rfl dw.step (Rg.ai 1 kr) (Rg.ai 3 kr) (fun W v0 v1 hG h0 h1 => azq (xu g1.1) (xu g1.2.1) (xu g2) W _ h0 _ h1))
    (ah (ma rfl (Rg.ai 4 kr))
    (ah (ma rfl (Rg.lv _))
    Rg.fq))))))) ?_
   intro v5 V5 zo hv5 hne5
   simp only [Rg.puts, ko, kg, jy, jw, Act.put, jr, jq, jo]
   have e4 : v5 4 = .bool (decide ((Wd.qR bf az) ≤ (Wd.qR n d) ∧ (Wd.qR n d) ≤ (Wd.qR ay ax))) := hv5 4 (by decide)
   have e5 : v5 5 = .bool (decide ((Wd.qR bf az) ≤ (Wd.qR n d) ∧ (Wd.qR n d) ≤ (Wd.qR ay ax))) := hv5 5 (by decide)
   have e6 : v5 6 = .int .i64 0 := hv5 6 (by decide)
   simp only [e4, e5, e6]
   have hO := zo.1
   clear HO
   have HO := hide hO
   clear hO zo hv5 hne5
   try clear e4 e5 e6
   go_wp2_with fail
   exact Ro Tryz.results41 rfl rfl (aa HO).bel rfl
  ·
   have kv2 : Mm n d = 1 := if_neg g2
   rw [kv2]
   obtain ⟨rfl, rfl⟩ := (aa HR).2 (fun h => g2 h.2)
   clear HR
   go_upto_region 5 with fail
   refine Rg.ik 2 23 (Rg.pick [Rg.cz (.int .i64 1), Rg.cz (.bool true)]) (dw w [(w.heap.size + 1, 23, [iv n, iv d]), (w.heap.size, 41, [iv bf, iv az, iv ay, iv ax])] V3) jb [] kr rfl (Rg.iq.pick ⟨Rg.ag _, Rg.ag _, trivial⟩) (dw.begin (aa HO))
    (ah (il rfl (Rg.gm kr rfl))
    (ah (Co rfl (Rg.ai 0 kr) (Rg.lv _) rfl rfl)
    Rg.fq)) ?_
   intro v4 V4 hG4 hv4 xh
   simp only [Rg.puts, ko, kg, jy, jw, Act.put, jr, jq, jo]
   have e1 : v4 1 = .bool true := hv4 1 (by decide)
   simp only [e1]
   have hO := hG4.1
   clear HO
   have HO := hide hO
   clear hO hG4 hv4 xh
   try clear e1
   go_upto_region 6 with fail
   refine Rg.ik 3 23 (Rg.pick [Rg.cz (.int .i64 1), Rg.cz (.bool false), Rg.cz (.int .i64 1)]) (dw w [(w.heap.size + 1, 23, [iv n, iv d]), (w.heap.size, 41, [iv bf, iv az, iv ay, iv ax])] V4) jb [] kr rfl (Rg.iq.pick ⟨Rg.ag _, Rg.ag _, Rg.ag _, trivial⟩) (dw.begin (aa HO))
    (ah (il rfl (Rg.gm kr rfl))
    (ah (ma rfl (Rg.lv _))
    (ah (ma rfl (Rg.ai 0 kr))
    Rg.fq))) ?_
   intro v5 V5 zo hv5 hne5
   simp only [Rg.puts, ko, kg, jy, jw, Act.put, jr, jq, jo]
   have e0 : v5 0 = .int .i64 1 := hv5 0 (by decide)
   have e1 : v5 1 = .bool false := hv5 1 (by decide)
   have e2 : v5 2 = .int .i64 1 := hv5 2 (by decide)
   simp only [e0, e1, e2]
   have hO := zo.1
   clear HO
   have HO := hide hO
   clear hO zo hv5 hne5
   try clear e0 e1 e2
   go_wp2_with fail
   exact Ro Tryz.results41 rfl rfl (aa HO).bel rfl
 ·
  have kv : Jr bf az ay ax = 1 := if_neg g1
  rw [kv]
  obtain ⟨rfl, rfl⟩ := (aa HR).2 (fun h => g1 h.1)
  clear HR
  go_upto_region 2 with fail
  refine Rg.ik 2 23 (Rg.pick [Rg.cz (.int .i64 1), Rg.cz (.bool true)]) (dw w [(w.heap.size + 1, 23, [iv n, iv d]), (w.heap.size, 41, [iv bf, iv az, iv ay, iv ax])] V1) jb [] kr rfl (Rg.iq.pick ⟨Rg.ag _, Rg.ag _, trivial⟩) (dw.begin (aa HO))
   (ah (il rfl (Rg.gm kr rfl))
   (ah (Co rfl (Rg.ai 0 kr) (Rg.lv _) rfl rfl)
   Rg.fq)) ?_
  intro v2 V2 hG2 hv2 hne2
  simp only [Rg.puts, ko, kg, jy, jw, Act.put, jr, jq, jo]
  have e1 : v2 1 = .bool true := hv2 1 (by decide)
  simp only [e1]
  have hO := hG2.1
  clear HO
  have HO := hide hO
  clear hO hG2 hv2 hne2
  try clear e1
  go_upto_region 3 with fail
  refine Rg.ik 3 23 (Rg.pick [Rg.cz (.int .i64 1), Rg.cz (.bool false), Rg.cz (.int .i64 1)]) (dw w [(w.heap.size + 1, 23, [iv n, iv d]), (w.heap.size, 41, [iv bf, iv az, iv ay, iv ax])] V2) jb [] kr rfl (Rg.iq.pick ⟨Rg.ag _, Rg.ag _, Rg.ag _, trivial⟩) (dw.begin (aa HO))
   (ah (il rfl (Rg.gm kr rfl))
   (ah (ma rfl (Rg.lv _))
   (ah (ma rfl (Rg.ai 0 kr))
   Rg.fq))) ?_
  intro v3 V3 hG3 hv3 si
  simp only [Rg.puts, ko, kg, jy, jw, Act.put, jr, jq, jo]
  have e0 : v3 0 = .int .i64 1 := hv3 0 (by decide)
  have e1 : v3 1 = .bool false := hv3 1 (by decide)
  have e2 : v3 2 = .int .i64 1 := hv3 2 (by decide)
  simp only [e0, e1, e2]
  have hO := hG3.1
  clear HO
  have HO := hide hO
  clear hO hG3 hv3 si
  try clear e0 e1 e2
  go_wp2_with fail
  exact Ro Tryz.results41 rfl rfl (aa HO).bel rfl
end Sb

end Go.Proofs.YtfbcdfoohpkfeaaGreatDoor
namespace Go.Proofs.YtfbcdfoohpkfeaaGreatDoor
open Go.RowKit

namespace Sb
theorem ath {ρ : Operand → Value} {w : World} {d : Option Tmp} {x y : Operand} {p0 p1 p2 p3 q0 q1 q2 q3 : Int} {b : Bool} {ty : TypeId} {pos : String} {af : Array Edge} {gd : Option (Nat × Bool)} (h : ρ x = .agg #[.int .i64 p0, .int .i64 p1, .int .i64 p2, .int .i64 p3]) (h' : ρ y = .agg #[.int .i64 q0, .int .i64 q1, .int .i64 q2, .int .i64 q3]) (hb : decide (¬ (p0 = q0 ∧ p1 = q1 ∧ p2 = q2 ∧ p3 = q3)) = b) :
  (execOp ρ { dst := d, op := .binOp .neq 41 x y 41, type := ty, pos := pos, after := af, guard := gd }).run Tryz.prog w = .ok (.value (.bool b)) w := by
 subst hb
 simp only [execOp, h, h']
 by_cases k0 : p0 = q0 <;> by_cases k1 : p1 = q1 <;> by_cases k2 : p2 = q2 <;> by_cases k3 : p3 = q3 <;> simp [go_sem, k0, k1, k2, k3]
theorem ant {Q : Exit → Act → World → Prop} {l : List Oper} {n : Nat} {T : Nat → World → Value → Prop} {G : World → Prop} {al : List Nat} {a0 : Act} {k d : Nat} {ty : TypeId} {pos : String} {af : Array Edge} {gd : Option (Nat × Bool)} {x y : Operand} {p0 p1 p2 p3 q0 q1 q2 q3 : Int} {b : Bool}
  (hal : al.contains k = false) (hx : Rg.ni l n T a0 k x (bg [iv p0, iv p1, iv p2, iv p3])) (hy : Rg.ni l n T a0 k y (bg [iv q0, iv q1, iv q2, iv q3])) (hb : decide (¬ (p0 = q0 ∧ p1 = q1 ∧ p2 = q2 ∧ p3 = q3)) = b) (hT : T k = Rg.cz (.bool b)) :
  Rg.Step Tryz.prog Q l n T G jb al a0 k { dst := some d, op := .binOp .neq 41 x y 41, type := ty, pos := pos, after := af, guard := gd } := by
 intro a w hG hO hN
 exact uh (P := Tryz.prog) (ath (Ak (hx a w hO hN)) (Ak (hy a w hO hN)) hb) ⟨_, rfl, hG, Below.refl _ _, by rw [hT]; rfl, fun h => by rw [hal] at h; cases h⟩
set_option maxHeartbeats 16000000 in
theorem aax {bf az ay ax dm di dh df : Int} {n d : Int} (t : Gi) (b : Bool) (u : Gi) (ib : Bool) (ie : Int) (w : World) (hT : xg w) (u0 : Value) (h0 : bg [iv bf, iv az, iv ay, iv ax] w u0) (u1 : Value) (h1 : bg [iv dm, iv di, iv dh, iv df] w u1) (u2 : Value) (h2 : bg [iv n, iv d] w u2)
  (hm1 : ∀ (W : World) (v0 v1 : Value), xg W → bg [iv bf, iv az, iv ay, iv ax] W v0 → bg [iv dm, iv di, iv dh, iv df] W v1 → Calls Tryz.prog 37 #[v0, v1] W (nk (MeT t b) W))
  (hm2 : ∀ (W : World) (v0 v1 : Value), xg W → bg [iv bf, iv az, iv ay, iv ax] W v0 → bg [iv dm, iv di, iv dh, iv df] W v1 → Calls Tryz.prog 38 #[v0, v1] W (nk (MeT t b) W))
  (hu1 : ∀ (W : World) (v0 v1 : Value), xg W → bg [iv bf, iv az, iv ay, iv ax] W v0 → bg [iv dm, iv di, iv dh, iv df] W v1 → Calls Tryz.prog 39 #[v0, v1] W (nk (Uf u) W))
  (hu2 : ∀ (W : World) (v0 v1 : Value), xg W → bg [iv bf, iv az, iv ay, iv ax] W v0 → bg [iv dm, iv di, iv dh, iv df] W v1 → Calls Tryz.prog 40 #[v0, v1] W (nk (Uf u) W))
  (hi1 : ∀ (W : World) (v0 v1 : Value), xg W → bg [iv bf, iv az, iv ay, iv ax] W v0 → bg [iv n, iv d] W v1 → Calls Tryz.prog 41 #[v0, v1] W (nk (qj [Rg.cz (.bool ib), Rg.cz (.int .i64 ie)]) W))
  (hi2 : ∀ (W : World) (v0 v1 : Value), xg W → bg [iv bf, iv az, iv ay, iv ax] W v0 → bg [iv n, iv d] W v1 → Calls Tryz.prog 42 #[v0, v1] W (nk (qj [Rg.cz (.bool ib), Rg.cz (.int .i64 ie)]) W)) :
  Calls Tryz.prog 8 #[u0, u1, u2] w (nk (Rg.cz (.bool true)) w) := by
 have HM1 := hide hm1
 have HM2 := hide hm2
 have HU1 := hide hu1
 have HU2 := hide hu2
 have HI1 := hide hi1
 have HI2 := hide hi2
 have HT := hide hT
 clear hm1 hm2 hu1 hu2 hi1 hi2 hT
 have hu0 := Ak h0
 subst hu0
 have hu1 := Ak h1
 subst hu1
 have hu2 := Ke h2
 subst hu2
 go_enter Tryz.func8, Tryz.ntmps8
 go_upto_region 1 with fail
 have hO := (Own.push (T := 23) (ls := [iv n, iv d]) (cs := [.int .i64 n, .int .i64 d]) (Own.push (T := 41) (ls := [iv dm, iv di, iv dh, iv df]) (cs := [.int .i64 dm, .int .i64 di, .int .i64 dh, .int .i64 df]) (Own.push (T := 41) (ls := [iv bf, iv az, iv ay, iv ax]) (cs := [.int .i64 bf, .int .i64 az, .int .i64 ay, .int .i64 ax]) (Own.nil w) (jf.v (jl _) (jf.v (jl _) (jf.v (jl _) (jf.v (jl _) rfl)))) (w.heap.size) rfl) (((jf.v (jl _) (jf.v (jl _) (jf.v (jl _) (jf.v (jl _) rfl)))) : jf w [iv dm, iv di, iv dh, iv df] [.int .i64 dm, .int .i64 di, .int .i64 dh, .int .i64 df]).below (by repeat (first | exact Below.refl _ _ | refine jk ?_ _))) (w.heap.size + 1) (by simp only [World.size_alloc])) (((jf.v (jl _) (jf.v (jl _) rfl)) : jf w [iv n, iv d] [.int .i64 n, .int .i64 d]).below (by repeat (first | exact Below.refl _ _ | refine jk ?_ _))) (w.heap.size + 2) (by simp only [World.size_alloc]))
 generalize ((w.alloc (.cells #[.int .i64 bf, .int .i64 az, .int .i64 ay, .int .i64 ax] 41)).alloc (.cells #[.int .i64 dm, .int .i64 di, .int .i64 dh, .int .i64 df] 41)).alloc (.cells #[.int .i64 n, .int .i64 d] 23) = W0 at *
 have HO := hide hO
 clear hO
 go_upto_region 1 with fail
 refine Rg.ik 8 83 (Rg.pick [bg [iv bf, iv az, iv ay, iv ax], bg [iv dm, iv di, iv dh, iv df], qj [bg [iv t.a, iv t.b, iv t.c, iv t.d], Rg.cz (.bool b), Rg.cz (.int .i64 t.e)], qj [bg [iv t.a, iv t.b, iv t.c, iv t.d], Rg.cz (.bool b), Rg.cz (.int .i64 t.e)], bg [iv t.a, iv t.b, iv t.c, iv t.d], Rg.cz (.bool b), Rg.cz (.int .i64 t.e), uf 41 zS W0.heap.size]) (dw w [(w.heap.size + 2, 23, [iv n, iv d]), (w.heap.size + 1, 41, [iv dm, iv di, iv dh, iv df]), (w.heap.size, 41, [iv bf, iv az, iv ay, iv ax])] W0) jb [7] kr rfl (Rg.iq.pick ⟨cu _, cu _, nu ⟨(cu _), (Rg.ag _), (Rg.ag _), trivial⟩, nu ⟨(cu _), (Rg.ag _), (Rg.ag _), trivial⟩, cu _, Rg.ag _, Rg.ag _, ui _ _ _, trivial⟩) (dw.begin (aa HO))
  (ah (je qi ug (Rg.gm kr rfl) [] [iv bf, iv az, iv ay, iv ax] [])
  (ah (je qi rf (Rg.gm kr rfl) [] [iv dm, iv di, iv dh, iv df] [])
  (ah (ll Tryz.func37 kr rfl dw.step (Rg.ai 0 kr) (Rg.ai 1 kr) (fun W v0 v1 hG h0 h1 => aa HM1 W v0 v1 ((aa HT).below hG.bel) h0 h1))
  (ah (il rfl (Rg.ai 2 kr))
  (ah (oo (ts := [bg [iv t.a, iv t.b, iv t.c, iv t.d], Rg.cz (.bool b), Rg.cz (.int .i64 t.e)]) rfl (Rg.ai 3 kr) (of_decide_eq_true rfl) rfl)
  (ah (oo (ts := [bg [iv t.a, iv t.b, iv t.c, iv t.d], Rg.cz (.bool b), Rg.cz (.int .i64 t.e)]) rfl (Rg.ai 3 kr) (of_decide_eq_true rfl) rfl)
  (ah (oo (ts := [bg [iv t.a, iv t.b, iv t.c, iv t.d], Rg.cz (.bool b), Rg.cz (.int .i64 t.e)]) rfl (Rg.ai 3 kr) (of_decide_eq_true rfl) rfl)
  (ah (vv Sr rfl dw.step dw.size rfl (xx (by intro j hj; simp at hj; (repeat' (first | (rcases hj with rfl | hj))) <;> first | (subst hj; exact ⟨_, _, _, rfl⟩) | exact ⟨_, _, _, rfl⟩)))
  Rg.fq)))))))) ?_
 intro v1 V1 hG1 hv1 hne1
 simp only [Rg.puts, ko, kg, jy, jw, Act.put, jr, jq, jo]
 have e5 : v1 5 = .bool b := hv1 5 (by decide)
 have e6 : v1 6 = .int .i64 t.e := hv1 6 (by decide)
 obtain ⟨xz, e7, Ol, Uu⟩ := (show uf 41 zS W0.heap.size V1 (v1 7) from hv1 7 (by decide))
 simp only [e5, e6, e7]
 have hO := hG1.1
 replace hO := Own.add (aa HO) hG1.2 Ol Uu
 clear Ol Uu
 refine nz hO 0 [] zS [iv t.a, iv t.b, iv t.c, iv t.d] [] rfl vo rfl (show bg [iv t.a, iv t.b, iv t.c, iv t.d] V1 (v1 4) from hv1 4 (by decide)) rfl rfl rfl ?_
 intro zt ji hk0
 replace hO := ji
 clear ji
 clear HO
 have HO := hide hO
 clear hO hG1 hv1 hne1 hk0
 try clear e5 e6 e7
 go_upto_region 2 with fail
 refine Rg.ik 8 83 (Rg.pick [bg [iv bf, iv az, iv ay, iv ax], bg [iv dm, iv di, iv dh, iv df], qj [bg [iv t.a, iv t.b, iv t.c, iv t.d], Rg.cz (.bool b), Rg.cz (.int .i64 t.e)], qj [bg [iv t.a, iv t.b, iv t.c, iv t.d], Rg.cz (.bool b), Rg.cz (.int .i64 t.e)], bg [iv t.a, iv t.b, iv t.c, iv t.d], Rg.cz (.bool b), Rg.cz (.int .i64 t.e), uf 41 zS zt.heap.size]) (dw w [(xz, 41, [iv t.a, iv t.b, iv t.c, iv t.d]), (w.heap.size + 2, 23, [iv n, iv d]), (w.heap.size + 1, 41, [iv dm, iv di, iv dh, iv df]), (w.heap.size, 41, [iv bf, iv az, iv ay, iv ax])] zt) jb [7] kr rfl (Rg.iq.pick ⟨cu _, cu _, nu ⟨(cu _), (Rg.ag _), (Rg.ag _), trivial⟩, nu ⟨(cu _), (Rg.ag _), (Rg.ag _), trivial⟩, cu _, Rg.ag _, Rg.ag _, ui _ _ _, trivial⟩) (dw.begin (aa HO))
  (ah (je qi Ub (Rg.gm kr rfl) [] [iv bf, iv az, iv ay, iv ax] [])
  (ah (je qi ug (Rg.gm kr rfl) [] [iv dm, iv di, iv dh, iv df] [])
  (ah (ll Tryz.func38 kr rfl dw.step (Rg.ai 0 kr) (Rg.ai 1 kr) (fun W v0 v1 hG h0 h1 => aa HM2 W v0 v1 ((aa HT).below hG.bel) h0 h1))
  (ah (il rfl (Rg.ai 2 kr))
  (ah (oo (ts := [bg [iv t.a, iv t.b, iv t.c, iv t.d], Rg.cz (.bool b), Rg.cz (.int .i64 t.e)]) rfl (Rg.ai 3 kr) (of_decide_eq_true rfl) rfl)
  (ah (oo (ts := [bg [iv t.a, iv t.b, iv t.c, iv t.d], Rg.cz (.bool b), Rg.cz (.int .i64 t.e)]) rfl (Rg.ai 3 kr) (of_decide_eq_true rfl) rfl)
  (ah (oo (ts := [bg [iv t.a, iv t.b, iv t.c, iv t.d], Rg.cz (.bool b), Rg.cz (.int .i64 t.e)]) rfl (Rg.ai 3 kr) (of_decide_eq_true rfl) rfl)
  (ah (vv Sr rfl dw.step dw.size rfl (xx (by intro j hj; simp at hj; (repeat' (first | (rcases hj with rfl | hj))) <;> first | (subst hj; exact ⟨_, _, _, rfl⟩) | exact ⟨_, _, _, rfl⟩)))
  Rg.fq)))))))) ?_
 intro v2 V2 hG2 hv2 hne2
 simp only [Rg.puts, ko, kg, jy, jw, Act.put, jr, jq, jo]
 have e5 : v2 5 = .bool b := hv2 5 (by decide)
 have e6 : v2 6 = .int .i64 t.e := hv2 6 (by decide)
 obtain ⟨Xv, e7, Ol, Uu⟩ := (show uf 41 zS zt.heap.size V2 (v2 7) from hv2 7 (by decide))
 simp only [e5, e6, e7]
 have hO := hG2.1
 replace hO := Own.add (aa HO) hG2.2 Ol Uu
 clear Ol Uu
 refine nz hO 0 [] zS [iv t.a, iv t.b, iv t.c, iv t.d] [] rfl vo rfl (show bg [iv t.a, iv t.b, iv t.c, iv t.d] V2 (v2 4) from hv2 4 (by decide)) rfl rfl rfl ?_
 intro Dh ji hk0
 replace hO := ji
 clear ji
 clear HO
 have HO := hide hO
 clear hO hG2 hv2 hne2 hk0
 try clear e5 e6 e7
 go_upto_region 3 with fail
 refine Rg.ik 13 83 (Rg.pick [bg [iv t.a, iv t.b, iv t.c, iv t.d], bg [iv t.a, iv t.b, iv t.c, iv t.d], Rg.cz (.bool false), Rg.cz (.bool false), Rg.cz (.bool b), Rg.cz (.bool b), Rg.cz (.bool false), Rg.cz (.bool false), Rg.cz (.bool false), Rg.cz (.int .i64 t.e), Rg.cz (.int .i64 t.e), Rg.cz (.bool false), Rg.cz (.bool false)]) (dw w [(Xv, 41, [iv t.a, iv t.b, iv t.c, iv t.d]), (xz, 41, [iv t.a, iv t.b, iv t.c, iv t.d]), (w.heap.size + 2, 23, [iv n, iv d]), (w.heap.size + 1, 41, [iv dm, iv di, iv dh, iv df]), (w.heap.size, 41, [iv bf, iv az, iv ay, iv ax])] Dh) jb [] kr rfl (Rg.iq.pick ⟨cu _, cu _, Rg.ag _, Rg.ag _, Rg.ag _, Rg.ag _, Rg.ag _, Rg.ag _, Rg.ag _, Rg.ag _, Rg.ag _, Rg.ag _, Rg.ag _, trivial⟩) (dw.begin (aa HO))
  (ah (je qi rf (Rg.gm kr rfl) [] [iv t.a, iv t.b, iv t.c, iv t.d] [])
  (ah (je qi me0 (Rg.gm kr rfl) [] [iv t.a, iv t.b, iv t.c, iv t.d] [])
  (ah (ant rfl (Rg.ai 0 kr) (Rg.ai 1 kr) (decide_eq_false (fun h => h ⟨rfl, rfl, rfl, rfl⟩)) rfl)
  (ah (il rfl (Rg.ai 2 kr))
  (Rg.dz (Rg.iy (d := 30) rfl kr rfl (il rfl (Rg.gm kr rfl)))
  (Rg.dz (Rg.iy (d := 30) rfl kr rfl (il rfl (Rg.gm kr rfl)))
  (Rg.dz (Rg.iy (d := 30) rfl kr rfl (bal rfl (Rg.ai 4 kr) (Rg.ai 5 kr) rfl (bne_self_eq_false b)))
  (ah (zk rfl (Rg.ai 3 kr) (Rg.ai 6 kr))
  (ah (il rfl (Rg.ai 7 kr))
  (Rg.dz (Rg.iy (d := 35) rfl kr rfl (il rfl (Rg.gm kr rfl)))
  (Rg.dz (Rg.iy (d := 35) rfl kr rfl (il rfl (Rg.gm kr rfl)))
  (Rg.dz (Rg.iy (d := 35) rfl kr rfl (Co rfl (Rg.ai 9 kr) (Rg.ai 10 kr) rfl (bne_self_eq_false t.e)))
  (ah (zk rfl (Rg.ai 8 kr) (Rg.ai 11 kr))
  Rg.fq))))))))))))) ?_
 intro v3 V3 hG3 hv3 si
 simp only [Rg.puts, ko, kg, jy, jw, Act.put, jr, jq, jo]
 have e12 : v3 12 = .bool false := hv3 12 (by decide)
 simp only [e12]
 have hO := hG3.1
 clear HO
 have HO := hide hO
 clear hO hG3 hv3 si
 try clear e12
 go_upto_region 5 with fail
 refine Rg.ik 6 83 (Rg.pick [bg [iv bf, iv az, iv ay, iv ax], bg [iv dm, iv di, iv dh, iv df], qj [bg [iv u.a, iv u.b, iv u.c, iv u.d], Rg.cz (.int .i64 u.e)], qj [bg [iv u.a, iv u.b, iv u.c, iv u.d], Rg.cz (.int .i64 u.e)], bg [iv u.a, iv u.b, iv u.c, iv u.d], Rg.cz (.int .i64 u.e)]) (dw w [(Xv, 41, [iv t.a, iv t.b, iv t.c, iv t.d]), (xz, 41, [iv t.a, iv t.b, iv t.c, iv t.d]), (w.heap.size + 2, 23, [iv n, iv d]), (w.heap.size + 1, 41, [iv dm, iv di, iv dh, iv df]), (w.heap.size, 41, [iv bf, iv az, iv ay, iv ax])] V3) jb [] kr rfl (Rg.iq.pick ⟨cu _, cu _, nu ⟨(cu _), (Rg.ag _), trivial⟩, nu ⟨(cu _), (Rg.ag _), trivial⟩, cu _, Rg.ag _, trivial⟩) (dw.begin (aa HO))
  (ah (je qi Za (Rg.gm kr rfl) [] [iv bf, iv az, iv ay, iv ax] [])
  (ah (je qi Ub (Rg.gm kr rfl) [] [iv dm, iv di, iv dh, iv df] [])
  (ah (ll Tryz.func39 kr rfl dw.step (Rg.ai 0 kr) (Rg.ai 1 kr) (fun W v0 v1 hG h0 h1 => aa HU1 W v0 v1 ((aa HT).below hG.bel) h0 h1))
  (ah (il rfl (Rg.ai 2 kr))
  (ah (oo (ts := [bg [iv u.a, iv u.b, iv u.c, iv u.d], Rg.cz (.int .i64 u.e)]) rfl (Rg.ai 3 kr) (of_decide_eq_true rfl) rfl)
  (ah (oo (ts := [bg [iv u.a, iv u.b, iv u.c, iv u.d], Rg.cz (.int .i64 u.e)]) rfl (Rg.ai 3 kr) (of_decide_eq_true rfl) rfl)
  Rg.fq)))))) ?_
 intro v4 V4 hG4 hv4 xh
 simp only [Rg.puts, ko, kg, jy, jw, Act.put, jr, jq, jo]
 have e5 : v4 5 = .int .i64 u.e := hv4 5 (by decide)
 simp only [e5]
 have hO := hG4.1
 refine nz hO 1 [] [iv t.a, iv t.b, iv t.c, iv t.d] [iv u.a, iv u.b, iv u.c, iv u.d] [] rfl vo rfl (show bg [iv u.a, iv u.b, iv u.c, iv u.d] V4 (v4 4) from hv4 4 (by decide)) rfl rfl rfl ?_
 intro Mt ji hk0
 replace hO := ji
 clear ji
 clear HO
 have HO := hide hO
 clear hO hG4 hv4 xh hk0
 try clear e5
 go_upto_region 6 with fail
 refine Rg.ik 6 83 (Rg.pick [bg [iv bf, iv az, iv ay, iv ax], bg [iv dm, iv di, iv dh, iv df], qj [bg [iv u.a, iv u.b, iv u.c, iv u.d], Rg.cz (.int .i64 u.e)], qj [bg [iv u.a, iv u.b, iv u.c, iv u.d], Rg.cz (.int .i64 u.e)], bg [iv u.a, iv u.b, iv u.c, iv u.d], Rg.cz (.int .i64 u.e)]) (dw w [(Xv, 41, [iv t.a, iv t.b, iv t.c, iv t.d]), (xz, 41, [iv u.a, iv u.b, iv u.c, iv u.d]), (w.heap.size + 2, 23, [iv n, iv d]), (w.heap.size + 1, 41, [iv dm, iv di, iv dh, iv df]), (w.heap.size, 41, [iv bf, iv az, iv ay, iv ax])] Mt) jb [] kr rfl (Rg.iq.pick ⟨cu _, cu _, nu ⟨(cu _), (Rg.ag _), trivial⟩, nu ⟨(cu _), (Rg.ag _), trivial⟩, cu _, Rg.ag _, trivial⟩) (dw.begin (aa HO))
  (ah (je qi Za (Rg.gm kr rfl) [] [iv bf, iv az, iv ay, iv ax] [])
  (ah (je qi Ub (Rg.gm kr rfl) [] [iv dm, iv di, iv dh, iv df] [])
  (ah (ll Tryz.func40 kr rfl dw.step (Rg.ai 0 kr) (Rg.ai 1 kr) (fun W v0 v1 hG h0 h1 => aa HU2 W v0 v1 ((aa HT).below hG.bel) h0 h1))
  (ah (il rfl (Rg.ai 2 kr))
  (ah (oo (ts := [bg [iv u.a, iv u.b, iv u.c, iv u.d], Rg.cz (.int .i64 u.e)]) rfl (Rg.ai 3 kr) (of_decide_eq_true rfl) rfl)
  (ah (oo (ts := [bg [iv u.a, iv u.b, iv u.c, iv u.d], Rg.cz (.int .i64 u.e)]) rfl (Rg.ai 3 kr) (of_decide_eq_true rfl) rfl)
  Rg.fq)))))) ?_
 intro v5 V5 zo hv5 hne5
 simp only [Rg.puts, ko, kg, jy, jw, Act.put, jr, jq, jo]
 have e5 : v5 5 = .int .i64 u.e := hv5 5 (by decide)
 simp only [e5]
 have hO := zo.1
 refine nz hO 0 [] [iv t.a, iv t.b, iv t.c, iv t.d] [iv u.a, iv u.b, iv u.c, iv u.d] [] rfl vo rfl (show bg [iv u.a, iv u.b, iv u.c, iv u.d] V5 (v5 4) from hv5 4 (by decide)) rfl rfl rfl ?_
 intro Lh ji hk0
 replace hO := ji
 clear ji
 clear HO
 have HO := hide hO
 clear hO zo hv5 hne5 hk0
 try clear e5
 go_upto_region 7 with fail
 refine Rg.ik 8 83 (Rg.pick [bg [iv u.a, iv u.b, iv u.c, iv u.d], bg [iv u.a, iv u.b, iv u.c, iv u.d], Rg.cz (.bool false), Rg.cz (.bool false), Rg.cz (.int .i64 u.e), Rg.cz (.int .i64 u.e), Rg.cz (.bool false), Rg.cz (.bool false)]) (dw w [(Xv, 41, [iv u.a, iv u.b, iv u.c, iv u.d]), (xz, 41, [iv u.a, iv u.b, iv u.c, iv u.d]), (w.heap.size + 2, 23, [iv n, iv d]), (w.heap.size + 1, 41, [iv dm, iv di, iv dh, iv df]), (w.heap.size, 41, [iv bf, iv az, iv ay, iv ax])] Lh) jb [] kr rfl (Rg.iq.pick ⟨cu _, cu _, Rg.ag _, Rg.ag _, Rg.ag _, Rg.ag _, Rg.ag _, Rg.ag _, trivial⟩) (dw.begin (aa HO))
  (ah (je qi rf (Rg.gm kr rfl) [] [iv u.a, iv u.b, iv u.c, iv u.d] [])
  (ah (je qi me0 (Rg.gm kr rfl) [] [iv u.a, iv u.b, iv u.c, iv u.d] [])
  (ah (ant rfl (Rg.ai 0 kr) (Rg.ai 1 kr) (decide_eq_false (fun h => h ⟨rfl, rfl, rfl, rfl⟩)) rfl)
  (ah (il rfl (Rg.ai 2 kr))
  (Rg.dz (Rg.iy (d := 55) rfl kr rfl (il rfl (Rg.gm kr rfl)))
  (Rg.dz (Rg.iy (d := 55) rfl kr rfl (il rfl (Rg.gm kr rfl)))
  (Rg.dz (Rg.iy (d := 55) rfl kr rfl (Co rfl (Rg.ai 4 kr) (Rg.ai 5 kr) rfl (bne_self_eq_false u.e)))
  (ah (zk rfl (Rg.ai 3 kr) (Rg.ai 6 kr))
  Rg.fq)))))))) ?_
 intro v6 V6 Hl hv6 Jb
 simp only [Rg.puts, ko, kg, jy, jw, Act.put, jr, jq, jo]
 have e7 : v6 7 = .bool false := hv6 7 (by decide)
 simp only [e7]
 have hO := Hl.1
 clear HO
 have HO := hide hO
 clear hO Hl hv6 Jb
 try clear e7
 go_upto_region 9 with fail
 refine Rg.ik 8 83 (Rg.pick [bg [iv bf, iv az, iv ay, iv ax], bg [iv n, iv d], qj [Rg.cz (.bool ib), Rg.cz (.int .i64 ie)], qj [Rg.cz (.bool ib), Rg.cz (.int .i64 ie)], Rg.cz (.bool ib), Rg.cz (.int .i64 ie), Rg.cz (.bool ib), Rg.cz (.int .i64 ie)]) (dw w [(Xv, 41, [iv u.a, iv u.b, iv u.c, iv u.d]), (xz, 41, [iv u.a, iv u.b, iv u.c, iv u.d]), (w.heap.size + 2, 23, [iv n, iv d]), (w.heap.size + 1, 41, [iv dm, iv di, iv dh, iv df]), (w.heap.size, 41, [iv bf, iv az, iv ay, iv ax])] V6) jb [] kr rfl (Rg.iq.pick ⟨cu _, cu _, nu ⟨(Rg.ag _), (Rg.ag _), trivial⟩, nu ⟨(Rg.ag _), (Rg.ag _), trivial⟩, Rg.ag _, Rg.ag _, Rg.ag _, Rg.ag _, trivial⟩) (dw.begin (aa HO))
  (ah (je qi Za (Rg.gm kr rfl) [] [iv bf, iv az, iv ay, iv ax] [])
  (ah (je zb ug (Rg.gm kr rfl) [] [iv n, iv d] [])
  (ah (ll Tryz.func41 kr rfl dw.step (Rg.ai 0 kr) (Rg.ai 1 kr) (fun W v0 v1 hG h0 h1 => aa HI1 W v0 v1 ((aa HT).below hG.bel) h0 h1))
  (ah (il rfl (Rg.ai 2 kr))
  (ah (oo (ts := [Rg.cz (.bool ib), Rg.cz (.int .i64 ie)]) rfl (Rg.ai 3 kr) (of_decide_eq_true rfl) rfl)
  (ah (oo (ts := [Rg.cz (.bool ib), Rg.cz (.int .i64 ie)]) rfl (Rg.ai 3 kr) (of_decide_eq_true rfl) rfl)
  (ah (ma rfl (Rg.ai 4 kr))
  (ah (ma rfl (Rg.ai 5 kr))
  Rg.fq)))))))) ?_
 intro v7 V7 hG7 hv7 afu
 simp only [Rg.puts, ko, kg, jy, jw, Act.put, jr, jq, jo]
 have e4 : v7 4 = .bool ib := hv7 4 (by decide)
 have e5 : v7 5 = .int .i64 ie := hv7 5 (by decide)
 have e6 : v7 6 = .bool ib := hv7 6 (by decide)
 have e7 : v7 7 = .int .i64 ie := hv7 7 (by decide)
 simp only [e4, e5, e6, e7]
 have hO := hG7.1
 clear HO
 have HO := hide hO
 clear hO hG7 hv7 afu
 try clear e4 e5 e6 e7
 go_upto_region 10 with fail
 refine Rg.ik 8 83 (Rg.pick [bg [iv bf, iv az, iv ay, iv ax], bg [iv n, iv d], qj [Rg.cz (.bool ib), Rg.cz (.int .i64 ie)], qj [Rg.cz (.bool ib), Rg.cz (.int .i64 ie)], Rg.cz (.bool ib), Rg.cz (.int .i64 ie), Rg.cz (.bool ib), Rg.cz (.int .i64 ie)]) (dw w [(Xv, 41, [iv u.a, iv u.b, iv u.c, iv u.d]), (xz, 41, [iv u.a, iv u.b, iv u.c, iv u.d]), (w.heap.size + 2, 23, [iv n, iv d]), (w.heap.size + 1, 41, [iv dm, iv di, iv dh, iv df]), (w.heap.size, 41, [iv bf, iv az, iv ay, iv ax])] V7) jb [] kr rfl (Rg.iq.pick ⟨cu _, cu _, nu ⟨(Rg.ag _), (Rg.ag _), trivial⟩, nu ⟨(Rg.ag _), (Rg.ag _), trivial⟩, Rg.ag _, Rg.ag _, Rg.ag _, Rg.ag _, trivial⟩) (dw.begin (aa HO))
  (ah (je qi Za (Rg.gm kr rfl) [] [iv bf, iv az, iv ay, iv ax] [])
  (ah (je zb ug (Rg.gm kr rfl) [] [iv n, iv d] [])
  (ah (ll Tryz.func42 kr rfl dw.step (Rg.ai 0 kr) (Rg.ai 1 kr) (fun W v0 v1 hG h0 h1 => aa HI2 W v0 v1 ((aa HT).below hG.bel) h0 h1))
  (ah (il rfl (Rg.ai 2 kr))
  (ah (oo (ts := [Rg.cz (.bool ib), Rg.cz (.int .i64 ie)]) rfl (Rg.ai 3 kr) (of_decide_eq_true rfl) rfl)
  (ah (oo (ts := [Rg.cz (.bool ib), Rg.cz (.int .i64 ie)]) rfl (Rg.ai 3 kr) (of_decide_eq_true rfl) rfl)
  (ah (ma rfl (Rg.ai 4 kr))
  (ah (ma rfl (Rg.ai 5 kr))
  Rg.fq)))))))) ?_
 intro v8 V8 hG8 hv8 biy
 simp only [Rg.puts, ko, kg, jy, jw, Act.put, jr, jq, jo]
 have e4 : v8 4 = .bool ib := hv8 4 (by decide)
 have e5 : v8 5 = .int .i64 ie := hv8 5 (by decide)
 have e6 : v8 6 = .bool ib := hv8 6 (by decide)
 have e7 : v8 7 = .int .i64 ie := hv8 7 (by decide)
 simp only [e4, e5, e6, e7]
 have hO := hG8.1
 clear HO
 have HO := hide hO
 clear hO hG8 hv8 biy
 try clear e4 e5 e6 e7
 go_upto_region 11 with fail
 refine Rg.ik 12 83 (Rg.pick [Rg.cz (.bool ib), Rg.cz (.bool ib), Rg.cz (.bool true), Rg.cz (.bool true), Rg.cz (.int .i64 ie), Rg.cz (.int .i64 ie), Rg.cz (.bool true), Rg.cz (.bool true), Rg.cz (.bool true), Rg.cz (.bool true), Rg.cz (.bool true), Rg.cz (.bool true)]) (dw w [(Xv, 41, [iv u.a, iv u.b, iv u.c, iv u.d]), (xz, 41, [iv u.a, iv u.b, iv u.c, iv u.d]), (w.heap.size + 2, 23, [iv n, iv d]), (w.heap.size + 1, 41, [iv dm, iv di, iv dh, iv df]), (w.heap.size, 41, [iv bf, iv az, iv ay, iv ax])] V8) jb [] kr rfl (Rg.iq.pick ⟨Rg.ag _, Rg.ag _, Rg.ag _, Rg.ag _, Rg.ag _, Rg.ag _, Rg.ag _, Rg.ag _, Rg.ag _, Rg.ag _, Rg.ag _, Rg.ag _, trivial⟩) (dw.begin (aa HO))
  (ah (il rfl (Rg.gm kr rfl))
  (ah (il rfl (Rg.gm kr rfl))
  (ah (bap rfl (Rg.ai 0 kr) (Rg.ai 1 kr) rfl (beq_self_eq_true ib))
  (ah (il rfl (Rg.ai 2 kr))
  (Rg.dz (Rg.iy (d := 75) rfl kr rfl (il rfl (Rg.gm kr rfl)))
  (Rg.dz (Rg.iy (d := 75) rfl kr rfl (il rfl (Rg.gm kr rfl)))
  (Rg.dz (Rg.iy (d := 75) rfl kr rfl (He rfl (Rg.ai 4 kr) (Rg.ai 5 kr) rfl (beq_self_eq_true ie)))
  (ah (xw rfl (Rg.ai 3 kr) (Rg.ai 6 kr))
  (ah (il rfl (Rg.ai 7 kr))
  (Rg.dz (Rg.iy (d := 80) rfl kr rfl (ayn Tryz.func28 kr rfl dw.step  (fun W  hG  => alh W ((aa HT).below hG.bel))))
  (ah (xw rfl (Rg.ai 8 kr) (Rg.ai 9 kr))
  (ah (ma rfl (Rg.ai 10 kr))
  Rg.fq)))))))))))) ?_
 intro v9 V9 hG9 hv9 bix
 simp only [Rg.puts, ko, kg, jy, jw, Act.put, jr, jq, jo]
 have e10 : v9 10 = .bool true := hv9 10 (by decide)
 have e11 : v9 11 = .bool true := hv9 11 (by decide)
 simp only [e10, e11]
 have hO := hG9.1
 clear HO
 have HO := hide hO
 clear hO hG9 hv9 bix
 try clear e10 e11
 go_wp2_with fail
 exact Cw Tryz.results8 rfl (aa HO).bel rfl
theorem avu {bf az ay ax dm di dh df : Int} (w : World) (u0 : Value) (h0 : bg [iv bf, iv az, iv ay, iv ax] w u0) (u1 : Value) (h1 : bg [iv dm, iv di, iv dh, iv df] w u1) : Calls Tryz.prog 38 #[u0, u1] w (nk (MeT (Jv ⟨bf, az, ay, ax⟩ ⟨dm, di, dh, df⟩) (Yy ⟨bf, az, ay, ax⟩ ⟨dm, di, dh, df⟩)) w) := by
 refine aku _ _ w u0 h0 u1 h1 ⟨fun h => ?_, fun h => ⟨fun h2 => ?_, fun h2 => ?_⟩⟩
 ·
  have hn : ¬ su [⟨bf, az, ay, ax⟩, ⟨dm, di, dh, df⟩] = 0 := by omega
  exact ⟨by unfold Jv; rw [if_neg hn, h], decide_eq_false (fun hh => hn hh.1)⟩
 ·
  exact ⟨by unfold Jv; rw [if_pos h]; exact if_neg h2, decide_eq_false (fun hh => h2 hh.2.1)⟩
 ·
  have e : Jv ⟨bf, az, ay, ax⟩ ⟨dm, di, dh, df⟩ = gu (eu (Wd.qR bf az) [(Wd.qR dm di)]) (fe (Wd.qR ay ax) [(Wd.qR dh df)]) := by unfold Jv; rw [if_pos h]; exact if_pos h2
  refine ⟨e, ?_⟩
  unfold Yy
  rw [e]
  by_cases k : (gu (eu (Wd.qR bf az) [(Wd.qR dm di)]) (fe (Wd.qR ay ax) [(Wd.qR dh df)])).e = 0
  ·
   rw [decide_eq_true ⟨h, h2, k⟩, k]; rfl
  ·
   rw [decide_eq_false (fun hh => k hh.2.2), beq_eq_false_iff_ne.2 k]
theorem azo {bf az ay ax dm di dh df : Int} (w : World) (u0 : Value) (h0 : bg [iv bf, iv az, iv ay, iv ax] w u0) (u1 : Value) (h1 : bg [iv dm, iv di, iv dh, iv df] w u1) : Calls Tryz.prog 40 #[u0, u1] w (nk (Uf (Zq ⟨bf, az, ay, ax⟩ ⟨dm, di, dh, df⟩)) w) :=
 akv _ w u0 h0 u1 h1 (by
  unfold Zq
  exact ⟨fun h => by rw [if_neg om, h], fun h => if_pos h⟩)
def inB (s : Sp) (n d : Int) : Bool := decide (Qo s ∧ Wd.wm n d ∧ Wd.qR s.a s.b ≤ Wd.qR n d ∧ Wd.qR n d ≤ Wd.qR s.c s.d)
def inE (s : Sp) (n d : Int) : Int := if Qo s ∧ Wd.wm n d then 0 else 1
theorem aiy (s : Sp) (n d : Int) : (Bu s.a s.b s.c s.d → Wd.wm n d → decide (Wd.qR s.a s.b ≤ Wd.qR n d ∧ Wd.qR n d ≤ Wd.qR s.c s.d) = inB s n d ∧ inE s n d = 0) ∧ (¬ (Bu s.a s.b s.c s.d ∧ Wd.wm n d) → inB s n d = false ∧ inE s n d = 1) := by
 refine ⟨fun h1 h2 => ⟨?_, if_pos ⟨h1, h2⟩⟩, fun h => ⟨decide_eq_false (fun k => h ⟨k.1, k.2.1⟩), if_neg (fun k => h k)⟩⟩
 unfold inB
 by_cases k : Wd.qR s.a s.b ≤ Wd.qR n d ∧ Wd.qR n d ≤ Wd.qR s.c s.d
 ·
  rw [decide_eq_true k, decide_eq_true ⟨h1, h2, k⟩]
 ·
  rw [decide_eq_false k, decide_eq_false (fun h => k h.2.2)]
theorem aon (s t : Sp) (n d : Int) (w : World) (hT : xg w) (u0 u1 u2 : Value) (h0 : bg (lv4 s) w u0) (h1 : bg (lv4 t) w u1) (h2 : bg [.v (.int .i64 n), .v (.int .i64 d)] w u2) : Calls Tryz.prog 8 #[u0, u1, u2] w (nk (Rg.cz (.bool true)) w) :=
 aax (Jv s t) (Yy s t) (Zq s t) (inB s n d) (inE s n d) w hT u0 h0 u1 h1 u2 h2
  (fun W v0 v1 hT h0 h1 => azp W hT v0 h0 v1 h1) (fun W v0 v1 _ h0 h1 => avu W v0 h0 v1 h1)
  (fun W v0 v1 hT h0 h1 => bdm W hT v0 h0 v1 h1) (fun W v0 v1 _ h0 h1 => azo W v0 h0 v1 h1)
  (fun W v0 v1 hT h0 h1 => bfq _ _ W hT v0 h0 v1 h1 (aiy s n d)) (fun W v0 v1 _ h0 h1 => bfp _ _ W v0 h0 v1 h1 (aiy s n d))
end Sb

end Go.Proofs.YtfbcdfoohpkfeaaGreatDoor
