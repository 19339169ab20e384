/- Texts beneath a law of layer 1. -/
import Derived.Test.YtfbcdfoohpkfeaaGreatDoorCq13
set_option maxRecDepth 100000
namespace Go.Proofs.YtfbcdfoohpkfeaaGreatDoor
open Go.RowKit

namespace Sb
set_option maxHeartbeats 16000000 in
theorem ame {bf az ay ax dm di dh df : Int} {g : Int} (t : Gi) (w : World) (hT : xg w) (u0 : Value) (h0 : bg [iv bf, iv az, iv ay, iv ax] w u0) (u1 : Value) (h1 : bg [iv dm, iv di, iv dh, iv df] w u1)
  (hok : Ej (su [⟨bf, az, ay, ax⟩, ⟨dm, di, dh, df⟩]) g = 0 → (Bu bf az ay ax ∧ Bu dm di dh df ∧ 1 ≤ g ∧ g ≤ 1000000))
  (hr : (Ej (su [⟨bf, az, ay, ax⟩, ⟨dm, di, dh, df⟩]) g ≠ 0 → t = ⟨0, 0, 0, 0, Ej (su [⟨bf, az, ay, ax⟩, ⟨dm, di, dh, df⟩]) g⟩) ∧ (Ej (su [⟨bf, az, ay, ax⟩, ⟨dm, di, dh, df⟩]) g = 0 → t = gu (qf (fe ((Wd.qR bf az) * (Wd.qR dm di)) [(Wd.qR bf az) * (Wd.qR dh df), (Wd.qR ay ax) * (Wd.qR dm di), (Wd.qR ay ax) * (Wd.qR dh df)]) g) (xq (eu ((Wd.qR bf az) * (Wd.qR dm di)) [(Wd.qR bf az) * (Wd.qR dh df), (Wd.qR ay ax) * (Wd.qR dm di), (Wd.qR ay ax) * (Wd.qR dh df)]) g))) :
  Calls Tryz.prog 148 #[u0, u1, .int .i64 g, .func (.func 151) #[] #[]] w (nk (Uf t) w) := by
 have Fy := hide (fun (h1 : Bu bf az ay ax) (h2 : Bu dm di dh df) => And.intro (Re (Ny (K := 1) (xu h1.1) (xu h1.2.1) (xu h2.1) (xu h2.2.1) om w hT).1 (Ny (K := 1) (xu h1.1) (xu h1.2.1) (xu h2.1) (xu h2.2.1) om w hT).2 : Sm (1 + 1) (fe ((Wd.qR bf az) * (Wd.qR dm di)) [(Wd.qR bf az) * (Wd.qR dh df), (Wd.qR ay ax) * (Wd.qR dm di), (Wd.qR ay ax) * (Wd.qR dh df)])) (Kz (Ny (K := 1) (xu h1.1) (xu h1.2.1) (xu h2.1) (xu h2.2.1) om w hT).1 (Ny (K := 1) (xu h1.1) (xu h1.2.1) (xu h2.1) (xu h2.2.1) om w hT).2 : Sm (1 + 1) (eu ((Wd.qR bf az) * (Wd.qR dm di)) [(Wd.qR bf az) * (Wd.qR dh df), (Wd.qR ay ax) * (Wd.qR dm di), (Wd.qR ay ax) * (Wd.qR dh df)])))
 have Jo := hide hok
 have HR := hide hr
 have HT := hide hT
 clear hok hr hT
 have hu0 := Ak h0
 subst hu0
 have hu1 := Ak h1
 subst hu1
 go_enter Tryz.func148, Tryz.ntmps148
 go_upto_region 1 with fail
 have hO := (Own.push (T := 41) (ls := zS) (cs := [.int .i64 0, .int .i64 0, .int .i64 0, .int .i64 0]) (Own.push (T := 41) (ls := [iv dm, iv di, iv dh, iv df]) (cs := [.int .i64 dm, .int .i64 di, .int .i64 dh, .int .i64 df]) (Own.push (T := 41) (ls := [iv bf, iv az, iv ay, iv ax]) (cs := [.int .i64 bf, .int .i64 az, .int .i64 ay, .int .i64 ax]) (Own.nil w) (jf.v (jl _) (jf.v (jl _) (jf.v (jl _) (jf.v (jl _) rfl)))) (w.heap.size) rfl) (((jf.v (jl _) (jf.v (jl _) (jf.v (jl _) (jf.v (jl _) rfl)))) : jf w [iv dm, iv di, iv dh, iv df] [.int .i64 dm, .int .i64 di, .int .i64 dh, .int .i64 df]).below (by repeat (first | exact Below.refl _ _ | refine jk ?_ _))) (w.heap.size + 1) (by simp only [World.size_alloc])) (((jf.vs w [.int .i64 0, .int .i64 0, .int .i64 0, .int .i64 0] rfl) : jf w zS [.int .i64 0, .int .i64 0, .int .i64 0, .int .i64 0]).below (by repeat (first | exact Below.refl _ _ | refine jk ?_ _))) (w.heap.size + 2) (by simp only [World.size_alloc]))
 generalize ((w.alloc (.cells #[.int .i64 bf, .int .i64 az, .int .i64 ay, .int .i64 ax] 41)).alloc (.cells #[.int .i64 dm, .int .i64 di, .int .i64 dh, .int .i64 df] 41)).alloc (.cells #[.int .i64 0, .int .i64 0, .int .i64 0, .int .i64 0] 41) = W0 at *
 have HO := hide hO
 clear hO
 go_upto_region 1 with fail
 refine Rg.ik 7 32 (Rg.pick [bg [iv bf, iv az, iv ay, iv ax], bg [iv dm, iv di, iv dh, iv df], Qh 41 2 [iv bf, iv az, iv ay, iv ax, iv dm, iv di, iv dh, iv df], Rg.cz (.int .i64 (su [⟨bf, az, ay, ax⟩, ⟨dm, di, dh, df⟩])), Rg.cz (.int .i64 g), Rg.cz (.int .i64 (Ej (su [⟨bf, az, ay, ax⟩, ⟨dm, di, dh, df⟩]) g)), Rg.cz (.int .i64 (Ej (su [⟨bf, az, ay, ax⟩, ⟨dm, di, dh, df⟩]) g))]) (dw w [(w.heap.size + 2, 41, zS), (w.heap.size + 1, 41, [iv dm, iv di, iv dh, iv df]), (w.heap.size, 41, [iv bf, iv az, iv ay, iv ax])] W0) jb [] kr rfl (Rg.iq.pick ⟨cu _, cu _, Ji _ _ _, Rg.ag _, Rg.ag _, Rg.ag _, Rg.ag _, trivial⟩) (dw.begin (aa HO))
  (ah (je qi ug (Rg.gm kr rfl) [] [iv bf, iv az, iv ay, iv ax] [])
  (ah (je qi rf (Rg.gm kr rfl) [] [iv dm, iv di, iv dh, iv df] [])
  (ah (Fz (ps := [(0, .tmp 11), (1, .tmp 12)]) (gs := [[iv bf, iv az, iv ay, iv ax], [iv dm, iv di, iv dh, iv df]]) Tt rfl dw.step rfl (wy.cons (Rg.ai 0 kr) rfl (wy.cons (Rg.ai 1 kr) rfl wy.nil)) rfl)
  (ah (ku Tryz.func104 kr rfl dw.step (Rg.ai 2 kr) (fun W v0 hG h0 => agu (ss := [⟨bf, az, ay, ax⟩, ⟨dm, di, dh, df⟩]) (by simp) W ((aa HT).below hG.bel) _ h0))
  (ah (il rfl (Rg.gm kr rfl))
  (ah (ll Tryz.func94 kr rfl dw.step (Rg.ai 3 kr) (Rg.ai 4 kr) (fun W v0 v1 hG h0 h1 => by cases h0; cases h1; exact bdo _ _ W))
  (ah (ma rfl (Rg.ai 5 kr))
  Rg.fq))))))) ?_
 intro v1 V1 hG1 hv1 hne1
 simp only [Rg.puts, ko, kg, jy, jw, Act.put, jr, jq, jo]
 have e5 : v1 5 = .int .i64 (Ej (su [⟨bf, az, ay, ax⟩, ⟨dm, di, dh, df⟩]) g) := hv1 5 (by decide)
 have e6 : v1 6 = .int .i64 (Ej (su [⟨bf, az, ay, ax⟩, ⟨dm, di, dh, df⟩]) g) := hv1 6 (by decide)
 simp only [e5, e6]
 have hO := hG1.1
 clear HO
 have HO := hide hO
 clear hO hG1 hv1 hne1
 try clear e5 e6
 by_cases g0 : Ej (su [⟨bf, az, ay, ax⟩, ⟨dm, di, dh, df⟩]) g = 0
 ·
  have k1 : (Ej (su [⟨bf, az, ay, ax⟩, ⟨dm, di, dh, df⟩]) g != 0) = false := by simp [bne, beq_iff_eq.2 g0]
  have hr := (aa HR).2 g0
  have HQ := hide ((aa Jo) g0)
  replace Fy := hide ((aa Fy) (aa HQ).1 (aa HQ).2.1)
  clear HR Jo
  subst hr
  go_upto_region 2 with fail
  refine Rg.ik 2 32 (Rg.pick [Rg.cz (.int .i64 (Ej (su [⟨bf, az, ay, ax⟩, ⟨dm, di, dh, df⟩]) g)), Rg.cz (.bool false)]) (dw w [(w.heap.size + 2, 41, zS), (w.heap.size + 1, 41, [iv dm, iv di, iv dh, iv df]), (w.heap.size, 41, [iv bf, iv az, iv ay, iv ax])] V1) jb [] kr rfl (Rg.iq.pick ⟨Rg.ag _, Rg.ag _, trivial⟩) (dw.begin (aa HO))
   (ah (il rfl (Rg.gm kr rfl))
   (ah (Co rfl (Rg.ai 0 kr) (Rg.lv _) rfl k1)
   Rg.fq)) ?_
  intro v2 V2 hG2 hv2 hne2
  simp only [Rg.puts, ko, kg, jy, jw, Act.put, jr, jq, jo]
  have e1 : v2 1 = .bool false := hv2 1 (by decide)
  simp only [e1]
  have hO := hG2.1
  clear HO
  have HO := hide hO
  clear hO hG2 hv2 hne2
  try clear e1
  clear k1 g0
  go_upto_region 4 with fail
  refine Rg.region 13 32 (Rg.pick [Rg.cz (.func (.func 151) #[] #[]), bg [iv bf, iv az, iv ay, iv ax], bg [.q (Wd.qR bf az), .q (Wd.qR ay ax)], bg [iv dm, iv di, iv dh, iv df], bg [.q (Wd.qR dm di), .q (Wd.qR dh df)], bg [.q (fe ((Wd.qR bf az) * (Wd.qR dm di)) [(Wd.qR bf az) * (Wd.qR dh df), (Wd.qR ay ax) * (Wd.qR dm di), (Wd.qR ay ax) * (Wd.qR dh df)]), .q (eu ((Wd.qR bf az) * (Wd.qR dm di)) [(Wd.qR bf az) * (Wd.qR dh df), (Wd.qR ay ax) * (Wd.qR dm di), (Wd.qR ay ax) * (Wd.qR dh df)])], Rg.cz (.int .i64 g), bg [.q (qf (fe ((Wd.qR bf az) * (Wd.qR dm di)) [(Wd.qR bf az) * (Wd.qR dh df), (Wd.qR ay ax) * (Wd.qR dm di), (Wd.qR ay ax) * (Wd.qR dh df)]) g), .q (xq (eu ((Wd.qR bf az) * (Wd.qR dm di)) [(Wd.qR bf az) * (Wd.qR dh df), (Wd.qR ay ax) * (Wd.qR dm di), (Wd.qR ay ax) * (Wd.qR dh df)]) g)], qj [bg [iv (gu (qf (fe ((Wd.qR bf az) * (Wd.qR dm di)) [(Wd.qR bf az) * (Wd.qR dh df), (Wd.qR ay ax) * (Wd.qR dm di), (Wd.qR ay ax) * (Wd.qR dh df)]) g) (xq (eu ((Wd.qR bf az) * (Wd.qR dm di)) [(Wd.qR bf az) * (Wd.qR dh df), (Wd.qR ay ax) * (Wd.qR dm di), (Wd.qR ay ax) * (Wd.qR dh df)]) g)).a, iv (gu (qf (fe ((Wd.qR bf az) * (Wd.qR dm di)) [(Wd.qR bf az) * (Wd.qR dh df), (Wd.qR ay ax) * (Wd.qR dm di), (Wd.qR ay ax) * (Wd.qR dh df)]) g) (xq (eu ((Wd.qR bf az) * (Wd.qR dm di)) [(Wd.qR bf az) * (Wd.qR dh df), (Wd.qR ay ax) * (Wd.qR dm di), (Wd.qR ay ax) * (Wd.qR dh df)]) g)).b, iv (gu (qf (fe ((Wd.qR bf az) * (Wd.qR dm di)) [(Wd.qR bf az) * (Wd.qR dh df), (Wd.qR ay ax) * (Wd.qR dm di), (Wd.qR ay ax) * (Wd.qR dh df)]) g) (xq (eu ((Wd.qR bf az) * (Wd.qR dm di)) [(Wd.qR bf az) * (Wd.qR dh df), (Wd.qR ay ax) * (Wd.qR dm di), (Wd.qR ay ax) * (Wd.qR dh df)]) g)).c, iv (gu (qf (fe ((Wd.qR bf az) * (Wd.qR dm di)) [(Wd.qR bf az) * (Wd.qR dh df), (Wd.qR ay ax) * (Wd.qR dm di), (Wd.qR ay ax) * (Wd.qR dh df)]) g) (xq (eu ((Wd.qR bf az) * (Wd.qR dm di)) [(Wd.qR bf az) * (Wd.qR dh df), (Wd.qR ay ax) * (Wd.qR dm di), (Wd.qR ay ax) * (Wd.qR dh df)]) g)).d], Rg.cz (.int .i64 (gu (qf (fe ((Wd.qR bf az) * (Wd.qR dm di)) [(Wd.qR bf az) * (Wd.qR dh df), (Wd.qR ay ax) * (Wd.qR dm di), (Wd.qR ay ax) * (Wd.qR dh df)]) g) (xq (eu ((Wd.qR bf az) * (Wd.qR dm di)) [(Wd.qR bf az) * (Wd.qR dh df), (Wd.qR ay ax) * (Wd.qR dm di), (Wd.qR ay ax) * (Wd.qR dh df)]) g)).e)], bg [iv (gu (qf (fe ((Wd.qR bf az) * (Wd.qR dm di)) [(Wd.qR bf az) * (Wd.qR dh df), (Wd.qR ay ax) * (Wd.qR dm di), (Wd.qR ay ax) * (Wd.qR dh df)]) g) (xq (eu ((Wd.qR bf az) * (Wd.qR dm di)) [(Wd.qR bf az) * (Wd.qR dh df), (Wd.qR ay ax) * (Wd.qR dm di), (Wd.qR ay ax) * (Wd.qR dh df)]) g)).a, iv (gu (qf (fe ((Wd.qR bf az) * (Wd.qR dm di)) [(Wd.qR bf az) * (Wd.qR dh df), (Wd.qR ay ax) * (Wd.qR dm di), (Wd.qR ay ax) * (Wd.qR dh df)]) g) (xq (eu ((Wd.qR bf az) * (Wd.qR dm di)) [(Wd.qR bf az) * (Wd.qR dh df), (Wd.qR ay ax) * (Wd.qR dm di), (Wd.qR ay ax) * (Wd.qR dh df)]) g)).b, iv (gu (qf (fe ((Wd.qR bf az) * (Wd.qR dm di)) [(Wd.qR bf az) * (Wd.qR dh df), (Wd.qR ay ax) * (Wd.qR dm di), (Wd.qR ay ax) * (Wd.qR dh df)]) g) (xq (eu ((Wd.qR bf az) * (Wd.qR dm di)) [(Wd.qR bf az) * (Wd.qR dh df), (Wd.qR ay ax) * (Wd.qR dm di), (Wd.qR ay ax) * (Wd.qR dh df)]) g)).c, iv (gu (qf (fe ((Wd.qR bf az) * (Wd.qR dm di)) [(Wd.qR bf az) * (Wd.qR dh df), (Wd.qR ay ax) * (Wd.qR dm di), (Wd.qR ay ax) * (Wd.qR dh df)]) g) (xq (eu ((Wd.qR bf az) * (Wd.qR dm di)) [(Wd.qR bf az) * (Wd.qR dh df), (Wd.qR ay ax) * (Wd.qR dm di), (Wd.qR ay ax) * (Wd.qR dh df)]) g)).d], Rg.cz (.int .i64 (gu (qf (fe ((Wd.qR bf az) * (Wd.qR dm di)) [(Wd.qR bf az) * (Wd.qR dh df), (Wd.qR ay ax) * (Wd.qR dm di), (Wd.qR ay ax) * (Wd.qR dh df)]) g) (xq (eu ((Wd.qR bf az) * (Wd.qR dm di)) [(Wd.qR bf az) * (Wd.qR dh df), (Wd.qR ay ax) * (Wd.qR dm di), (Wd.qR ay ax) * (Wd.qR dh df)]) g)).e), Ue (w.heap.size + 2, 41, [iv (gu (qf (fe ((Wd.qR bf az) * (Wd.qR dm di)) [(Wd.qR bf az) * (Wd.qR dh df), (Wd.qR ay ax) * (Wd.qR dm di), (Wd.qR ay ax) * (Wd.qR dh df)]) g) (xq (eu ((Wd.qR bf az) * (Wd.qR dm di)) [(Wd.qR bf az) * (Wd.qR dh df), (Wd.qR ay ax) * (Wd.qR dm di), (Wd.qR ay ax) * (Wd.qR dh df)]) g)).a, iv (gu (qf (fe ((Wd.qR bf az) * (Wd.qR dm di)) [(Wd.qR bf az) * (Wd.qR dh df), (Wd.qR ay ax) * (Wd.qR dm di), (Wd.qR ay ax) * (Wd.qR dh df)]) g) (xq (eu ((Wd.qR bf az) * (Wd.qR dm di)) [(Wd.qR bf az) * (Wd.qR dh df), (Wd.qR ay ax) * (Wd.qR dm di), (Wd.qR ay ax) * (Wd.qR dh df)]) g)).b, iv (gu (qf (fe ((Wd.qR bf az) * (Wd.qR dm di)) [(Wd.qR bf az) * (Wd.qR dh df), (Wd.qR ay ax) * (Wd.qR dm di), (Wd.qR ay ax) * (Wd.qR dh df)]) g) (xq (eu ((Wd.qR bf az) * (Wd.qR dm di)) [(Wd.qR bf az) * (Wd.qR dh df), (Wd.qR ay ax) * (Wd.qR dm di), (Wd.qR ay ax) * (Wd.qR dh df)]) g)).c, iv (gu (qf (fe ((Wd.qR bf az) * (Wd.qR dm di)) [(Wd.qR bf az) * (Wd.qR dh df), (Wd.qR ay ax) * (Wd.qR dm di), (Wd.qR ay ax) * (Wd.qR dh df)]) g) (xq (eu ((Wd.qR bf az) * (Wd.qR dm di)) [(Wd.qR bf az) * (Wd.qR dh df), (Wd.qR ay ax) * (Wd.qR dm di), (Wd.qR ay ax) * (Wd.qR dh df)]) g)).d]), Rg.cz (.int .i64 (gu (qf (fe ((Wd.qR bf az) * (Wd.qR dm di)) [(Wd.qR bf az) * (Wd.qR dh df), (Wd.qR ay ax) * (Wd.qR dm di), (Wd.qR ay ax) * (Wd.qR dh df)]) g) (xq (eu ((Wd.qR bf az) * (Wd.qR dm di)) [(Wd.qR bf az) * (Wd.qR dh df), (Wd.qR ay ax) * (Wd.qR dm di), (Wd.qR ay ax) * (Wd.qR dh df)]) g)).e)]) (GS w [(w.heap.size + 2, 41, zS), (w.heap.size + 1, 41, [iv dm, iv di, iv dh, iv df]), (w.heap.size, 41, [iv bf, iv az, iv ay, iv ax])] (w.heap.size + 2, 41, [iv (gu (qf (fe ((Wd.qR bf az) * (Wd.qR dm di)) [(Wd.qR bf az) * (Wd.qR dh df), (Wd.qR ay ax) * (Wd.qR dm di), (Wd.qR ay ax) * (Wd.qR dh df)]) g) (xq (eu ((Wd.qR bf az) * (Wd.qR dm di)) [(Wd.qR bf az) * (Wd.qR dh df), (Wd.qR ay ax) * (Wd.qR dm di), (Wd.qR ay ax) * (Wd.qR dh df)]) g)).a, iv (gu (qf (fe ((Wd.qR bf az) * (Wd.qR dm di)) [(Wd.qR bf az) * (Wd.qR dh df), (Wd.qR ay ax) * (Wd.qR dm di), (Wd.qR ay ax) * (Wd.qR dh df)]) g) (xq (eu ((Wd.qR bf az) * (Wd.qR dm di)) [(Wd.qR bf az) * (Wd.qR dh df), (Wd.qR ay ax) * (Wd.qR dm di), (Wd.qR ay ax) * (Wd.qR dh df)]) g)).b, iv (gu (qf (fe ((Wd.qR bf az) * (Wd.qR dm di)) [(Wd.qR bf az) * (Wd.qR dh df), (Wd.qR ay ax) * (Wd.qR dm di), (Wd.qR ay ax) * (Wd.qR dh df)]) g) (xq (eu ((Wd.qR bf az) * (Wd.qR dm di)) [(Wd.qR bf az) * (Wd.qR dh df), (Wd.qR ay ax) * (Wd.qR dm di), (Wd.qR ay ax) * (Wd.qR dh df)]) g)).c, iv (gu (qf (fe ((Wd.qR bf az) * (Wd.qR dm di)) [(Wd.qR bf az) * (Wd.qR dh df), (Wd.qR ay ax) * (Wd.qR dm di), (Wd.qR ay ax) * (Wd.qR dh df)]) g) (xq (eu ((Wd.qR bf az) * (Wd.qR dm di)) [(Wd.qR bf az) * (Wd.qR dh df), (Wd.qR ay ax) * (Wd.qR dm di), (Wd.qR ay ax) * (Wd.qR dh df)]) g)).d]) (w.heap.size + 2, 41, [iv (gu (qf (fe ((Wd.qR bf az) * (Wd.qR dm di)) [(Wd.qR bf az) * (Wd.qR dh df), (Wd.qR ay ax) * (Wd.qR dm di), (Wd.qR ay ax) * (Wd.qR dh df)]) g) (xq (eu ((Wd.qR bf az) * (Wd.qR dm di)) [(Wd.qR bf az) * (Wd.qR dh df), (Wd.qR ay ax) * (Wd.qR dm di), (Wd.qR ay ax) * (Wd.qR dh df)]) g)).a, iv (gu (qf (fe ((Wd.qR bf az) * (Wd.qR dm di)) [(Wd.qR bf az) * (Wd.qR dh df), (Wd.qR ay ax) * (Wd.qR dm di), (Wd.qR ay ax) * (Wd.qR dh df)]) g) (xq (eu ((Wd.qR bf az) * (Wd.qR dm di)) [(Wd.qR bf az) * (Wd.qR dh df), (Wd.qR ay ax) * (Wd.qR dm di), (Wd.qR ay ax) * (Wd.qR dh df)]) g)).b, iv (gu (qf (fe ((Wd.qR bf az) * (Wd.qR dm di)) [(Wd.qR bf az) * (Wd.qR dh df), (Wd.qR ay ax) * (Wd.qR dm di), (Wd.qR ay ax) * (Wd.qR dh df)]) g) (xq (eu ((Wd.qR bf az) * (Wd.qR dm di)) [(Wd.qR bf az) * (Wd.qR dh df), (Wd.qR ay ax) * (Wd.qR dm di), (Wd.qR ay ax) * (Wd.qR dh df)]) g)).c, iv (gu (qf (fe ((Wd.qR bf az) * (Wd.qR dm di)) [(Wd.qR bf az) * (Wd.qR dh df), (Wd.qR ay ax) * (Wd.qR dm di), (Wd.qR ay ax) * (Wd.qR dh df)]) g) (xq (eu ((Wd.qR bf az) * (Wd.qR dm di)) [(Wd.qR bf az) * (Wd.qR dh df), (Wd.qR ay ax) * (Wd.qR dm di), (Wd.qR ay ax) * (Wd.qR dh df)]) g)).d])) (ES (w.heap.size + 2, 41, [iv (gu (qf (fe ((Wd.qR bf az) * (Wd.qR dm di)) [(Wd.qR bf az) * (Wd.qR dh df), (Wd.qR ay ax) * (Wd.qR dm di), (Wd.qR ay ax) * (Wd.qR dh df)]) g) (xq (eu ((Wd.qR bf az) * (Wd.qR dm di)) [(Wd.qR bf az) * (Wd.qR dh df), (Wd.qR ay ax) * (Wd.qR dm di), (Wd.qR ay ax) * (Wd.qR dh df)]) g)).a, iv (gu (qf (fe ((Wd.qR bf az) * (Wd.qR dm di)) [(Wd.qR bf az) * (Wd.qR dh df), (Wd.qR ay ax) * (Wd.qR dm di), (Wd.qR ay ax) * (Wd.qR dh df)]) g) (xq (eu ((Wd.qR bf az) * (Wd.qR dm di)) [(Wd.qR bf az) * (Wd.qR dh df), (Wd.qR ay ax) * (Wd.qR dm di), (Wd.qR ay ax) * (Wd.qR dh df)]) g)).b, iv (gu (qf (fe ((Wd.qR bf az) * (Wd.qR dm di)) [(Wd.qR bf az) * (Wd.qR dh df), (Wd.qR ay ax) * (Wd.qR dm di), (Wd.qR ay ax) * (Wd.qR dh df)]) g) (xq (eu ((Wd.qR bf az) * (Wd.qR dm di)) [(Wd.qR bf az) * (Wd.qR dh df), (Wd.qR ay ax) * (Wd.qR dm di), (Wd.qR ay ax) * (Wd.qR dh df)]) g)).c, iv (gu (qf (fe ((Wd.qR bf az) * (Wd.qR dm di)) [(Wd.qR bf az) * (Wd.qR dh df), (Wd.qR ay ax) * (Wd.qR dm di), (Wd.qR ay ax) * (Wd.qR dh df)]) g) (xq (eu ((Wd.qR bf az) * (Wd.qR dm di)) [(Wd.qR bf az) * (Wd.qR dh df), (Wd.qR ay ax) * (Wd.qR dm di), (Wd.qR ay ax) * (Wd.qR dh df)]) g)).d]) (w.heap.size + 2, 41, [iv (gu (qf (fe ((Wd.qR bf az) * (Wd.qR dm di)) [(Wd.qR bf az) * (Wd.qR dh df), (Wd.qR ay ax) * (Wd.qR dm di), (Wd.qR ay ax) * (Wd.qR dh df)]) g) (xq (eu ((Wd.qR bf az) * (Wd.qR dm di)) [(Wd.qR bf az) * (Wd.qR dh df), (Wd.qR ay ax) * (Wd.qR dm di), (Wd.qR ay ax) * (Wd.qR dh df)]) g)).a, iv (gu (qf (fe ((Wd.qR bf az) * (Wd.qR dm di)) [(Wd.qR bf az) * (Wd.qR dh df), (Wd.qR ay ax) * (Wd.qR dm di), (Wd.qR ay ax) * (Wd.qR dh df)]) g) (xq (eu ((Wd.qR bf az) * (Wd.qR dm di)) [(Wd.qR bf az) * (Wd.qR dh df), (Wd.qR ay ax) * (Wd.qR dm di), (Wd.qR ay ax) * (Wd.qR dh df)]) g)).b, iv (gu (qf (fe ((Wd.qR bf az) * (Wd.qR dm di)) [(Wd.qR bf az) * (Wd.qR dh df), (Wd.qR ay ax) * (Wd.qR dm di), (Wd.qR ay ax) * (Wd.qR dh df)]) g) (xq (eu ((Wd.qR bf az) * (Wd.qR dm di)) [(Wd.qR bf az) * (Wd.qR dh df), (Wd.qR ay ax) * (Wd.qR dm di), (Wd.qR ay ax) * (Wd.qR dh df)]) g)).c, iv (gu (qf (fe ((Wd.qR bf az) * (Wd.qR dm di)) [(Wd.qR bf az) * (Wd.qR dh df), (Wd.qR ay ax) * (Wd.qR dm di), (Wd.qR ay ax) * (Wd.qR dh df)]) g) (xq (eu ((Wd.qR bf az) * (Wd.qR dm di)) [(Wd.qR bf az) * (Wd.qR dh df), (Wd.qR ay ax) * (Wd.qR dm di), (Wd.qR ay ax) * (Wd.qR dh df)]) g)).d])) [] kr kr rfl (Rg.iq.pick ⟨(uy _), (tu _), (tu _), (tu _), (tu _), (tu _), (uy _), (tu _), (anj ⟨(tu _), (uy _), trivial⟩), (tu _), (uy _), (Et (.inr rfl) (.inl rfl)), (uy _), trivial⟩) (GS.start (aa HO))
   (Rg.dz (Rg.plain rfl (lg (il rfl (Rg.gm kr rfl))))
    (Rg.dz (Rg.plain rfl (lg (vw (b := w.heap.size) (off := 0) (TB := 41) (pre := []) (mid := [iv bf, iv az, iv ay, iv ax]) (post := []) qi rfl (Rg.gm kr rfl) (fun W h => GS.get ug (fun h => absurd (show (w.heap.size + 2 : Nat) = w.heap.size from h) (by first | omega | (intro h; exact _root_.trivial h))) (fun h => absurd (show (w.heap.size + 2 : Nat) = w.heap.size from h) (by first | omega | (intro h; exact _root_.trivial h))) h) rfl rfl rfl)))
    (Rg.dz (Rg.plain rfl (lg (ku Tryz.func95 kr rfl GS.step (Rg.ai 1 kr) (fun W v0 hG h0 => Oq ⟨(aa HQ).1.1, (aa HQ).1.2.1⟩ W _ h0))))
    (Rg.dz (Rg.plain rfl (lg (vw (b := w.heap.size + 1) (off := 0) (TB := 41) (pre := []) (mid := [iv dm, iv di, iv dh, iv df]) (post := []) qi rfl (Rg.gm kr rfl) (fun W h => GS.get rf (fun h => absurd (show (w.heap.size + 2 : Nat) = w.heap.size + 1 from h) (by first | omega | (intro h; exact _root_.trivial h))) (fun h => absurd (show (w.heap.size + 2 : Nat) = w.heap.size + 1 from h) (by first | omega | (intro h; exact _root_.trivial h))) h) rfl rfl rfl)))
    (Rg.dz (Rg.plain rfl (lg (ku Tryz.func95 kr rfl GS.step (Rg.ai 3 kr) (fun W v0 hG h0 => Oq ⟨(aa HQ).2.1.1, (aa HQ).2.1.2.1⟩ W _ h0))))
    (Rg.dz (Rg.plain rfl (lg (atg Tryz.func151 kr rfl GS.step (Rg.ai 0 kr) (Rg.ai 2 kr) (Rg.ai 4 kr) (fun W v0 v1 hG h0 h1 => azn (K := 1) (xu (aa HQ).1.1) (xu (aa HQ).1.2.1) (xu (aa HQ).2.1.1) (xu (aa HQ).2.1.2.1) om W ((aa HT).below hG.bel) _ h0 _ h1))))
    (Rg.dz (Rg.plain rfl (lg (il rfl (Rg.gm kr rfl))))
    (Rg.dz (Rg.plain rfl (lg (ll Tryz.func96 kr rfl GS.step (Rg.ai 5 kr) (Rg.ai 6 kr) (fun W v0 v1 hG h0 h1 => by cases h1; exact apz (aa Fy).1 (aa Fy).2 (aa HQ).2.2.1 (aa HQ).2.2.2 om W ((aa HT).below hG.bel) _ h0))))
    (Rg.dz (Rg.plain rfl (lg (ku Tryz.func97 kr rfl GS.step (Rg.ai 7 kr) (fun W v0 hG h0 => agt W _ h0))))
    (Rg.dz (Rg.plain rfl (lg (oo (ts := [bg [iv (gu (qf (fe ((Wd.qR bf az) * (Wd.qR dm di)) [(Wd.qR bf az) * (Wd.qR dh df), (Wd.qR ay ax) * (Wd.qR dm di), (Wd.qR ay ax) * (Wd.qR dh df)]) g) (xq (eu ((Wd.qR bf az) * (Wd.qR dm di)) [(Wd.qR bf az) * (Wd.qR dh df), (Wd.qR ay ax) * (Wd.qR dm di), (Wd.qR ay ax) * (Wd.qR dh df)]) g)).a, iv (gu (qf (fe ((Wd.qR bf az) * (Wd.qR dm di)) [(Wd.qR bf az) * (Wd.qR dh df), (Wd.qR ay ax) * (Wd.qR dm di), (Wd.qR ay ax) * (Wd.qR dh df)]) g) (xq (eu ((Wd.qR bf az) * (Wd.qR dm di)) [(Wd.qR bf az) * (Wd.qR dh df), (Wd.qR ay ax) * (Wd.qR dm di), (Wd.qR ay ax) * (Wd.qR dh df)]) g)).b, iv (gu (qf (fe ((Wd.qR bf az) * (Wd.qR dm di)) [(Wd.qR bf az) * (Wd.qR dh df), (Wd.qR ay ax) * (Wd.qR dm di), (Wd.qR ay ax) * (Wd.qR dh df)]) g) (xq (eu ((Wd.qR bf az) * (Wd.qR dm di)) [(Wd.qR bf az) * (Wd.qR dh df), (Wd.qR ay ax) * (Wd.qR dm di), (Wd.qR ay ax) * (Wd.qR dh df)]) g)).c, iv (gu (qf (fe ((Wd.qR bf az) * (Wd.qR dm di)) [(Wd.qR bf az) * (Wd.qR dh df), (Wd.qR ay ax) * (Wd.qR dm di), (Wd.qR ay ax) * (Wd.qR dh df)]) g) (xq (eu ((Wd.qR bf az) * (Wd.qR dm di)) [(Wd.qR bf az) * (Wd.qR dh df), (Wd.qR ay ax) * (Wd.qR dm di), (Wd.qR ay ax) * (Wd.qR dh df)]) g)).d], Rg.cz (.int .i64 (gu (qf (fe ((Wd.qR bf az) * (Wd.qR dm di)) [(Wd.qR bf az) * (Wd.qR dh df), (Wd.qR ay ax) * (Wd.qR dm di), (Wd.qR ay ax) * (Wd.qR dh df)]) g) (xq (eu ((Wd.qR bf az) * (Wd.qR dm di)) [(Wd.qR bf az) * (Wd.qR dh df), (Wd.qR ay ax) * (Wd.qR dm di), (Wd.qR ay ax) * (Wd.qR dh df)]) g)).e)]) rfl (Rg.ai 8 kr) (of_decide_eq_true rfl) rfl)))
    (Rg.dz (Rg.plain rfl (lg (oo (ts := [bg [iv (gu (qf (fe ((Wd.qR bf az) * (Wd.qR dm di)) [(Wd.qR bf az) * (Wd.qR dh df), (Wd.qR ay ax) * (Wd.qR dm di), (Wd.qR ay ax) * (Wd.qR dh df)]) g) (xq (eu ((Wd.qR bf az) * (Wd.qR dm di)) [(Wd.qR bf az) * (Wd.qR dh df), (Wd.qR ay ax) * (Wd.qR dm di), (Wd.qR ay ax) * (Wd.qR dh df)]) g)).a, iv (gu (qf (fe ((Wd.qR bf az) * (Wd.qR dm di)) [(Wd.qR bf az) * (Wd.qR dh df), (Wd.qR ay ax) * (Wd.qR dm di), (Wd.qR ay ax) * (Wd.qR dh df)]) g) (xq (eu ((Wd.qR bf az) * (Wd.qR dm di)) [(Wd.qR bf az) * (Wd.qR dh df), (Wd.qR ay ax) * (Wd.qR dm di), (Wd.qR ay ax) * (Wd.qR dh df)]) g)).b, iv (gu (qf (fe ((Wd.qR bf az) * (Wd.qR dm di)) [(Wd.qR bf az) * (Wd.qR dh df), (Wd.qR ay ax) * (Wd.qR dm di), (Wd.qR ay ax) * (Wd.qR dh df)]) g) (xq (eu ((Wd.qR bf az) * (Wd.qR dm di)) [(Wd.qR bf az) * (Wd.qR dh df), (Wd.qR ay ax) * (Wd.qR dm di), (Wd.qR ay ax) * (Wd.qR dh df)]) g)).c, iv (gu (qf (fe ((Wd.qR bf az) * (Wd.qR dm di)) [(Wd.qR bf az) * (Wd.qR dh df), (Wd.qR ay ax) * (Wd.qR dm di), (Wd.qR ay ax) * (Wd.qR dh df)]) g) (xq (eu ((Wd.qR bf az) * (Wd.qR dm di)) [(Wd.qR bf az) * (Wd.qR dh df), (Wd.qR ay ax) * (Wd.qR dm di), (Wd.qR ay ax) * (Wd.qR dh df)]) g)).d], Rg.cz (.int .i64 (gu (qf (fe ((Wd.qR bf az) * (Wd.qR dm di)) [(Wd.qR bf az) * (Wd.qR dh df), (Wd.qR ay ax) * (Wd.qR dm di), (Wd.qR ay ax) * (Wd.qR dh df)]) g) (xq (eu ((Wd.qR bf az) * (Wd.qR dm di)) [(Wd.qR bf az) * (Wd.qR dh df), (Wd.qR ay ax) * (Wd.qR dm di), (Wd.qR ay ax) * (Wd.qR dh df)]) g)).e)]) rfl (Rg.ai 8 kr) (of_decide_eq_true rfl) rfl)))
    (Rg.dz (Rg.plain rfl (Ev (b := w.heap.size + 2) (old := zS) (new := [iv (gu (qf (fe ((Wd.qR bf az) * (Wd.qR dm di)) [(Wd.qR bf az) * (Wd.qR dh df), (Wd.qR ay ax) * (Wd.qR dm di), (Wd.qR ay ax) * (Wd.qR dh df)]) g) (xq (eu ((Wd.qR bf az) * (Wd.qR dm di)) [(Wd.qR bf az) * (Wd.qR dh df), (Wd.qR ay ax) * (Wd.qR dm di), (Wd.qR ay ax) * (Wd.qR dh df)]) g)).a, iv (gu (qf (fe ((Wd.qR bf az) * (Wd.qR dm di)) [(Wd.qR bf az) * (Wd.qR dh df), (Wd.qR ay ax) * (Wd.qR dm di), (Wd.qR ay ax) * (Wd.qR dh df)]) g) (xq (eu ((Wd.qR bf az) * (Wd.qR dm di)) [(Wd.qR bf az) * (Wd.qR dh df), (Wd.qR ay ax) * (Wd.qR dm di), (Wd.qR ay ax) * (Wd.qR dh df)]) g)).b, iv (gu (qf (fe ((Wd.qR bf az) * (Wd.qR dm di)) [(Wd.qR bf az) * (Wd.qR dh df), (Wd.qR ay ax) * (Wd.qR dm di), (Wd.qR ay ax) * (Wd.qR dh df)]) g) (xq (eu ((Wd.qR bf az) * (Wd.qR dm di)) [(Wd.qR bf az) * (Wd.qR dh df), (Wd.qR ay ax) * (Wd.qR dm di), (Wd.qR ay ax) * (Wd.qR dh df)]) g)).c, iv (gu (qf (fe ((Wd.qR bf az) * (Wd.qR dm di)) [(Wd.qR bf az) * (Wd.qR dh df), (Wd.qR ay ax) * (Wd.qR dm di), (Wd.qR ay ax) * (Wd.qR dh df)]) g) (xq (eu ((Wd.qR bf az) * (Wd.qR dm di)) [(Wd.qR bf az) * (Wd.qR dh df), (Wd.qR ay ax) * (Wd.qR dm di), (Wd.qR ay ax) * (Wd.qR dh df)]) g)).d]) vo rfl (Rg.gm kr rfl) (Rg.ai 9 kr) me0 (aa HO).nd (.inl rfl) (.inr rfl) rfl rfl rfl))
    (Rg.dz (Rg.plain rfl (lg (ma rfl (Rg.ai 10 kr))))
    Rg.fq))))))))))))) ?_
  intro v3 V3 hG3 hv3 si
  simp only [Rg.puts, ko, kg, jy, jw, Act.put, jr, jq, jo]
  have e0 : v3 0 = .func (.func 151) #[] #[] := hv3 0 (by decide)
  have e6 : v3 6 = .int .i64 g := hv3 6 (by decide)
  have e10 : v3 10 = .int .i64 (gu (qf (fe ((Wd.qR bf az) * (Wd.qR dm di)) [(Wd.qR bf az) * (Wd.qR dh df), (Wd.qR ay ax) * (Wd.qR dm di), (Wd.qR ay ax) * (Wd.qR dh df)]) g) (xq (eu ((Wd.qR bf az) * (Wd.qR dm di)) [(Wd.qR bf az) * (Wd.qR dh df), (Wd.qR ay ax) * (Wd.qR dm di), (Wd.qR ay ax) * (Wd.qR dh df)]) g)).e := hv3 10 (by decide)
  have e12 : v3 12 = .int .i64 (gu (qf (fe ((Wd.qR bf az) * (Wd.qR dm di)) [(Wd.qR bf az) * (Wd.qR dh df), (Wd.qR ay ax) * (Wd.qR dm di), (Wd.qR ay ax) * (Wd.qR dh df)]) g) (xq (eu ((Wd.qR bf az) * (Wd.qR dm di)) [(Wd.qR bf az) * (Wd.qR dh df), (Wd.qR ay ax) * (Wd.qR dm di), (Wd.qR ay ax) * (Wd.qR dh df)]) g)).e := hv3 12 (by decide)
  simp only [e0, e6, e10, e12]
  have hO : Own w [(w.heap.size + 2, 41, [iv (gu (qf (fe ((Wd.qR bf az) * (Wd.qR dm di)) [(Wd.qR bf az) * (Wd.qR dh df), (Wd.qR ay ax) * (Wd.qR dm di), (Wd.qR ay ax) * (Wd.qR dh df)]) g) (xq (eu ((Wd.qR bf az) * (Wd.qR dm di)) [(Wd.qR bf az) * (Wd.qR dh df), (Wd.qR ay ax) * (Wd.qR dm di), (Wd.qR ay ax) * (Wd.qR dh df)]) g)).a, iv (gu (qf (fe ((Wd.qR bf az) * (Wd.qR dm di)) [(Wd.qR bf az) * (Wd.qR dh df), (Wd.qR ay ax) * (Wd.qR dm di), (Wd.qR ay ax) * (Wd.qR dh df)]) g) (xq (eu ((Wd.qR bf az) * (Wd.qR dm di)) [(Wd.qR bf az) * (Wd.qR dh df), (Wd.qR ay ax) * (Wd.qR dm di), (Wd.qR ay ax) * (Wd.qR dh df)]) g)).b, iv (gu (qf (fe ((Wd.qR bf az) * (Wd.qR dm di)) [(Wd.qR bf az) * (Wd.qR dh df), (Wd.qR ay ax) * (Wd.qR dm di), (Wd.qR ay ax) * (Wd.qR dh df)]) g) (xq (eu ((Wd.qR bf az) * (Wd.qR dm di)) [(Wd.qR bf az) * (Wd.qR dh df), (Wd.qR ay ax) * (Wd.qR dm di), (Wd.qR ay ax) * (Wd.qR dh df)]) g)).c, iv (gu (qf (fe ((Wd.qR bf az) * (Wd.qR dm di)) [(Wd.qR bf az) * (Wd.qR dh df), (Wd.qR ay ax) * (Wd.qR dm di), (Wd.qR ay ax) * (Wd.qR dh df)]) g) (xq (eu ((Wd.qR bf az) * (Wd.qR dm di)) [(Wd.qR bf az) * (Wd.qR dh df), (Wd.qR ay ax) * (Wd.qR dm di), (Wd.qR ay ax) * (Wd.qR dh df)]) g)).d]), (w.heap.size + 1, 41, [iv dm, iv di, iv dh, iv df]), (w.heap.size, 41, [iv bf, iv az, iv ay, iv ax])] V3 := by
   refine ⟨hG3.bel, (aa HO).nd, fun b T ls hm => ?_⟩
   rcases List.mem_cons.1 hm with e | hm
   ·
    cases e; exact ⟨(hG3.box _ _ _ me0).1, hv3 11 (by decide)⟩
   rcases List.mem_cons.1 hm with e | hm
   ·
    cases e; exact ⟨(hG3.box _ _ _ rf).1, GS.get rf (fun h => absurd (show (w.heap.size + 2 : Nat) = w.heap.size + 1 from h) (by first | omega | (intro h; exact _root_.trivial h))) (fun h => absurd (show (w.heap.size + 2 : Nat) = w.heap.size + 1 from h) (by first | omega | (intro h; exact _root_.trivial h))) hG3⟩
   rcases List.mem_cons.1 hm with e | hm
   ·
    cases e; exact ⟨(hG3.box _ _ _ ug).1, GS.get ug (fun h => absurd (show (w.heap.size + 2 : Nat) = w.heap.size from h) (by first | omega | (intro h; exact _root_.trivial h))) (fun h => absurd (show (w.heap.size + 2 : Nat) = w.heap.size from h) (by first | omega | (intro h; exact _root_.trivial h))) hG3⟩
   cases hm
  clear HO
  have HO := hide hO
  clear hO hG3 hv3 si
  try clear e0 e6 e10 e12
  go_wp2_with fail
  exact Bv Tryz.results148 zq rfl rfl (aa HO) me0 rfl rfl
 ·
  have k1 : (Ej (su [⟨bf, az, ay, ax⟩, ⟨dm, di, dh, df⟩]) g != 0) = true := by simp [bne, beq_eq_false_iff_ne.2 g0]
  have hr := (aa HR).1 g0
  clear HR
  subst hr
  clear Jo
  go_upto_region 2 with fail
  refine Rg.ik 2 32 (Rg.pick [Rg.cz (.int .i64 (Ej (su [⟨bf, az, ay, ax⟩, ⟨dm, di, dh, df⟩]) g)), Rg.cz (.bool true)]) (dw w [(w.heap.size + 2, 41, zS), (w.heap.size + 1, 41, [iv dm, iv di, iv dh, iv df]), (w.heap.size, 41, [iv bf, iv az, iv ay, iv ax])] V1) jb [] kr rfl (Rg.iq.pick ⟨Rg.ag _, Rg.ag _, trivial⟩) (dw.begin (aa HO))
   (ah (il rfl (Rg.gm kr rfl))
   (ah (Co rfl (Rg.ai 0 kr) (Rg.lv _) rfl k1)
   Rg.fq)) ?_
  intro v2 V2 hG2 hv2 hne2
  simp only [Rg.puts, ko, kg, jy, jw, Act.put, jr, jq, jo]
  have e1 : v2 1 = .bool true := hv2 1 (by decide)
  simp only [e1]
  have hO := hG2.1
  clear HO
  have HO := hide hO
  clear hO hG2 hv2 hne2
  try clear e1
  go_upto_region 3 with fail
  refine Rg.ik 2 32 (Rg.pick [bg zS, Rg.cz (.int .i64 (Ej (su [⟨bf, az, ay, ax⟩, ⟨dm, di, dh, df⟩]) g))]) (dw w [(w.heap.size + 2, 41, zS), (w.heap.size + 1, 41, [iv dm, iv di, iv dh, iv df]), (w.heap.size, 41, [iv bf, iv az, iv ay, iv ax])] V2) jb [] kr rfl (Rg.iq.pick ⟨cu _, Rg.ag _, trivial⟩) (dw.begin (aa HO))
   (ah (Ca Ce rfl rfl rfl)
   (ah (il rfl (Rg.gm kr rfl))
   Rg.fq)) ?_
  intro v3 V3 hG3 hv3 si
  simp only [Rg.puts, ko, kg, jy, jw, Act.put, jr, jq, jo]
  have e1 : v3 1 = .int .i64 (Ej (su [⟨bf, az, ay, ax⟩, ⟨dm, di, dh, df⟩]) g) := hv3 1 (by decide)
  simp only [e1]
  have hO := hG3.1
  refine nz hO 0 [] zS zS [] rfl vo rfl (show bg zS V3 (v3 0) from hv3 0 (by decide)) rfl rfl rfl ?_
  intro Ik ji hk0
  replace hO := ji
  clear ji
  clear HO
  have HO := hide hO
  clear hO hG3 hv3 si hk0
  try clear e1
  go_wp2_with fail
  exact Bv Tryz.results148 zq rfl rfl (aa HO) me0 rfl rfl
set_option maxHeartbeats 16000000 in
theorem aue {bf az ay ax dm di dh df : Int} {g : Int} (t : Gi) (w : World) (hT : xg w) (u0 : Value) (h0 : bg [iv bf, iv az, iv ay, iv ax] w u0) (u1 : Value) (h1 : bg [iv dm, iv di, iv dh, iv df] w u1)
  (hc : ∀ (W : World) (v0 v1 : Value), xg W → bg [iv bf, iv az, iv ay, iv ax] W v0 → bg [iv dm, iv di, iv dh, iv df] W v1 → Calls Tryz.prog 148 #[v0, v1, .int .i64 g, .func (.func 151) #[] #[]] W (nk (Uf t) W)) :
  Calls Tryz.prog 83 #[u0, u1, .int .i64 g] w (nk (Uf t) w) := by
 have HC := hide hc
 have HT := hide hT
 clear hc hT
 have hu0 := Ak h0
 subst hu0
 have hu1 := Ak h1
 subst hu1
 go_enter Tryz.func83, Tryz.ntmps83
 go_upto_region 1 with fail
 have hO := (Own.push (T := 41) (ls := zS) (cs := [.int .i64 0, .int .i64 0, .int .i64 0, .int .i64 0]) (Own.push (T := 41) (ls := [iv dm, iv di, iv dh, iv df]) (cs := [.int .i64 dm, .int .i64 di, .int .i64 dh, .int .i64 df]) (Own.push (T := 41) (ls := [iv bf, iv az, iv ay, iv ax]) (cs := [.int .i64 bf, .int .i64 az, .int .i64 ay, .int .i64 ax]) (Own.nil w) (jf.v (jl _) (jf.v (jl _) (jf.v (jl _) (jf.v (jl _) rfl)))) (w.heap.size) rfl) (((jf.v (jl _) (jf.v (jl _) (jf.v (jl _) (jf.v (jl _) rfl)))) : jf w [iv dm, iv di, iv dh, iv df] [.int .i64 dm, .int .i64 di, .int .i64 dh, .int .i64 df]).below (by repeat (first | exact Below.refl _ _ | refine jk ?_ _))) (w.heap.size + 1) (by simp only [World.size_alloc])) (((jf.vs w [.int .i64 0, .int .i64 0, .int .i64 0, .int .i64 0] rfl) : jf w zS [.int .i64 0, .int .i64 0, .int .i64 0, .int .i64 0]).below (by repeat (first | exact Below.refl _ _ | refine jk ?_ _))) (w.heap.size + 2) (by simp only [World.size_alloc]))
 generalize ((w.alloc (.cells #[.int .i64 bf, .int .i64 az, .int .i64 ay, .int .i64 ax] 41)).alloc (.cells #[.int .i64 dm, .int .i64 di, .int .i64 dh, .int .i64 df] 41)).alloc (.cells #[.int .i64 0, .int .i64 0, .int .i64 0, .int .i64 0] 41) = W0 at *
 have HO := hide hO
 clear hO
 go_upto_region 1 with fail
 refine Rg.ik 6 14 (Rg.pick [bg [iv bf, iv az, iv ay, iv ax], bg [iv dm, iv di, iv dh, iv df], Rg.cz (.int .i64 g), qj [bg [iv t.a, iv t.b, iv t.c, iv t.d], Rg.cz (.int .i64 t.e)], bg [iv t.a, iv t.b, iv t.c, iv t.d], Rg.cz (.int .i64 t.e)]) (dw w [(w.heap.size + 2, 41, zS), (w.heap.size + 1, 41, [iv dm, iv di, iv dh, iv df]), (w.heap.size, 41, [iv bf, iv az, iv ay, iv ax])] W0) jb [] kr rfl (Rg.iq.pick ⟨cu _, cu _, Rg.ag _, nu ⟨(cu _), (Rg.ag _), trivial⟩, cu _, Rg.ag _, trivial⟩) (dw.begin (aa HO))
  (ah (je qi ug (Rg.gm kr rfl) [] [iv bf, iv az, iv ay, iv ax] [])
  (ah (je qi rf (Rg.gm kr rfl) [] [iv dm, iv di, iv dh, iv df] [])
  (ah (il rfl (Rg.gm kr rfl))
  (ah (ayl Tryz.func148 kr rfl dw.step (Rg.ai 0 kr) (Rg.ai 1 kr) (Rg.ai 2 kr) (bft _) (fun W v0 v1 v2 v3 hG h0 h1 h2 h3 => by cases h2; cases h3; exact aa HC W v0 v1 ((aa HT).below hG.bel) h0 h1))
  (ah (oo (ts := [bg [iv t.a, iv t.b, iv t.c, iv t.d], Rg.cz (.int .i64 t.e)]) rfl (Rg.ai 3 kr) (of_decide_eq_true rfl) rfl)
  (ah (oo (ts := [bg [iv t.a, iv t.b, iv t.c, iv t.d], Rg.cz (.int .i64 t.e)]) rfl (Rg.ai 3 kr) (of_decide_eq_true rfl) rfl)
  Rg.fq)))))) ?_
 intro v1 V1 hG1 hv1 hne1
 simp only [Rg.puts, ko, kg, jy, jw, Act.put, jr, jq, jo]
 have e5 : v1 5 = .int .i64 t.e := hv1 5 (by decide)
 simp only [e5]
 have hO := hG1.1
 refine nz hO 0 [] zS [iv t.a, iv t.b, iv t.c, iv t.d] [] rfl vo rfl (show bg [iv t.a, iv t.b, iv t.c, iv t.d] V1 (v1 4) from hv1 4 (by decide)) rfl rfl rfl ?_
 intro zt ji hk0
 replace hO := ji
 clear ji
 clear HO
 have HO := hide hO
 clear hO hG1 hv1 hne1 hk0
 try clear e5
 go_wp2_with fail
 exact Bv Tryz.results83 zq rfl rfl (aa HO) me0 rfl rfl
end Sb

end Go.Proofs.YtfbcdfoohpkfeaaGreatDoor
namespace Go.Proofs.YtfbcdfoohpkfeaaGreatDoor
open Go.RowKit

namespace Sb
theorem ajc {bf az ay ax dm di dh df : Int} (h : su [⟨bf, az, ay, ax⟩, ⟨dm, di, dh, df⟩] = 0) : Bu bf az ay ax ∧ Bu dm di dh df := by
 unfold su at h
 split at h
 ·
  rename_i h2; exact ⟨h2 ⟨bf, az, ay, ax⟩ (by simp), h2 ⟨dm, di, dh, df⟩ (by simp)⟩
 ·
  omega
theorem atd {K : Nat} {a b c : Rat} (ha : Sm K a) (hb : Sm K b) (hc : Sm K c) : ∀ z ∈ [a, b, c], Sm K z := fun z hz => by
 simp only [List.mem_cons, List.not_mem_nil, or_false] at hz
 rcases hz with rfl | rfl | rfl
 ·
  exact ha
 ·
  exact hb
 ·
  exact hc
set_option maxHeartbeats 16000000 in
theorem apf {bf az ay ax dm di dh df : Int} (t : Gi) (w : World) (hT : xg w) (u0 : Value) (h0 : bg [iv bf, iv az, iv ay, iv ax] w u0) (u1 : Value) (h1 : bg [iv dm, iv di, iv dh, iv df] w u1)
  (hr : (su [⟨bf, az, ay, ax⟩, ⟨dm, di, dh, df⟩] ≠ 0 → t = ⟨0, 0, 0, 0, su [⟨bf, az, ay, ax⟩, ⟨dm, di, dh, df⟩]⟩) ∧ (su [⟨bf, az, ay, ax⟩, ⟨dm, di, dh, df⟩] = 0 → t = gu (fe (Wd.qR bf az) [(Wd.qR ay ax), (Wd.qR dm di), (Wd.qR dh df)]) (eu (Wd.qR bf az) [(Wd.qR ay ax), (Wd.qR dm di), (Wd.qR dh df)]))) :
  Calls Tryz.prog 39 #[u0, u1] w (nk (Uf t) w) := by
 have HR := hide hr
 have HT := hide hT
 clear hr hT
 have hu0 := Ak h0
 subst hu0
 have hu1 := Ak h1
 subst hu1
 go_enter Tryz.func39, Tryz.ntmps39
 go_upto_region 1 with fail
 have hO := (Own.push (T := 41) (ls := zS) (cs := [.int .i64 0, .int .i64 0, .int .i64 0, .int .i64 0]) (Own.push (T := 41) (ls := [iv dm, iv di, iv dh, iv df]) (cs := [.int .i64 dm, .int .i64 di, .int .i64 dh, .int .i64 df]) (Own.push (T := 41) (ls := [iv bf, iv az, iv ay, iv ax]) (cs := [.int .i64 bf, .int .i64 az, .int .i64 ay, .int .i64 ax]) (Own.nil w) (jf.v (jl _) (jf.v (jl _) (jf.v (jl _) (jf.v (jl _) rfl)))) (w.heap.size) rfl) (((jf.v (jl _) (jf.v (jl _) (jf.v (jl _) (jf.v (jl _) rfl)))) : jf w [iv dm, iv di, iv dh, iv df] [.int .i64 dm, .int .i64 di, .int .i64 dh, .int .i64 df]).below (by repeat (first | exact Below.refl _ _ | refine jk ?_ _))) (w.heap.size + 1) (by simp only [World.size_alloc])) (((jf.vs w [.int .i64 0, .int .i64 0, .int .i64 0, .int .i64 0] rfl) : jf w zS [.int .i64 0, .int .i64 0, .int .i64 0, .int .i64 0]).below (by repeat (first | exact Below.refl _ _ | refine jk ?_ _))) (w.heap.size + 2) (by simp only [World.size_alloc]))
 generalize ((w.alloc (.cells #[.int .i64 bf, .int .i64 az, .int .i64 ay, .int .i64 ax] 41)).alloc (.cells #[.int .i64 dm, .int .i64 di, .int .i64 dh, .int .i64 df] 41)).alloc (.cells #[.int .i64 0, .int .i64 0, .int .i64 0, .int .i64 0] 41) = W0 at *
 have HO := hide hO
 clear hO
 go_upto_region 1 with fail
 refine Rg.ik 5 34 (Rg.pick [bg [iv bf, iv az, iv ay, iv ax], bg [iv dm, iv di, iv dh, iv df], Qh 41 2 [iv bf, iv az, iv ay, iv ax, iv dm, iv di, iv dh, iv df], Rg.cz (.int .i64 (su [⟨bf, az, ay, ax⟩, ⟨dm, di, dh, df⟩])), Rg.cz (.int .i64 (su [⟨bf, az, ay, ax⟩, ⟨dm, di, dh, df⟩]))]) (dw w [(w.heap.size + 2, 41, zS), (w.heap.size + 1, 41, [iv dm, iv di, iv dh, iv df]), (w.heap.size, 41, [iv bf, iv az, iv ay, iv ax])] W0) jb [] kr rfl (Rg.iq.pick ⟨cu _, cu _, Ji _ _ _, Rg.ag _, Rg.ag _, trivial⟩) (dw.begin (aa HO))
  (ah (je qi ug (Rg.gm kr rfl) [] [iv bf, iv az, iv ay, iv ax] [])
  (ah (je qi rf (Rg.gm kr rfl) [] [iv dm, iv di, iv dh, iv df] [])
  (ah (Fz (ps := [(0, .tmp 9), (1, .tmp 10)]) (gs := [[iv bf, iv az, iv ay, iv ax], [iv dm, iv di, iv dh, iv df]]) Tt rfl dw.step rfl (wy.cons (Rg.ai 0 kr) rfl (wy.cons (Rg.ai 1 kr) rfl wy.nil)) rfl)
  (ah (ku Tryz.func104 kr rfl dw.step (Rg.ai 2 kr) (fun W v0 hG h0 => agu (ss := [⟨bf, az, ay, ax⟩, ⟨dm, di, dh, df⟩]) (by simp) W ((aa HT).below hG.bel) _ h0))
  (ah (ma rfl (Rg.ai 3 kr))
  Rg.fq))))) ?_
 intro v1 V1 hG1 hv1 hne1
 simp only [Rg.puts, ko, kg, jy, jw, Act.put, jr, jq, jo]
 have e3 : v1 3 = .int .i64 (su [⟨bf, az, ay, ax⟩, ⟨dm, di, dh, df⟩]) := hv1 3 (by decide)
 have e4 : v1 4 = .int .i64 (su [⟨bf, az, ay, ax⟩, ⟨dm, di, dh, df⟩]) := hv1 4 (by decide)
 simp only [e3, e4]
 have hO := hG1.1
 clear HO
 have HO := hide hO
 clear hO hG1 hv1 hne1
 try clear e3 e4
 by_cases g0 : su [⟨bf, az, ay, ax⟩, ⟨dm, di, dh, df⟩] = 0
 ·
  have k1 : (su [⟨bf, az, ay, ax⟩, ⟨dm, di, dh, df⟩] != 0) = false := by simp [bne, beq_iff_eq.2 g0]
  have hr := (aa HR).2 g0
  have HQ := hide (ajc g0)
  clear HR
  subst hr
  go_upto_region 2 with fail
  refine Rg.ik 2 34 (Rg.pick [Rg.cz (.int .i64 (su [⟨bf, az, ay, ax⟩, ⟨dm, di, dh, df⟩])), Rg.cz (.bool false)]) (dw w [(w.heap.size + 2, 41, zS), (w.heap.size + 1, 41, [iv dm, iv di, iv dh, iv df]), (w.heap.size, 41, [iv bf, iv az, iv ay, iv ax])] V1) jb [] kr rfl (Rg.iq.pick ⟨Rg.ag _, Rg.ag _, trivial⟩) (dw.begin (aa HO))
   (ah (il rfl (Rg.gm kr rfl))
   (ah (Co rfl (Rg.ai 0 kr) (Rg.lv _) rfl k1)
   Rg.fq)) ?_
  intro v2 V2 hG2 hv2 hne2
  simp only [Rg.puts, ko, kg, jy, jw, Act.put, jr, jq, jo]
  have e1 : v2 1 = .bool false := hv2 1 (by decide)
  simp only [e1]
  have hO := hG2.1
  clear HO
  have HO := hide hO
  clear hO hG2 hv2 hne2
  try clear e1
  clear k1 g0
  go_upto_region 4 with fail
  refine Rg.region 6 34 (Rg.pick [bg [iv bf, iv az, iv ay, iv ax], bg [.q (Wd.qR bf az), .q (Wd.qR ay ax)], bg [iv dm, iv di, iv dh, iv df], bg [.q (Wd.qR dm di), .q (Wd.qR dh df)], uf 108 zE V2.heap.size, uf 108 zE V2.heap.size]) (dw w [(w.heap.size + 2, 41, zS), (w.heap.size + 1, 41, [iv dm, iv di, iv dh, iv df]), (w.heap.size, 41, [iv bf, iv az, iv ay, iv ax])] V2) jb [4, 5] kr kr rfl (Rg.iq.pick ⟨cu _, cu _, cu _, cu _, ui _ _ _, ui _ _ _, trivial⟩) (dw.start (aa HO))
   (ah (je qi ug (Rg.gm kr rfl) [] [iv bf, iv az, iv ay, iv ax] [])
   (ah (ku Tryz.func95 kr rfl dw.step (Rg.ai 0 kr) (fun W v0 hG h0 => Oq ⟨(aa HQ).1.1, (aa HQ).1.2.1⟩ W _ h0))
   (ah (je qi rf (Rg.gm kr rfl) [] [iv dm, iv di, iv dh, iv df] [])
   (ah (ku Tryz.func95 kr rfl dw.step (Rg.ai 2 kr) (fun W v0 hG h0 => Oq ⟨(aa HQ).2.1, (aa HQ).2.2.1⟩ W _ h0))
   (ah (vv ale rfl dw.step dw.size rfl (xx (by intro j hj; simp at hj; (repeat' (first | (rcases hj with rfl | hj))) <;> first | (subst hj; exact ⟨_, _, _, rfl⟩) | exact ⟨_, _, _, rfl⟩)))
   (ah (vv ale rfl dw.step dw.size rfl (xx (by intro j hj; simp at hj; (repeat' (first | (rcases hj with rfl | hj))) <;> first | (subst hj; exact ⟨_, _, _, rfl⟩) | exact ⟨_, _, _, rfl⟩)))
   Rg.fq)))))) ?_
  intro v3 V3 hG3 hv3 si
  simp only [Rg.puts, ko, kg, jy, jw, Act.put, jr, jq, jo]
  obtain ⟨abl, e4, hge4, hz4⟩ := (show uf 108 zE V2.heap.size V3 (v3 4) from hv3 4 (by decide))
  obtain ⟨abk, e5, Jz, Qa⟩ := (show uf 108 zE V2.heap.size V3 (v3 5) from hv3 5 (by decide))
  simp only [e4, e5]
  have hO := hG3.1
  have hnn : abk ≠ abl := fun h => si 5 4 rfl rfl (by decide) (by decide) (by decide) rfl rfl (by rw [e4, e5, h])
  replace hO := Own.Xx (aa HO) hG3.2 hge4 hz4 Jz Qa hnn
  clear hnn hge4 hz4 Jz Qa
  refine nz hO 1 [] zE [.q (Wd.qR bf az), .q (Wd.qR ay ax)] [] rfl Jh rfl (show bg [.q (Wd.qR bf az), .q (Wd.qR ay ax)] V3 (v3 1) from hv3 1 (by decide)) rfl rfl rfl ?_
  intro Ik ji hk0
  replace hO := ji
  clear ji
  refine nz hO 0 [] zE [.q (Wd.qR dm di), .q (Wd.qR dh df)] [] rfl Jh rfl (hk0 _ _ (show bg [.q (Wd.qR dm di), .q (Wd.qR dh df)] V3 (v3 3) from hv3 3 (by decide))) rfl rfl rfl ?_
  intro bkc Mj hk1
  replace hO := Mj
  clear Mj
  clear HO
  have HO := hide hO
  clear hO hG3 hv3 si hk0 hk1
  try clear e4 e5
  go_upto_region 5 with fail
  refine Rg.ik 13 34 (Rg.pick [Rg.cz (.pointer (some ⟨abl, 0, none⟩)), bg [.q (Wd.qR bf az)], Rg.cz (.pointer (some ⟨abl, 6, none⟩)), bg [.q (Wd.qR ay ax)], Rg.cz (.pointer (some ⟨abk, 0, none⟩)), bg [.q (Wd.qR dm di)], Rg.cz (.pointer (some ⟨abk, 6, none⟩)), bg [.q (Wd.qR dh df)], Qh 74 3 [.q (Wd.qR ay ax), .q (Wd.qR dm di), .q (Wd.qR dh df)], bg [.q (fe (Wd.qR bf az) [(Wd.qR ay ax), (Wd.qR dm di), (Wd.qR dh df)]), .q (eu (Wd.qR bf az) [(Wd.qR ay ax), (Wd.qR dm di), (Wd.qR dh df)])], qj [bg [iv (gu (fe (Wd.qR bf az) [(Wd.qR ay ax), (Wd.qR dm di), (Wd.qR dh df)]) (eu (Wd.qR bf az) [(Wd.qR ay ax), (Wd.qR dm di), (Wd.qR dh df)])).a, iv (gu (fe (Wd.qR bf az) [(Wd.qR ay ax), (Wd.qR dm di), (Wd.qR dh df)]) (eu (Wd.qR bf az) [(Wd.qR ay ax), (Wd.qR dm di), (Wd.qR dh df)])).b, iv (gu (fe (Wd.qR bf az) [(Wd.qR ay ax), (Wd.qR dm di), (Wd.qR dh df)]) (eu (Wd.qR bf az) [(Wd.qR ay ax), (Wd.qR dm di), (Wd.qR dh df)])).c, iv (gu (fe (Wd.qR bf az) [(Wd.qR ay ax), (Wd.qR dm di), (Wd.qR dh df)]) (eu (Wd.qR bf az) [(Wd.qR ay ax), (Wd.qR dm di), (Wd.qR dh df)])).d], Rg.cz (.int .i64 (gu (fe (Wd.qR bf az) [(Wd.qR ay ax), (Wd.qR dm di), (Wd.qR dh df)]) (eu (Wd.qR bf az) [(Wd.qR ay ax), (Wd.qR dm di), (Wd.qR dh df)])).e)], bg [iv (gu (fe (Wd.qR bf az) [(Wd.qR ay ax), (Wd.qR dm di), (Wd.qR dh df)]) (eu (Wd.qR bf az) [(Wd.qR ay ax), (Wd.qR dm di), (Wd.qR dh df)])).a, iv (gu (fe (Wd.qR bf az) [(Wd.qR ay ax), (Wd.qR dm di), (Wd.qR dh df)]) (eu (Wd.qR bf az) [(Wd.qR ay ax), (Wd.qR dm di), (Wd.qR dh df)])).b, iv (gu (fe (Wd.qR bf az) [(Wd.qR ay ax), (Wd.qR dm di), (Wd.qR dh df)]) (eu (Wd.qR bf az) [(Wd.qR ay ax), (Wd.qR dm di), (Wd.qR dh df)])).c, iv (gu (fe (Wd.qR bf az) [(Wd.qR ay ax), (Wd.qR dm di), (Wd.qR dh df)]) (eu (Wd.qR bf az) [(Wd.qR ay ax), (Wd.qR dm di), (Wd.qR dh df)])).d], Rg.cz (.int .i64 (gu (fe (Wd.qR bf az) [(Wd.qR ay ax), (Wd.qR dm di), (Wd.qR dh df)]) (eu (Wd.qR bf az) [(Wd.qR ay ax), (Wd.qR dm di), (Wd.qR dh df)])).e)]) (dw w [(abk, 108, [.q (Wd.qR dm di), .q (Wd.qR dh df)]), (abl, 108, [.q (Wd.qR bf az), .q (Wd.qR ay ax)]), (w.heap.size + 2, 41, zS), (w.heap.size + 1, 41, [iv dm, iv di, iv dh, iv df]), (w.heap.size, 41, [iv bf, iv az, iv ay, iv ax])] bkc) jb [] kr rfl (Rg.iq.pick ⟨Rg.ag _, cu _, Rg.ag _, cu _, Rg.ag _, cu _, Rg.ag _, cu _, Ji _ _ _, cu _, nu ⟨(cu _), (Rg.ag _), trivial⟩, cu _, Rg.ag _, trivial⟩) (dw.begin (aa HO))
   (ah (Be (b := abl) (off := 0) rfl (Rg.gm kr rfl) rfl rfl)
   (ah (je oq rf (Rg.ai 0 kr) [] [.q (Wd.qR bf az)] [.q (Wd.qR ay ax)])
   (ah (Bt (b := abl) (off := 0) rfl (Rg.gm kr rfl) rfl rfl)
   (ah (je oq rf (Rg.ai 2 kr) [.q (Wd.qR bf az)] [.q (Wd.qR ay ax)] [])
   (ah (Be (b := abk) (off := 0) rfl (Rg.gm kr rfl) rfl rfl)
   (ah (je oq me0 (Rg.ai 4 kr) [] [.q (Wd.qR dm di)] [.q (Wd.qR dh df)])
   (ah (Bt (b := abk) (off := 0) rfl (Rg.gm kr rfl) rfl rfl)
   (ah (je oq me0 (Rg.ai 6 kr) [.q (Wd.qR dm di)] [.q (Wd.qR dh df)] [])
   (ah (Fz (ps := [(0, .tmp 24), (1, .tmp 26), (2, .tmp 28)]) (gs := [[.q (Wd.qR ay ax)], [.q (Wd.qR dm di)], [.q (Wd.qR dh df)]]) Zz rfl dw.step rfl (wy.cons (Rg.ai 3 kr) rfl (wy.cons (Rg.ai 5 kr) rfl (wy.cons (Rg.ai 7 kr) rfl wy.nil))) rfl)
   (ah (ll Tryz.func107 kr rfl dw.step (Rg.ai 1 kr) (Rg.ai 8 kr) (fun W v0 v1 hG h0 h1 => agw (qs := [(Wd.qR ay ax), (Wd.qR dm di), (Wd.qR dh df)]) (xu (aa HQ).1.1) (atd (xu (aa HQ).1.2.1) (xu (aa HQ).2.1) (xu (aa HQ).2.2.1)) (by simp) W _ _ h0 h1))
   (ah (ku Tryz.func97 kr rfl dw.step (Rg.ai 9 kr) (fun W v0 hG h0 => agt W _ h0))
   (ah (oo (ts := [bg [iv (gu (fe (Wd.qR bf az) [(Wd.qR ay ax), (Wd.qR dm di), (Wd.qR dh df)]) (eu (Wd.qR bf az) [(Wd.qR ay ax), (Wd.qR dm di), (Wd.qR dh df)])).a, iv (gu (fe (Wd.qR bf az) [(Wd.qR ay ax), (Wd.qR dm di), (Wd.qR dh df)]) (eu (Wd.qR bf az) [(Wd.qR ay ax), (Wd.qR dm di), (Wd.qR dh df)])).b, iv (gu (fe (Wd.qR bf az) [(Wd.qR ay ax), (Wd.qR dm di), (Wd.qR dh df)]) (eu (Wd.qR bf az) [(Wd.qR ay ax), (Wd.qR dm di), (Wd.qR dh df)])).c, iv (gu (fe (Wd.qR bf az) [(Wd.qR ay ax), (Wd.qR dm di), (Wd.qR dh df)]) (eu (Wd.qR bf az) [(Wd.qR ay ax), (Wd.qR dm di), (Wd.qR dh df)])).d], Rg.cz (.int .i64 (gu (fe (Wd.qR bf az) [(Wd.qR ay ax), (Wd.qR dm di), (Wd.qR dh df)]) (eu (Wd.qR bf az) [(Wd.qR ay ax), (Wd.qR dm di), (Wd.qR dh df)])).e)]) rfl (Rg.ai 10 kr) (of_decide_eq_true rfl) rfl)
   (ah (oo (ts := [bg [iv (gu (fe (Wd.qR bf az) [(Wd.qR ay ax), (Wd.qR dm di), (Wd.qR dh df)]) (eu (Wd.qR bf az) [(Wd.qR ay ax), (Wd.qR dm di), (Wd.qR dh df)])).a, iv (gu (fe (Wd.qR bf az) [(Wd.qR ay ax), (Wd.qR dm di), (Wd.qR dh df)]) (eu (Wd.qR bf az) [(Wd.qR ay ax), (Wd.qR dm di), (Wd.qR dh df)])).b, iv (gu (fe (Wd.qR bf az) [(Wd.qR ay ax), (Wd.qR dm di), (Wd.qR dh df)]) (eu (Wd.qR bf az) [(Wd.qR ay ax), (Wd.qR dm di), (Wd.qR dh df)])).c, iv (gu (fe (Wd.qR bf az) [(Wd.qR ay ax), (Wd.qR dm di), (Wd.qR dh df)]) (eu (Wd.qR bf az) [(Wd.qR ay ax), (Wd.qR dm di), (Wd.qR dh df)])).d], Rg.cz (.int .i64 (gu (fe (Wd.qR bf az) [(Wd.qR ay ax), (Wd.qR dm di), (Wd.qR dh df)]) (eu (Wd.qR bf az) [(Wd.qR ay ax), (Wd.qR dm di), (Wd.qR dh df)])).e)]) rfl (Rg.ai 10 kr) (of_decide_eq_true rfl) rfl)
   Rg.fq))))))))))))) ?_
  intro v4 V4 hG4 hv4 xh
  simp only [Rg.puts, ko, kg, jy, jw, Act.put, jr, jq, jo]
  have e12 : v4 12 = .int .i64 (gu (fe (Wd.qR bf az) [(Wd.qR ay ax), (Wd.qR dm di), (Wd.qR dh df)]) (eu (Wd.qR bf az) [(Wd.qR ay ax), (Wd.qR dm di), (Wd.qR dh df)])).e := hv4 12 (by decide)
  simp only [e12]
  have hO := hG4.1
  refine nz hO 2 [] zS [iv (gu (fe (Wd.qR bf az) [(Wd.qR ay ax), (Wd.qR dm di), (Wd.qR dh df)]) (eu (Wd.qR bf az) [(Wd.qR ay ax), (Wd.qR dm di), (Wd.qR dh df)])).a, iv (gu (fe (Wd.qR bf az) [(Wd.qR ay ax), (Wd.qR dm di), (Wd.qR dh df)]) (eu (Wd.qR bf az) [(Wd.qR ay ax), (Wd.qR dm di), (Wd.qR dh df)])).b, iv (gu (fe (Wd.qR bf az) [(Wd.qR ay ax), (Wd.qR dm di), (Wd.qR dh df)]) (eu (Wd.qR bf az) [(Wd.qR ay ax), (Wd.qR dm di), (Wd.qR dh df)])).c, iv (gu (fe (Wd.qR bf az) [(Wd.qR ay ax), (Wd.qR dm di), (Wd.qR dh df)]) (eu (Wd.qR bf az) [(Wd.qR ay ax), (Wd.qR dm di), (Wd.qR dh df)])).d] [] rfl vo rfl (show bg [iv (gu (fe (Wd.qR bf az) [(Wd.qR ay ax), (Wd.qR dm di), (Wd.qR dh df)]) (eu (Wd.qR bf az) [(Wd.qR ay ax), (Wd.qR dm di), (Wd.qR dh df)])).a, iv (gu (fe (Wd.qR bf az) [(Wd.qR ay ax), (Wd.qR dm di), (Wd.qR dh df)]) (eu (Wd.qR bf az) [(Wd.qR ay ax), (Wd.qR dm di), (Wd.qR dh df)])).b, iv (gu (fe (Wd.qR bf az) [(Wd.qR ay ax), (Wd.qR dm di), (Wd.qR dh df)]) (eu (Wd.qR bf az) [(Wd.qR ay ax), (Wd.qR dm di), (Wd.qR dh df)])).c, iv (gu (fe (Wd.qR bf az) [(Wd.qR ay ax), (Wd.qR dm di), (Wd.qR dh df)]) (eu (Wd.qR bf az) [(Wd.qR ay ax), (Wd.qR dm di), (Wd.qR dh df)])).d] V4 (v4 11) from hv4 11 (by decide)) rfl rfl rfl ?_
  intro Mt ji hk0
  replace hO := ji
  clear ji
  clear HO
  have HO := hide hO
  clear hO hG4 hv4 xh hk0
  try clear e12
  go_wp2_with fail
  exact Bv Tryz.results39 zq rfl rfl (aa HO) ug rfl rfl
 ·
  have k1 : (su [⟨bf, az, ay, ax⟩, ⟨dm, di, dh, df⟩] != 0) = true := by simp [bne, beq_eq_false_iff_ne.2 g0]
  have hr := (aa HR).1 g0
  clear HR
  subst hr
  go_upto_region 2 with fail
  refine Rg.ik 2 34 (Rg.pick [Rg.cz (.int .i64 (su [⟨bf, az, ay, ax⟩, ⟨dm, di, dh, df⟩])), Rg.cz (.bool true)]) (dw w [(w.heap.size + 2, 41, zS), (w.heap.size + 1, 41, [iv dm, iv di, iv dh, iv df]), (w.heap.size, 41, [iv bf, iv az, iv ay, iv ax])] V1) jb [] kr rfl (Rg.iq.pick ⟨Rg.ag _, Rg.ag _, trivial⟩) (dw.begin (aa HO))
   (ah (il rfl (Rg.gm kr rfl))
   (ah (Co rfl (Rg.ai 0 kr) (Rg.lv _) rfl k1)
   Rg.fq)) ?_
  intro v2 V2 hG2 hv2 hne2
  simp only [Rg.puts, ko, kg, jy, jw, Act.put, jr, jq, jo]
  have e1 : v2 1 = .bool true := hv2 1 (by decide)
  simp only [e1]
  have hO := hG2.1
  clear HO
  have HO := hide hO
  clear hO hG2 hv2 hne2
  try clear e1
  go_upto_region 3 with fail
  refine Rg.ik 2 34 (Rg.pick [bg zS, Rg.cz (.int .i64 (su [⟨bf, az, ay, ax⟩, ⟨dm, di, dh, df⟩]))]) (dw w [(w.heap.size + 2, 41, zS), (w.heap.size + 1, 41, [iv dm, iv di, iv dh, iv df]), (w.heap.size, 41, [iv bf, iv az, iv ay, iv ax])] V2) jb [] kr rfl (Rg.iq.pick ⟨cu _, Rg.ag _, trivial⟩) (dw.begin (aa HO))
   (ah (Ca Ce rfl rfl rfl)
   (ah (il rfl (Rg.gm kr rfl))
   Rg.fq)) ?_
  intro v3 V3 hG3 hv3 si
  simp only [Rg.puts, ko, kg, jy, jw, Act.put, jr, jq, jo]
  have e1 : v3 1 = .int .i64 (su [⟨bf, az, ay, ax⟩, ⟨dm, di, dh, df⟩]) := hv3 1 (by decide)
  simp only [e1]
  have hO := hG3.1
  refine nz hO 0 [] zS zS [] rfl vo rfl (show bg zS V3 (v3 0) from hv3 0 (by decide)) rfl rfl rfl ?_
  intro Ik ji hk0
  replace hO := ji
  clear ji
  clear HO
  have HO := hide hO
  clear hO hG3 hv3 si hk0
  try clear e1
  go_wp2_with fail
  exact Bv Tryz.results39 zq rfl rfl (aa HO) me0 rfl rfl
end Sb

end Go.Proofs.YtfbcdfoohpkfeaaGreatDoor
namespace Go.Proofs.YtfbcdfoohpkfeaaGreatDoor
namespace Rg

def slB (l : List Oper) (n : Nat) (sl : Nat → Tmp) : Bool := (List.range n).all fun k => (qw l k).isSome || (List.range n).any fun j => waits l k j (sl k)
def aad (P : Program) (Q : Exit → Act → World → Prop) (l : List Oper) (n : Nat) (sl : Nat → Tmp) (T : Nat → World → Value → Prop) (G : World → Prop) (E : World → World → Prop) (a0 : Act) (k : Nat) (o : Oper) : Prop :=
 o.guard = none ∧ ∀ (a : Act) (w : World), G w → (∀ t, Kb l n t = true → a.tmps.getD t undef = a0.tmps.getD t undef) → (∀ j d, waits l k j d = true → T j w (a.tmps.getD d undef)) →
  o.wp P a w (fun a' w' => ∃ v, a' = a.put o.dst v ∧ G w' ∧ E w w' ∧ T k w' v ∧ (o.dst = none → v = a.tmps.getD (sl k) undef)) Q
def Mk (P : Program) (Q : Exit → Act → World → Prop) (l : List Oper) (n : Nat) (sl : Nat → Tmp) (T : Nat → World → Value → Prop) (G : World → Prop) (E : World → World → Prop) (a0 : Act) : Nat → List Oper → Prop
 | _, [] => True
 | k, o :: r => aad P Q l n sl T G E a0 k o ∧ Mk P Q l n sl T G E a0 (k + 1) r
section
variable {P : Program} {Q : Exit → Act → World → Prop} {l : List Oper} {n sz : Nat} {sl : Nat → Tmp} {T : Nat → World → Value → Prop} {G : World → Prop} {E : World → World → Prop} {a0 : Act}
theorem pz {k : Nat} {o : Oper} {r : List Oper} (h : aad P Q l n sl T G E a0 k o) (hr : Mk P Q l n sl T G E a0 (k + 1) r) : Mk P Q l n sl T G E a0 k (o :: r) := ⟨h, hr⟩
theorem Ry {k : Nat} : Mk P Q l n sl T G E a0 k [] := trivial
theorem uw {k : Nat} {o : Oper} (hg : o.guard = none) (hd : o.dst.isSome = true) (h : Step P Q l n T G E [] a0 k o) : aad P Q l n sl T G E a0 k o :=
 ⟨hg, fun a w hG hO hN => Oper.wp_mono (fun a' w' hK => by
  obtain ⟨v, h1, h2, h3, h4, _⟩ := hK
  exact ⟨v, h1, h2, h3, h4, fun e => by rw [e] at hd; cases hd⟩) (h a w hG hO hN)⟩
theorem Mk.get : ∀ {r : List Oper} {k : Nat}, Mk P Q l n sl T G E a0 k r → ∀ {i : Nat} {o : Oper}, r[i]? = some o → aad P Q l n sl T G E a0 (k + i) o
 | [], _, _, i, o, h => by simp at h
 | o' :: r, k, hs, 0, o, h => by
  have : o' = o := by simpa using h
  subst this; exact hs.1
 | o' :: r, k, hs, i + 1, o, h => by
  have := Mk.get hs.2 (i := i) (o := o) (by simpa using h)
  rwa [show k + 1 + i = k + (i + 1) by omega] at this
structure TG (l : List Oper) (n : Nat) (sl : Nat → Tmp) (T : Nat → World → Value → Prop) (G : World → Prop) (a0 : Act) (S : Nat → Prop) (a : Act) (w : World) : Prop where
 defers : a.defers = a0.defers
 size : a.tmps.size = a0.tmps.size
 old : ∀ t, Kb l n t = true → a.tmps.getD t undef = a0.tmps.getD t undef
 new : ∀ k d, k < n → S k → qw l k = some d → T k w (a.tmps.getD d undef)
 nod : ∀ k, k < n → S k → qw l k = none → T k w (a.tmps.getD (sl k) undef)
 cl : ∀ k j d, k < n → S k → waits l k j d = true → S j
 good : G w
theorem TG.finish {a : Act} {w : World} (hsz : a0.tmps.size = sz) (hds : ∀ i j d, i < n → j < n → qw l i = some d → qw l j = some d → d < sz ∧ j = i)
  {S : Nat → Prop} (hall : ∀ k, k < n → S k) (inv : TG l n sl T G a0 S a w) : ∃ v : Nat → Value, a = puts v 0 (l.take n) a0 ∧ (∀ k, k < n → T k w (v k)) ∧ ∀ k j, k < n → j < n → qw l k = none → qw l j = some (sl k) → v k = v j := by
 have hv : ∃ v : Nat → Value, (∀ k d, qw l k = some d → v k = a.tmps.getD d undef) ∧ ∀ k, qw l k = none → v k = a.tmps.getD (sl k) undef :=
  ⟨fun k => match qw l k with | some d => a.tmps.getD d undef | none => a.tmps.getD (sl k) undef, fun k d h => by simp only [h], fun k h => by simp only [h]⟩
 obtain ⟨v, hv1, hv2⟩ := hv
 refine ⟨v, ?_, fun k hk => ?_, fun k j hk hj h1 h2 => by rw [hv2 k h1, hv1 j _ h2]⟩
 rotate_left
 ·
  cases hd : qw l k with
  | none => rw [hv2 k hd]; exact inv.nod k hk (hall k hk) hd
  | some d => rw [hv1 k d hd]; exact inv.new k d hk (hall k hk) hd
 refine ajh (by rw [inv.defers, Qn]) (by rw [inv.size, Um]) (fun t => ?_)
 by_cases ht : ∃ k, k < n ∧ qw l k = some t
 ·
  obtain ⟨k, hk, hkt⟩ := ht
  have hdt : ∀ j, qw (l.take n) j = some t → j = k := fun j hj => (hds k j t hk (Lf hj).1 hkt (Lf hj).2).2
  rw [Xc v t (l.take n) 0 k a0 (by unfold qw at hkt ⊢; rwa [List.getElem?_take_of_lt hk]) hdt (by rw [hsz]; exact (hds k k t hk hk hkt hkt).1), Nat.zero_add]
  exact (hv1 k t hkt).symm
 ·
  have hf : Kb l n t = true := List.all_eq_true.2 (fun o ho => by
   obtain ⟨k, hk⟩ := List.getElem?_of_mem ho
   have hkn : k < n := by
    rcases Nat.lt_or_ge k n with h | h
    ·
     exact h
    ·
     rw [List.getElem?_eq_none (by simp; omega)] at hk; cases hk
   rw [List.getElem?_take_of_lt hkn] at hk
   simp only [bne_iff_ne]
   intro h
   exact ht ⟨k, hkn, by unfold qw; rw [hk]; exact h⟩)
  rw [inv.old t hf, Sl v t (l.take n) 0 a0 (fun j hj => ht ⟨j, Lf hj⟩)]
theorem TG.step {a : Act} {w w2 : World} {S : Nat → Prop} {i : Nat} {o : Oper} {v : Value} (hsz : a0.tmps.size = sz) (hds : ∀ i j d, i < n → j < n → qw l i = some d → qw l j = some d → d < sz ∧ j = i)
  (hsl : ∀ k, k < n → qw l k = none → ∃ j, j < n ∧ waits l k j (sl k) = true) (hT : ∀ k w w' v, E w w' → T k w v → T k w' v) (inv : TG l n sl T G a0 S a w) (hin : i < n) (ho : l[i]? = some o) (hnS : ¬ S i) (hwt : ∀ j d, waits l i j d = true → S j) (hG : G w2) (hE : E w w2) (Mi : T i w2 v) (hno : o.dst = none → v = a.tmps.getD (sl i) undef) :
  TG l n sl T G a0 (fun k => k = i ∨ S k) (a.put o.dst v) w2 := by
 have hdi : qw l i = o.dst := by unfold qw; rw [ho]; rfl
 refine ⟨by rw [put_defers]; exact inv.defers, by rw [Sn]; exact inv.size, fun t ht => ?_, fun k d hk hl hd => ?_, fun k hk hl hd => ?_, fun k j d hk hl hw => ?_, hG⟩
 ·
  rw [Kw _ _ _ _ (agi ht hin ho)]; exact inv.old t ht
 ·
  by_cases hki : k = i
  ·
   subst hki
   rw [hdi] at hd
   rw [hd, Vw _ _ _ (by rw [inv.size, hsz]; exact (hds k k d hk hk (by rw [hdi]; exact hd) (by rw [hdi]; exact hd)).1)]
   exact Mi
  ·
   rw [Kw _ _ _ _ (fun h => hki ((hds i k d hin hk (by rw [hdi]; exact h) hd).2))]
   exact hT k w w2 _ hE (inv.new k d hk (hl.resolve_left hki) hd)
 ·
  by_cases hki : k = i
  ·
   subst hki
   have hon : o.dst = none := by rw [← hdi]; exact hd
   rw [hon, show (a.put none v) = a from rfl, ← hno hon]
   exact Mi
  ·
   have hSk := hl.resolve_left hki
   obtain ⟨j, hj, hw⟩ := hsl k hk hd
   have hSj := inv.cl k j _ hk hSk hw
   have hji : j ≠ i := fun e => hnS (e ▸ hSj)
   rw [Kw _ _ _ _ (fun h => hji ((hds i j _ hin hj (by rw [hdi]; exact h) (Lv hw)).2))]
   exact hT k w w2 _ hE (inv.nod k hk hSk hd)
 ·
  by_cases hki : k = i
  ·
   subst hki; exact .inr (hwt j d hw)
  ·
   exact .inr (inv.cl k j d hk (hl.resolve_left hki) hw)
theorem TG.mono {a : Act} {w : World} {S S' : Nat → Prop} (inv : TG l n sl T G a0 S a w) (h : ∀ k, k < n → (S' k ↔ S k)) (hb : ∀ k j d, k < n → waits l k j d = true → j < n) : TG l n sl T G a0 S' a w :=
 ⟨inv.defers, inv.size, inv.old, fun k d hk hs hd => inv.new k d hk ((h k hk).1 hs) hd, fun k hk hs hd => inv.nod k hk ((h k hk).1 hs) hd, fun k j d hk hs hw => (h j (hb k j d hk hw)).2 (inv.cl k j d hk ((h k hk).1 hs) hw), inv.good⟩
end
theorem aat {P : Program} {id : Nat} {Q : Exit → Act → World → Prop} {a : Act} {w : World} {l : List Oper} (n sz : Nat) (sl : Nat → Tmp) (T : Nat → World → Value → Prop) (G : World → Prop) (E : World → World → Prop)
  (hm : P.follows .mixedOrders = true) (hB : okB l n sz = true) (hS1 : slB l n sl = true) (hsz : a.tmps.size = sz)
  (hT : ∀ k w w' v, E w w' → T k w v → T k w' v) (hG : G w.drew)
  (hS : Mk P Q l n sl T G E a 0 (l.take n))
  (hend : ∀ (v : Nat → Value) (w' : World), G w' → (∀ k, k < n → T k w' (v k)) → (∀ k j, k < n → j < n → qw l k = none → qw l j = some (sl k) → v k = v j) → wpList P l.toArray Q (l.drop n) (puts v 0 (l.take n) a) w') :
  (Code.region id l.toArray true).wp P Q a w := by
 simp only [okB, Bool.and_eq_true, Bool.or_eq_true, decide_eq_true_eq] at hB
 obtain ⟨⟨⟨⟨hn, alq⟩, hback⟩, Tg⟩, hseq⟩ := hB
 have hget : ∀ k, k < n → ∃ o, l[k]? = some o := fun k hk => ⟨l[k]'(by omega), List.getElem?_eq_getElem om⟩
 have hbk := Tu hback
 have hds := Tm Tg
 have hsl : ∀ k, k < n → qw l k = none → ∃ j, j < n ∧ waits l k j (sl k) = true := fun k hk hd => by
  have h1 := List.all_eq_true.1 hS1 k (List.mem_range.2 hk)
  simp only [hd, Option.isSome_none, Bool.false_or, List.any_eq_true, List.mem_range] at h1
  exact h1
 have hwb : ∀ k j d, k < n → waits l k j d = true → j < n := fun k j d hk hw => by
  simp only [waits, Bool.and_eq_true, beq_iff_eq] at hw
  obtain ⟨oj, hoj, e, he, hb, hon⟩ := Region.waitsFor_spec hw.1
  have := hbk k oj hk (by simpa using hoj) e he hb
  omega
 refine wp_region_any hm ?_
 have key : ∀ (f : Nat) (L : Array Bool) (a' : Act) (w' : World), HeadInv .any l.toArray n L → TG l n sl T G a (fun k => L.getD k false = true) a' w' → cnt L n = f → wpAny P .any l.toArray Q (f + (l.length - n)) L a' w' := by
  intro f
  induction f with
  | zero =>
   intro L a' w' head inv hc
   have hall := Tp hc
   have hL : L = full n (l.length - n) := by
    have hs := head.size
    refine Array.ext (by simp [full, hs]; omega) (fun i h1 h2 => ?_)
    by_cases hi : i < n
    ·
     have g := hall i hi
     simp [h1] at g
     simp [full, hi, g]
    ·
     have g := head.tail i om (by rw [← hs]; exact h1)
     simp [h1] at g
     simp [full, Array.getElem_append, hi, g]
   obtain ⟨v, he, hv, Im⟩ := inv.finish hsz hds (fun k hk => by rw [hL]; simp [full, Array.getElem?_append, hk])
   rw [he, Nat.zero_add]
   have hlen : (l.drop n).length = l.length - n := by simp
   rw [← hlen]
   exact wpAny_of_seq (md := .any) (ops := l.toArray) (Q' := Q) (l.drop n) n L _ w' (fun j => by simp [List.getElem?_drop]) (by rw [hlen, hL]; exact hseq)
    (hend v w' inv.good hv Im)
  | succ f ih =>
   intro L a' w' head inv hc
   obtain ⟨i0, hi0, afn, hle0⟩ := abg (L := L) (m := n) om
   have hLs : L.size = l.length := by rw [head.size]; simp
   rw [show f + 1 + (l.length - n) = (f + (l.length - n)) + 1 by omega]
   refine ⟨fun hr => ?_, fun i hi => ?_⟩
   ·
    exfalso
    obtain ⟨o, ho⟩ := hget i0 hi0
    have : i0 ∈ Region.ready .any l.toArray L := mem_ready.2 ⟨afn, o, by simpa using ho, fun e he hb => by
     have hlt := hbk i0 o hi0 ho e he hb
     have h1 := hle0 e.on hlt
     simp [show e.on < L.size by rw [hLs]; omega] at h1
     simp [show e.on < L.size by rw [hLs]; omega, h1]⟩
    rw [hr] at this; cases this
   ·
    obtain ⟨hun, o, ho, alm⟩ := mem_ready.1 hi
    have ho' : l[i]? = some o := by simpa using ho
    have hil : i < l.length := by
     have := (Array.getElem?_eq_some_iff.1 ho).1
     simpa using this
    have hin : i < n := by
     rcases Nat.lt_or_ge i n with h | h
     ·
      exact h
     ·
      exfalso
      rcases alq with he | ⟨hs, hch⟩
      ·
       omega
      ·
       exact tail_waits hs hch (by simp only [List.size_toArray]; omega) head _ i0 rfl hi0 afn i h hi
    have hst := hS.get (i := i) (o := o) (by rw [List.getElem?_take_of_lt hin]; exact ho')
    rw [Nat.zero_add] at hst
    have hdone : ∀ j d, waits l i j d = true → L.getD j false = true := fun j d hjd => by
     simp only [waits, Bool.and_eq_true, beq_iff_eq] at hjd
     obtain ⟨oj, hoj, e, he, hb, hon⟩ := Region.waitsFor_spec hjd.1
     have : oj = o := Option.some.inj (hoj.symm.trans ho)
     subst this
     have hlj := alm e he hb
     rwa [hon] at hlj
    have hw := hst.2 a' w' inv.good inv.old (fun j d hjd => inv.new j d (hwb i j d hin hjd) (hdone j d hjd) (Lv hjd))
    have hnS : ¬ L.getD i false = true := fun h => by rw [getD_both hun] at h; cases h
    have go : ∀ v w2, G w2 → E w' w2 → T i w2 v → (o.dst = none → v = a'.tmps.getD (sl i) undef) → wpAny P .any l.toArray Q (f + (l.length - n)) (L.setIfInBounds i true) (a'.put o.dst v) w2 := by
     intro v w2 hg2 hE Mi hno
     refine ih (L.setIfInBounds i true) _ w2 (head.set hi hin) ((inv.step hsz hds hsl hT hin ho' hnS hdone hg2 hE Mi hno).mono (fun k hk => ?_) hwb) (by have := abe hun (m := n) hin; omega)
     by_cases hki : k = i
     ·
      subst hki
      exact ⟨fun _ => .inl rfl, fun _ => by simp [show k < L.size by rw [hLs]; omega]⟩
     ·
      rw [getD_set_ne false (Ne.symm hki)]
      exact ⟨fun h => .inr h, fun h => h.resolve_left hki⟩
    unfold wpOp
    simp only [ho]
    split
    ·
     refine .inl (Oper.wp_mono (fun a2 w2 hK => ?_) hw)
     obtain ⟨v, rfl, hg2, hE, Mi, hno⟩ := hK
     exact go v w2 hg2 hE Mi hno
    ·
     rename_i hwd
     exact absurd (by simp [Region.wanted, hst.1]) hwd
 have h0 := key n (Array.replicate l.length false) a w.drew
  ⟨by simp, fun j oj _ hl => (by rw [getD_replicate_false] at hl; cases hl), fun t _ ht => getD_in (by simpa using ht) (getD_replicate_false _ _)⟩
  ⟨rfl, rfl, fun _ _ => rfl, fun k d _ hs _ => (by rw [getD_replicate_false] at hs; cases hs), fun k _ hs _ => (by rw [getD_replicate_false] at hs; cases hs), fun k j d _ hs _ => (by rw [getD_replicate_false] at hs; cases hs), hG⟩ (abf _ hn)
 rw [show n + (l.length - n) = l.length by omega] at h0
 have hsz2 : l.toArray.size = l.length := by simp
 rw [hsz2]
 exact h0
end Rg
end Go.Proofs.YtfbcdfoohpkfeaaGreatDoor
namespace Go.Proofs.YtfbcdfoohpkfeaaGreatDoor
open Go.RowKit

namespace Sb
def EN (B : Nat) (TB : TypeId) (new : List Leaf) (w w' : World) : Prop := jb w w' ∨ ∃ (b : Nat) (us cs : List Value), B ≤ b ∧ jf w new us ∧ w.heap[b]? = some (.cells cs.toArray TB (0, 0)) ∧ Mv cs ∧ us.length = cs.length ∧ w' = setM w b 0 us
theorem Df {B : Nat} {TB : TypeId} {new : List Leaf} (c : Value) : Rg.Gj (EN B TB new) (Rg.cz c) := fun _ _ _ _ h => h
theorem zn {B : Nat} {TB : TypeId} {new : List Leaf} (ls : List Leaf) : Rg.Gj (EN B TB new) (bg ls) := by
 rintro w w' v (hb | ⟨b, us, cs, _, h1, h2, h3, h4, rfl⟩) h
 ·
  exact cu ls _ _ _ hb h
 ·
  obtain ⟨ds, rfl, h⟩ := h
  exact ⟨ds, rfl, h.upto h2 h3 (Cv b us 0 w w (yu _ _))⟩
theorem Pk {B : Nat} {TB : TypeId} {new : List Leaf} {ts : List (World → Value → Prop)} (hs : Rg.iq (EN B TB new) ts) : Rg.Gj (EN B TB new) (qj ts) := by
 rintro w w' v hb ⟨vs, rfl, h⟩
 exact ⟨vs, rfl, h.atc hb hs⟩
def Yb (T : TypeId) (m : Nat) (B : Nat) : World → Value → Prop := fun W v => ∃ b, v = .pointer (some ⟨b, 0, none⟩) ∧ B ≤ b ∧ ∃ cs : List Value, W.heap[b]? = some (.cells cs.toArray T (0, 0)) ∧ Mv cs ∧ cs.length = m
theorem Rz {B B' m : Nat} {TB T : TypeId} {new : List Leaf} : Rg.Gj (EN B TB new) (Yb T m B') := by
 rintro w w' v (hb | ⟨b, us, cs, _, h1, h2, h3, h4, rfl⟩) ⟨c, rfl, h5, ds, h6, h7, h8⟩
 ·
  exact ⟨c, rfl, h5, ds, (hb.block _ (lt_of_block h6)).trans h6, h7, h8⟩
 ·
  refine ⟨c, rfl, h5, ?_⟩
  by_cases hbc : c = b
  ·
   subst hbc
   rw [h6] at h2
   have h9 := Option.some.inj h2
   injection h9 with e1 e2 e3
   subst e2
   have e4 : ds = cs := by simpa using e1
   subst e4
   exact ⟨us, Hu h6 h4, h1.noW, by rw [h4, h8]⟩
  ·
   exact ⟨ds, ((Cv b us 0 w w (yu _ _)).block c (lt_of_block h6) (fun x => hbc (by injection x))).trans h6, h7, h8⟩
def Vq (TB : TypeId) (new : List Leaf) (B : Nat) : World → Value → Prop := fun W v => ∃ b, v = .pointer (some ⟨b, 0, none⟩) ∧ B ≤ b ∧ Cm W b TB new
theorem Uk {B B' : Nat} {TB : TypeId} {new : List Leaf} : Rg.Gj (EN B TB new) (Vq TB new B') := by
 rintro w w' v (hb | ⟨b, us, cs, _, h1, h2, h3, h4, rfl⟩) ⟨c, rfl, h5, ds, h6, h7⟩
 ·
  exact ⟨c, rfl, h5, Cm.below ⟨ds, h6, h7⟩ hb⟩
 ·
  refine ⟨c, rfl, h5, ?_⟩
  have hg := Cv b us 0 w w (yu _ _)
  by_cases hbc : c = b
  ·
   subst hbc
   exact ⟨us, Hu h2 h4, h1.upto h2 h3 hg⟩
  ·
   exact ⟨ds, (hg.block c (lt_of_block h6) (fun x => hbc (by injection x))).trans h6, h7.upto h2 h3 hg⟩
theorem ry {P : Program} {Q : Exit → Act → World → Prop} {l : List Oper} {n : Nat} {T : Nat → World → Value → Prop} {G : World → Prop} {B : Nat} {TB : TypeId} {new : List Leaf} {al : List Nat} {a0 : Act} {k : Nat} {o : Oper} (h : Rg.Step P Q l n T G jb al a0 k o) : Rg.Step P Q l n T G (EN B TB new) al a0 k o := by
 intro a w hG hO hN
 refine Oper.wp_mono (fun a' w' hK => ?_) (h a w hG hO hN)
 obtain ⟨v, h1, h2, h3, h4, h5⟩ := hK
 exact ⟨v, h1, h2, .inl h3, h4, h5⟩
theorem Xa {P : Program} {Q : Exit → Act → World → Prop} {l : List Oper} {n : Nat} {T : Nat → World → Value → Prop} {G : World → Prop} {a0 : Act} {k d B m : Nat} {TL : TypeId} {cs : List Value} {ty : TypeId} {pos : String} {af : Array Edge} {gd : Option (Nat × Bool)} (hN : Qi P TL cs) (hw : cs.all okV = true) (hm : cs.length = m)
  (Io : ∀ W W', G W → jb W W' → G W') (hB : ∀ W, G W → B ≤ W.heap.size) (hT : T k = Yb TL m B) :
  Rg.Step P Q l n T G jb [] a0 k { dst := some d, op := .alloc TL, type := ty, pos := pos, after := af, guard := gd } := by
 refine awp (N := Yb TL m) (B := B) ?_ Io hB hT (fun j W u h => by simp at h)
 intro a w
 exact ⟨_, (Below.refl _ _).alloc (Nat.le_refl _) _, fun hB => ⟨w.heap.size, rfl, hB, cs, heap_alloc_new w _, (jf.vs w cs hw).noW, hm⟩, hN a.eval w (some d) ty pos af gd⟩
theorem Wz {P : Program} {Q : Exit → Act → World → Prop} {l : List Oper} {n : Nat} {sl : Nat → Tmp} {T : Nat → World → Value → Prop} {w0 V : World} {bs : List Az} {a0 : Act} {k m t : Nat} {TL TB : TypeId} {x : Operand} {new : List Leaf} {ty : TypeId} {pos : String} {af : Array Edge}
  (hO : Own w0 bs V) (hS : Fv P TL m) (hp : Rg.ni l n T a0 k (.tmp t) (Yb TB m V.heap.size)) (hx : Rg.ni l n T a0 k x (bg new)) (hn : lsize new = m) (hsl : sl k = t) (hT : T k = Vq TB new V.heap.size) :
  Rg.aad P Q l n sl T (dw w0 bs V) (EN V.heap.size TB new) a0 k { dst := none, op := .store TL (.tmp t) x, type := ty, pos := pos, after := af, guard := none } := by
 refine ⟨rfl, fun a w hG hA hN => ?_⟩
 obtain ⟨us, ex, hu⟩ := hx a w hA hN
 obtain ⟨b, ep, hge, cs, hb, hnw, hlen⟩ := hp a w hA hN
 have hl : us.length = cs.length := by rw [hu.len, hn, hlen]
 have hr := hS a.eval w none (.tmp t) x b 0 cs TB us ty pos af none (by rw [hu.len, hn]) (fun u h => (hu.noW u h).2.1) hb (by rw [hlen]; omega) ep ex
 unfold Oper.wp
 rw [hr]
 have hg := Cv b us 0 w w (yu _ _)
 have hbel : jb V (setM w b 0 us) := hG.2.grown hg hG.2.size (fun k hk => by injection hk with hk; omega)
 exact ⟨a.tmps.getD (sl k) undef, rfl, ⟨Own.step _ _ hO hbel, hbel⟩, .inr ⟨b, us, cs, hge, hu, hb, hnw, hl, rfl⟩, by rw [hT, hsl]; exact ⟨b, ep, hge, us, Hu hb hl, hu.upto hb hnw hg⟩, fun _ => rfl⟩
end Sb

end Go.Proofs.YtfbcdfoohpkfeaaGreatDoor
namespace Go.Proofs.YtfbcdfoohpkfeaaGreatDoor
open Go.RowKit

namespace Sb
set_option maxHeartbeats 16000000 in
theorem aos {bf az ay ax dm di dh df : Int} (t : Gi) (b : Bool) (w : World) (hT : xg w) (u0 : Value) (h0 : bg [iv bf, iv az, iv ay, iv ax] w u0) (u1 : Value) (h1 : bg [iv dm, iv di, iv dh, iv df] w u1)
  (hr : (su [⟨bf, az, ay, ax⟩, ⟨dm, di, dh, df⟩] ≠ 0 → t = ⟨0, 0, 0, 0, su [⟨bf, az, ay, ax⟩, ⟨dm, di, dh, df⟩]⟩ ∧ b = false) ∧ (su [⟨bf, az, ay, ax⟩, ⟨dm, di, dh, df⟩] = 0 → (¬ ja ((eu (Wd.qR bf az) [(Wd.qR dm di)]).num * (fe (Wd.qR ay ax) [(Wd.qR dh df)]).den - (fe (Wd.qR ay ax) [(Wd.qR dh df)]).num * (eu (Wd.qR bf az) [(Wd.qR dm di)]).den) ≤ 0 → t = ⟨0, 0, 0, 0, 0⟩ ∧ b = false) ∧ (ja ((eu (Wd.qR bf az) [(Wd.qR dm di)]).num * (fe (Wd.qR ay ax) [(Wd.qR dh df)]).den - (fe (Wd.qR ay ax) [(Wd.qR dh df)]).num * (eu (Wd.qR bf az) [(Wd.qR dm di)]).den) ≤ 0 → t = (gu (eu (Wd.qR bf az) [(Wd.qR dm di)]) (fe (Wd.qR ay ax) [(Wd.qR dh df)])) ∧ b = ((gu (eu (Wd.qR bf az) [(Wd.qR dm di)]) (fe (Wd.qR ay ax) [(Wd.qR dh df)])).e == 0)))) :
  Calls Tryz.prog 37 #[u0, u1] w (nk (qj [bg [.v (.int .i64 t.a), .v (.int .i64 t.b), .v (.int .i64 t.c), .v (.int .i64 t.d)], Rg.cz (.bool b), Rg.cz (.int .i64 t.e)]) w) := by
 have HR := hide hr
 have HT := hide hT
 clear hr hT
 have hu0 := Ak h0
 subst hu0
 have hu1 := Ak h1
 subst hu1
 go_enter Tryz.func37, Tryz.ntmps37
 go_upto_region 1 with fail
 have hO := (Own.push (T := 41) (ls := zS) (cs := [.int .i64 0, .int .i64 0, .int .i64 0, .int .i64 0]) (Own.push (T := 41) (ls := [iv dm, iv di, iv dh, iv df]) (cs := [.int .i64 dm, .int .i64 di, .int .i64 dh, .int .i64 df]) (Own.push (T := 41) (ls := [iv bf, iv az, iv ay, iv ax]) (cs := [.int .i64 bf, .int .i64 az, .int .i64 ay, .int .i64 ax]) (Own.nil w) (jf.v (jl _) (jf.v (jl _) (jf.v (jl _) (jf.v (jl _) rfl)))) (w.heap.size) rfl) (((jf.v (jl _) (jf.v (jl _) (jf.v (jl _) (jf.v (jl _) rfl)))) : jf w [iv dm, iv di, iv dh, iv df] [.int .i64 dm, .int .i64 di, .int .i64 dh, .int .i64 df]).below (by repeat (first | exact Below.refl _ _ | refine jk ?_ _))) (w.heap.size + 1) (by simp only [World.size_alloc])) (((jf.vs w [.int .i64 0, .int .i64 0, .int .i64 0, .int .i64 0] rfl) : jf w zS [.int .i64 0, .int .i64 0, .int .i64 0, .int .i64 0]).below (by repeat (first | exact Below.refl _ _ | refine jk ?_ _))) (w.heap.size + 2) (by simp only [World.size_alloc]))
 generalize ((w.alloc (.cells #[.int .i64 bf, .int .i64 az, .int .i64 ay, .int .i64 ax] 41)).alloc (.cells #[.int .i64 dm, .int .i64 di, .int .i64 dh, .int .i64 df] 41)).alloc (.cells #[.int .i64 0, .int .i64 0, .int .i64 0, .int .i64 0] 41) = W0 at *
 have HO := hide hO
 clear hO
 go_upto_region 1 with fail
 refine Rg.ik 5 40 (Rg.pick [bg [iv bf, iv az, iv ay, iv ax], bg [iv dm, iv di, iv dh, iv df], Qh 41 2 [iv bf, iv az, iv ay, iv ax, iv dm, iv di, iv dh, iv df], Rg.cz (.int .i64 (su [⟨bf, az, ay, ax⟩, ⟨dm, di, dh, df⟩])), Rg.cz (.int .i64 (su [⟨bf, az, ay, ax⟩, ⟨dm, di, dh, df⟩]))]) (dw w [(w.heap.size + 2, 41, zS), (w.heap.size + 1, 41, [iv dm, iv di, iv dh, iv df]), (w.heap.size, 41, [iv bf, iv az, iv ay, iv ax])] W0) jb [] kr rfl (Rg.iq.pick ⟨cu _, cu _, Ji _ _ _, Rg.ag _, Rg.ag _, trivial⟩) (dw.begin (aa HO))
  (ah (je qi ug (Rg.gm kr rfl) [] [iv bf, iv az, iv ay, iv ax] [])
  (ah (je qi rf (Rg.gm kr rfl) [] [iv dm, iv di, iv dh, iv df] [])
  (ah (Fz (ps := [(0, .tmp 12), (1, .tmp 13)]) (gs := [[iv bf, iv az, iv ay, iv ax], [iv dm, iv di, iv dh, iv df]]) Tt rfl dw.step rfl (wy.cons (Rg.ai 0 kr) rfl (wy.cons (Rg.ai 1 kr) rfl wy.nil)) rfl)
  (ah (ku Tryz.func104 kr rfl dw.step (Rg.ai 2 kr) (fun W v0 hG h0 => agu (ss := [⟨bf, az, ay, ax⟩, ⟨dm, di, dh, df⟩]) (by simp) W ((aa HT).below hG.bel) _ h0))
  (ah (ma rfl (Rg.ai 3 kr))
  Rg.fq))))) ?_
 intro v1 V1 hG1 hv1 hne1
 simp only [Rg.puts, ko, kg, jy, jw, Act.put, jr, jq, jo]
 have e3 : v1 3 = .int .i64 (su [⟨bf, az, ay, ax⟩, ⟨dm, di, dh, df⟩]) := hv1 3 (by decide)
 have e4 : v1 4 = .int .i64 (su [⟨bf, az, ay, ax⟩, ⟨dm, di, dh, df⟩]) := hv1 4 (by decide)
 simp only [e3, e4]
 have hO := hG1.1
 clear HO
 have HO := hide hO
 clear hO hG1 hv1 hne1
 try clear e3 e4
 by_cases g0 : su [⟨bf, az, ay, ax⟩, ⟨dm, di, dh, df⟩] = 0
 ·
  have k1 : (su [⟨bf, az, ay, ax⟩, ⟨dm, di, dh, df⟩] != 0) = false := by simp [bne, beq_iff_eq.2 g0]
  have HR2 := hide ((aa HR).2 g0)
  have HQ := hide (ajc g0)
  clear HR
  go_upto_region 2 with fail
  refine Rg.ik 2 40 (Rg.pick [Rg.cz (.int .i64 (su [⟨bf, az, ay, ax⟩, ⟨dm, di, dh, df⟩])), Rg.cz (.bool false)]) (dw w [(w.heap.size + 2, 41, zS), (w.heap.size + 1, 41, [iv dm, iv di, iv dh, iv df]), (w.heap.size, 41, [iv bf, iv az, iv ay, iv ax])] V1) jb [] kr rfl (Rg.iq.pick ⟨Rg.ag _, Rg.ag _, trivial⟩) (dw.begin (aa HO))
   (ah (il rfl (Rg.gm kr rfl))
   (ah (Co rfl (Rg.ai 0 kr) (Rg.lv _) rfl k1)
   Rg.fq)) ?_
  intro v2 V2 hG2 hv2 hne2
  simp only [Rg.puts, ko, kg, jy, jw, Act.put, jr, jq, jo]
  have e1 : v2 1 = .bool false := hv2 1 (by decide)
  simp only [e1]
  have hO := hG2.1
  clear HO
  have HO := hide hO
  clear hO hG2 hv2 hne2
  try clear e1
  clear k1 g0
  go_upto_region 4 with fail
  go_upto_region 4 with fail
  refine Rg.aat 11 40 (fun _ => 8) (Rg.pick [bg [iv bf, iv az, iv ay, iv ax], bg [.q (Wd.qR bf az), .q (Wd.qR ay ax)], bg [iv dm, iv di, iv dh, iv df], bg [.q (Wd.qR dm di), .q (Wd.qR dh df)], qj [bg [.q (eu (Wd.qR bf az) [(Wd.qR dm di)]), .q (fe (Wd.qR ay ax) [(Wd.qR dh df)])], Rg.cz (.bool (decide (ja ((eu (Wd.qR bf az) [(Wd.qR dm di)]).num * (fe (Wd.qR ay ax) [(Wd.qR dh df)]).den - (fe (Wd.qR ay ax) [(Wd.qR dh df)]).num * (eu (Wd.qR bf az) [(Wd.qR dm di)]).den) ≤ 0)))], qj [bg [.q (eu (Wd.qR bf az) [(Wd.qR dm di)]), .q (fe (Wd.qR ay ax) [(Wd.qR dh df)])], Rg.cz (.bool (decide (ja ((eu (Wd.qR bf az) [(Wd.qR dm di)]).num * (fe (Wd.qR ay ax) [(Wd.qR dh df)]).den - (fe (Wd.qR ay ax) [(Wd.qR dh df)]).num * (eu (Wd.qR bf az) [(Wd.qR dm di)]).den) ≤ 0)))], bg [.q (eu (Wd.qR bf az) [(Wd.qR dm di)]), .q (fe (Wd.qR ay ax) [(Wd.qR dh df)])], Rg.cz (.bool (decide (ja ((eu (Wd.qR bf az) [(Wd.qR dm di)]).num * (fe (Wd.qR ay ax) [(Wd.qR dh df)]).den - (fe (Wd.qR ay ax) [(Wd.qR dh df)]).num * (eu (Wd.qR bf az) [(Wd.qR dm di)]).den) ≤ 0))), Yb 108 12 V2.heap.size, Vq 108 [.q (eu (Wd.qR bf az) [(Wd.qR dm di)]), .q (fe (Wd.qR ay ax) [(Wd.qR dh df)])] V2.heap.size, Rg.cz (.bool (decide (ja ((eu (Wd.qR bf az) [(Wd.qR dm di)]).num * (fe (Wd.qR ay ax) [(Wd.qR dh df)]).den - (fe (Wd.qR ay ax) [(Wd.qR dh df)]).num * (eu (Wd.qR bf az) [(Wd.qR dm di)]).den) ≤ 0)))]) (dw w [(w.heap.size + 2, 41, zS), (w.heap.size + 1, 41, [iv dm, iv di, iv dh, iv df]), (w.heap.size, 41, [iv bf, iv az, iv ay, iv ax])] V2) (EN V2.heap.size 108 [.q (eu (Wd.qR bf az) [(Wd.qR dm di)]), .q (fe (Wd.qR ay ax) [(Wd.qR dh df)])]) kr kr kr rfl (Rg.iq.pick ⟨(zn _), (zn _), (zn _), (zn _), (Pk ⟨(zn _), (Df _), trivial⟩), (Pk ⟨(zn _), (Df _), trivial⟩), (zn _), (Df _), (Rz), (Uk), (Df _), trivial⟩) (dw.start (aa HO))
   (Rg.pz (Rg.uw rfl rfl (ry (je qi ug (Rg.gm kr rfl) [] [iv bf, iv az, iv ay, iv ax] [])))
    (Rg.pz (Rg.uw rfl rfl (ry (ku Tryz.func95 kr rfl dw.step (Rg.ai 0 kr) (fun W v0 hG h0 => Oq ⟨(aa HQ).1.1, (aa HQ).1.2.1⟩ W _ h0))))
    (Rg.pz (Rg.uw rfl rfl (ry (je qi rf (Rg.gm kr rfl) [] [iv dm, iv di, iv dh, iv df] [])))
    (Rg.pz (Rg.uw rfl rfl (ry (ku Tryz.func95 kr rfl dw.step (Rg.ai 2 kr) (fun W v0 hG h0 => Oq ⟨(aa HQ).2.1, (aa HQ).2.2.1⟩ W _ h0))))
    (Rg.pz (Rg.uw rfl rfl (ry (ll Tryz.func105 kr rfl dw.step (Rg.ai 1 kr) (Rg.ai 3 kr) (fun W v0 v1 hG h0 h1 => bdi (xu (aa HQ).1.1) (xu (aa HQ).1.2.1) (xu (aa HQ).2.1) (xu (aa HQ).2.2.1) W _ h0 _ h1))))
    (Rg.pz (Rg.uw rfl rfl (ry (il rfl (Rg.ai 4 kr))))
    (Rg.pz (Rg.uw rfl rfl (ry (oo (ts := [bg [.q (eu (Wd.qR bf az) [(Wd.qR dm di)]), .q (fe (Wd.qR ay ax) [(Wd.qR dh df)])], Rg.cz (.bool (decide (ja ((eu (Wd.qR bf az) [(Wd.qR dm di)]).num * (fe (Wd.qR ay ax) [(Wd.qR dh df)]).den - (fe (Wd.qR ay ax) [(Wd.qR dh df)]).num * (eu (Wd.qR bf az) [(Wd.qR dm di)]).den) ≤ 0)))]) rfl (Rg.ai 5 kr) (of_decide_eq_true rfl) rfl)))
    (Rg.pz (Rg.uw rfl rfl (ry (oo (ts := [bg [.q (eu (Wd.qR bf az) [(Wd.qR dm di)]), .q (fe (Wd.qR ay ax) [(Wd.qR dh df)])], Rg.cz (.bool (decide (ja ((eu (Wd.qR bf az) [(Wd.qR dm di)]).num * (fe (Wd.qR ay ax) [(Wd.qR dh df)]).den - (fe (Wd.qR ay ax) [(Wd.qR dh df)]).num * (eu (Wd.qR bf az) [(Wd.qR dm di)]).den) ≤ 0)))]) rfl (Rg.ai 5 kr) (of_decide_eq_true rfl) rfl)))
    (Rg.pz (Rg.uw rfl rfl (ry (Xa ale rfl rfl dw.step dw.size rfl)))
    (Rg.pz (Wz (aa HO) Jh (Rg.ai 8 kr) (Rg.ai 6 kr) rfl rfl rfl)
    (Rg.pz (Rg.uw rfl rfl (ry (ma rfl (Rg.ai 7 kr))))
    Rg.Ry))))))))))) ?_
  intro v3 V3 hG3 hv3 si
  simp only [Rg.puts, ko, kg, jy, jw, Act.put, jr, jq, jo]
  have e7 : v3 7 = .bool (decide (ja ((eu (Wd.qR bf az) [(Wd.qR dm di)]).num * (fe (Wd.qR ay ax) [(Wd.qR dh df)]).den - (fe (Wd.qR ay ax) [(Wd.qR dh df)]).num * (eu (Wd.qR bf az) [(Wd.qR dm di)]).den) ≤ 0)) := hv3 7 (by decide)
  have e10 : v3 10 = .bool (decide (ja ((eu (Wd.qR bf az) [(Wd.qR dm di)]).num * (fe (Wd.qR ay ax) [(Wd.qR dh df)]).den - (fe (Wd.qR ay ax) [(Wd.qR dh df)]).num * (eu (Wd.qR bf az) [(Wd.qR dm di)]).den) ≤ 0)) := hv3 10 (by decide)
  have e98 : v3 9 = v3 8 := si 9 8 (by decide) (by decide) rfl rfl
  obtain ⟨agz, e8, Vb, hz8⟩ := (show Vq 108 [.q (eu (Wd.qR bf az) [(Wd.qR dm di)]), .q (fe (Wd.qR ay ax) [(Wd.qR dh df)])] V2.heap.size V3 (v3 9) from hv3 9 (by decide))
  rw [e98] at e8
  clear e98
  simp only [e7, e10, e8]
  have hO := Own.add (aa HO) hG3.2 Vb hz8
  clear Vb hz8
  clear HO
  have HO := hide hO
  clear hO hG3 hv3 si
  try clear e7 e10 e8
  by_cases g1 : ja ((eu (Wd.qR bf az) [(Wd.qR dm di)]).num * (fe (Wd.qR ay ax) [(Wd.qR dh df)]).den - (fe (Wd.qR ay ax) [(Wd.qR dh df)]).num * (eu (Wd.qR bf az) [(Wd.qR dm di)]).den) ≤ 0
  ·
   have k2 : (decide (ja ((eu (Wd.qR bf az) [(Wd.qR dm di)]).num * (fe (Wd.qR ay ax) [(Wd.qR dh df)]).den - (fe (Wd.qR ay ax) [(Wd.qR dh df)]).num * (eu (Wd.qR bf az) [(Wd.qR dm di)]).den) ≤ 0)) = true := decide_eq_true g1
   have k2' : (!(decide (ja ((eu (Wd.qR bf az) [(Wd.qR dm di)]).num * (fe (Wd.qR ay ax) [(Wd.qR dh df)]).den - (fe (Wd.qR ay ax) [(Wd.qR dh df)]).num * (eu (Wd.qR bf az) [(Wd.qR dm di)]).den) ≤ 0))) = false := by rw [k2]; rfl
   obtain ⟨rfl, rfl⟩ := (aa HR2).2 g1
   clear HR2
   go_upto_region 5 with fail
   refine Rg.ik 2 40 (Rg.pick [Rg.cz (.bool (decide (ja ((eu (Wd.qR bf az) [(Wd.qR dm di)]).num * (fe (Wd.qR ay ax) [(Wd.qR dh df)]).den - (fe (Wd.qR ay ax) [(Wd.qR dh df)]).num * (eu (Wd.qR bf az) [(Wd.qR dm di)]).den) ≤ 0))), Rg.cz (.bool false)]) (dw w [(agz, 108, [.q (eu (Wd.qR bf az) [(Wd.qR dm di)]), .q (fe (Wd.qR ay ax) [(Wd.qR dh df)])]), (w.heap.size + 2, 41, zS), (w.heap.size + 1, 41, [iv dm, iv di, iv dh, iv df]), (w.heap.size, 41, [iv bf, iv az, iv ay, iv ax])] V3) jb [] kr rfl (Rg.iq.pick ⟨Rg.ag _, Rg.ag _, trivial⟩) (dw.begin (aa HO))
    (ah (il rfl (Rg.gm kr rfl))
    (ah (Bj rfl (Rg.ai 0 kr) rfl k2')
    Rg.fq)) ?_
   intro v4 V4 hG4 hv4 xh
   simp only [Rg.puts, ko, kg, jy, jw, Act.put, jr, jq, jo]
   have e1 : v4 1 = .bool false := hv4 1 (by decide)
   simp only [e1]
   have hO := hG4.1
   clear HO
   have HO := hide hO
   clear hO hG4 hv4 xh
   try clear e1
   clear k2 k2' g1
   go_upto_region 7 with fail
   refine Rg.ik 6 40 (Rg.pick [bg [.q (eu (Wd.qR bf az) [(Wd.qR dm di)]), .q (fe (Wd.qR ay ax) [(Wd.qR dh df)])], qj [bg [iv (gu (eu (Wd.qR bf az) [(Wd.qR dm di)]) (fe (Wd.qR ay ax) [(Wd.qR dh df)])).a, iv (gu (eu (Wd.qR bf az) [(Wd.qR dm di)]) (fe (Wd.qR ay ax) [(Wd.qR dh df)])).b, iv (gu (eu (Wd.qR bf az) [(Wd.qR dm di)]) (fe (Wd.qR ay ax) [(Wd.qR dh df)])).c, iv (gu (eu (Wd.qR bf az) [(Wd.qR dm di)]) (fe (Wd.qR ay ax) [(Wd.qR dh df)])).d], Rg.cz (.int .i64 (gu (eu (Wd.qR bf az) [(Wd.qR dm di)]) (fe (Wd.qR ay ax) [(Wd.qR dh df)])).e)], qj [bg [iv (gu (eu (Wd.qR bf az) [(Wd.qR dm di)]) (fe (Wd.qR ay ax) [(Wd.qR dh df)])).a, iv (gu (eu (Wd.qR bf az) [(Wd.qR dm di)]) (fe (Wd.qR ay ax) [(Wd.qR dh df)])).b, iv (gu (eu (Wd.qR bf az) [(Wd.qR dm di)]) (fe (Wd.qR ay ax) [(Wd.qR dh df)])).c, iv (gu (eu (Wd.qR bf az) [(Wd.qR dm di)]) (fe (Wd.qR ay ax) [(Wd.qR dh df)])).d], Rg.cz (.int .i64 (gu (eu (Wd.qR bf az) [(Wd.qR dm di)]) (fe (Wd.qR ay ax) [(Wd.qR dh df)])).e)], bg [iv (gu (eu (Wd.qR bf az) [(Wd.qR dm di)]) (fe (Wd.qR ay ax) [(Wd.qR dh df)])).a, iv (gu (eu (Wd.qR bf az) [(Wd.qR dm di)]) (fe (Wd.qR ay ax) [(Wd.qR dh df)])).b, iv (gu (eu (Wd.qR bf az) [(Wd.qR dm di)]) (fe (Wd.qR ay ax) [(Wd.qR dh df)])).c, iv (gu (eu (Wd.qR bf az) [(Wd.qR dm di)]) (fe (Wd.qR ay ax) [(Wd.qR dh df)])).d], Rg.cz (.int .i64 (gu (eu (Wd.qR bf az) [(Wd.qR dm di)]) (fe (Wd.qR ay ax) [(Wd.qR dh df)])).e), uf 41 zS V4.heap.size]) (dw w [(agz, 108, [.q (eu (Wd.qR bf az) [(Wd.qR dm di)]), .q (fe (Wd.qR ay ax) [(Wd.qR dh df)])]), (w.heap.size + 2, 41, zS), (w.heap.size + 1, 41, [iv dm, iv di, iv dh, iv df]), (w.heap.size, 41, [iv bf, iv az, iv ay, iv ax])] V4) jb [5] kr rfl (Rg.iq.pick ⟨cu _, nu ⟨(cu _), (Rg.ag _), trivial⟩, nu ⟨(cu _), (Rg.ag _), trivial⟩, cu _, Rg.ag _, ui _ _ _, trivial⟩) (dw.begin (aa HO))
    (ah (je aov me0 (Rg.gm kr rfl) [] [.q (eu (Wd.qR bf az) [(Wd.qR dm di)]), .q (fe (Wd.qR ay ax) [(Wd.qR dh df)])] [])
    (ah (ku Tryz.func97 kr rfl dw.step (Rg.ai 0 kr) (fun W v0 hG h0 => agt W _ h0))
    (ah (il rfl (Rg.ai 1 kr))
    (ah (oo (ts := [bg [iv (gu (eu (Wd.qR bf az) [(Wd.qR dm di)]) (fe (Wd.qR ay ax) [(Wd.qR dh df)])).a, iv (gu (eu (Wd.qR bf az) [(Wd.qR dm di)]) (fe (Wd.qR ay ax) [(Wd.qR dh df)])).b, iv (gu (eu (Wd.qR bf az) [(Wd.qR dm di)]) (fe (Wd.qR ay ax) [(Wd.qR dh df)])).c, iv (gu (eu (Wd.qR bf az) [(Wd.qR dm di)]) (fe (Wd.qR ay ax) [(Wd.qR dh df)])).d], Rg.cz (.int .i64 (gu (eu (Wd.qR bf az) [(Wd.qR dm di)]) (fe (Wd.qR ay ax) [(Wd.qR dh df)])).e)]) rfl (Rg.ai 2 kr) (of_decide_eq_true rfl) rfl)
    (ah (oo (ts := [bg [iv (gu (eu (Wd.qR bf az) [(Wd.qR dm di)]) (fe (Wd.qR ay ax) [(Wd.qR dh df)])).a, iv (gu (eu (Wd.qR bf az) [(Wd.qR dm di)]) (fe (Wd.qR ay ax) [(Wd.qR dh df)])).b, iv (gu (eu (Wd.qR bf az) [(Wd.qR dm di)]) (fe (Wd.qR ay ax) [(Wd.qR dh df)])).c, iv (gu (eu (Wd.qR bf az) [(Wd.qR dm di)]) (fe (Wd.qR ay ax) [(Wd.qR dh df)])).d], Rg.cz (.int .i64 (gu (eu (Wd.qR bf az) [(Wd.qR dm di)]) (fe (Wd.qR ay ax) [(Wd.qR dh df)])).e)]) rfl (Rg.ai 2 kr) (of_decide_eq_true rfl) rfl)
    (ah (vv Sr rfl dw.step dw.size rfl (xx (by intro j hj; simp at hj; (repeat' (first | (rcases hj with rfl | hj))) <;> first | (subst hj; exact ⟨_, _, _, rfl⟩) | exact ⟨_, _, _, rfl⟩)))
    Rg.fq)))))) ?_
   intro v5 V5 zo hv5 hne5
   simp only [Rg.puts, ko, kg, jy, jw, Act.put, jr, jq, jo]
   have e4 : v5 4 = .int .i64 (gu (eu (Wd.qR bf az) [(Wd.qR dm di)]) (fe (Wd.qR ay ax) [(Wd.qR dh df)])).e := hv5 4 (by decide)
   obtain ⟨bjs, e5, Jz, Qa⟩ := (show uf 41 zS V4.heap.size V5 (v5 5) from hv5 5 (by decide))
   simp only [e4, e5]
   have hO := zo.1
   replace hO := Own.add (aa HO) zo.2 Jz Qa
   clear Jz Qa
   refine nz hO 0 [] zS [iv (gu (eu (Wd.qR bf az) [(Wd.qR dm di)]) (fe (Wd.qR ay ax) [(Wd.qR dh df)])).a, iv (gu (eu (Wd.qR bf az) [(Wd.qR dm di)]) (fe (Wd.qR ay ax) [(Wd.qR dh df)])).b, iv (gu (eu (Wd.qR bf az) [(Wd.qR dm di)]) (fe (Wd.qR ay ax) [(Wd.qR dh df)])).c, iv (gu (eu (Wd.qR bf az) [(Wd.qR dm di)]) (fe (Wd.qR ay ax) [(Wd.qR dh df)])).d] [] rfl vo rfl (show bg [iv (gu (eu (Wd.qR bf az) [(Wd.qR dm di)]) (fe (Wd.qR ay ax) [(Wd.qR dh df)])).a, iv (gu (eu (Wd.qR bf az) [(Wd.qR dm di)]) (fe (Wd.qR ay ax) [(Wd.qR dh df)])).b, iv (gu (eu (Wd.qR bf az) [(Wd.qR dm di)]) (fe (Wd.qR ay ax) [(Wd.qR dh df)])).c, iv (gu (eu (Wd.qR bf az) [(Wd.qR dm di)]) (fe (Wd.qR ay ax) [(Wd.qR dh df)])).d] V5 (v5 3) from hv5 3 (by decide)) rfl rfl rfl ?_
   intro Lh ji hk0
   replace hO := ji
   clear ji
   clear HO
   have HO := hide hO
   clear hO zo hv5 hne5 hk0
   try clear e4 e5
   go_upto_region 8 with fail
   refine Rg.ik 4 40 (Rg.pick [bg [iv (gu (eu (Wd.qR bf az) [(Wd.qR dm di)]) (fe (Wd.qR ay ax) [(Wd.qR dh df)])).a, iv (gu (eu (Wd.qR bf az) [(Wd.qR dm di)]) (fe (Wd.qR ay ax) [(Wd.qR dh df)])).b, iv (gu (eu (Wd.qR bf az) [(Wd.qR dm di)]) (fe (Wd.qR ay ax) [(Wd.qR dh df)])).c, iv (gu (eu (Wd.qR bf az) [(Wd.qR dm di)]) (fe (Wd.qR ay ax) [(Wd.qR dh df)])).d], Rg.cz (.int .i64 (gu (eu (Wd.qR bf az) [(Wd.qR dm di)]) (fe (Wd.qR ay ax) [(Wd.qR dh df)])).e), Rg.cz (.bool ((gu (eu (Wd.qR bf az) [(Wd.qR dm di)]) (fe (Wd.qR ay ax) [(Wd.qR dh df)])).e == 0)), Rg.cz (.int .i64 (gu (eu (Wd.qR bf az) [(Wd.qR dm di)]) (fe (Wd.qR ay ax) [(Wd.qR dh df)])).e)]) (dw w [(bjs, 41, [iv (gu (eu (Wd.qR bf az) [(Wd.qR dm di)]) (fe (Wd.qR ay ax) [(Wd.qR dh df)])).a, iv (gu (eu (Wd.qR bf az) [(Wd.qR dm di)]) (fe (Wd.qR ay ax) [(Wd.qR dh df)])).b, iv (gu (eu (Wd.qR bf az) [(Wd.qR dm di)]) (fe (Wd.qR ay ax) [(Wd.qR dh df)])).c, iv (gu (eu (Wd.qR bf az) [(Wd.qR dm di)]) (fe (Wd.qR ay ax) [(Wd.qR dh df)])).d]), (agz, 108, [.q (eu (Wd.qR bf az) [(Wd.qR dm di)]), .q (fe (Wd.qR ay ax) [(Wd.qR dh df)])]), (w.heap.size + 2, 41, zS), (w.heap.size + 1, 41, [iv dm, iv di, iv dh, iv df]), (w.heap.size, 41, [iv bf, iv az, iv ay, iv ax])] Lh) jb [] kr rfl (Rg.iq.pick ⟨cu _, Rg.ag _, Rg.ag _, Rg.ag _, trivial⟩) (dw.begin (aa HO))
    (ah (je qi me0 (Rg.gm kr rfl) [] [iv (gu (eu (Wd.qR bf az) [(Wd.qR dm di)]) (fe (Wd.qR ay ax) [(Wd.qR dh df)])).a, iv (gu (eu (Wd.qR bf az) [(Wd.qR dm di)]) (fe (Wd.qR ay ax) [(Wd.qR dh df)])).b, iv (gu (eu (Wd.qR bf az) [(Wd.qR dm di)]) (fe (Wd.qR ay ax) [(Wd.qR dh df)])).c, iv (gu (eu (Wd.qR bf az) [(Wd.qR dm di)]) (fe (Wd.qR ay ax) [(Wd.qR dh df)])).d] [])
    (ah (il rfl (Rg.gm kr rfl))
    (ah (He rfl (Rg.ai 1 kr) (Rg.lv _) rfl rfl)
    (ah (il rfl (Rg.gm kr rfl))
    Rg.fq)))) ?_
   intro v6 V6 Hl hv6 Jb
   simp only [Rg.puts, ko, kg, jy, jw, Act.put, jr, jq, jo]
   have e2 : v6 2 = .bool ((gu (eu (Wd.qR bf az) [(Wd.qR dm di)]) (fe (Wd.qR ay ax) [(Wd.qR dh df)])).e == 0) := hv6 2 (by decide)
   have e3 : v6 3 = .int .i64 (gu (eu (Wd.qR bf az) [(Wd.qR dm di)]) (fe (Wd.qR ay ax) [(Wd.qR dh df)])).e := hv6 3 (by decide)
   simp only [e2, e3]
   have hO := Hl.1
   refine nz hO 2 [] zS [iv (gu (eu (Wd.qR bf az) [(Wd.qR dm di)]) (fe (Wd.qR ay ax) [(Wd.qR dh df)])).a, iv (gu (eu (Wd.qR bf az) [(Wd.qR dm di)]) (fe (Wd.qR ay ax) [(Wd.qR dh df)])).b, iv (gu (eu (Wd.qR bf az) [(Wd.qR dm di)]) (fe (Wd.qR ay ax) [(Wd.qR dh df)])).c, iv (gu (eu (Wd.qR bf az) [(Wd.qR dm di)]) (fe (Wd.qR ay ax) [(Wd.qR dh df)])).d] [] rfl vo rfl (show bg [iv (gu (eu (Wd.qR bf az) [(Wd.qR dm di)]) (fe (Wd.qR ay ax) [(Wd.qR dh df)])).a, iv (gu (eu (Wd.qR bf az) [(Wd.qR dm di)]) (fe (Wd.qR ay ax) [(Wd.qR dh df)])).b, iv (gu (eu (Wd.qR bf az) [(Wd.qR dm di)]) (fe (Wd.qR ay ax) [(Wd.qR dh df)])).c, iv (gu (eu (Wd.qR bf az) [(Wd.qR dm di)]) (fe (Wd.qR ay ax) [(Wd.qR dh df)])).d] V6 (v6 0) from hv6 0 (by decide)) rfl rfl rfl ?_
   intro bdv ji hk0
   replace hO := ji
   clear ji
   clear HO
   have HO := hide hO
   clear hO Hl hv6 Jb hk0
   try clear e2 e3
   go_wp2_with fail
   exact Le Tryz.results37 zq rfl rfl rfl (aa HO) ug rfl rfl
  ·
   have k2 : (decide (ja ((eu (Wd.qR bf az) [(Wd.qR dm di)]).num * (fe (Wd.qR ay ax) [(Wd.qR dh df)]).den - (fe (Wd.qR ay ax) [(Wd.qR dh df)]).num * (eu (Wd.qR bf az) [(Wd.qR dm di)]).den) ≤ 0)) = false := decide_eq_false g1
   have k2' : (!(decide (ja ((eu (Wd.qR bf az) [(Wd.qR dm di)]).num * (fe (Wd.qR ay ax) [(Wd.qR dh df)]).den - (fe (Wd.qR ay ax) [(Wd.qR dh df)]).num * (eu (Wd.qR bf az) [(Wd.qR dm di)]).den) ≤ 0))) = true := by rw [k2]; rfl
   obtain ⟨rfl, rfl⟩ := (aa HR2).1 g1
   clear HR2
   go_upto_region 5 with fail
   refine Rg.ik 2 40 (Rg.pick [Rg.cz (.bool (decide (ja ((eu (Wd.qR bf az) [(Wd.qR dm di)]).num * (fe (Wd.qR ay ax) [(Wd.qR dh df)]).den - (fe (Wd.qR ay ax) [(Wd.qR dh df)]).num * (eu (Wd.qR bf az) [(Wd.qR dm di)]).den) ≤ 0))), Rg.cz (.bool true)]) (dw w [(agz, 108, [.q (eu (Wd.qR bf az) [(Wd.qR dm di)]), .q (fe (Wd.qR ay ax) [(Wd.qR dh df)])]), (w.heap.size + 2, 41, zS), (w.heap.size + 1, 41, [iv dm, iv di, iv dh, iv df]), (w.heap.size, 41, [iv bf, iv az, iv ay, iv ax])] V3) jb [] kr rfl (Rg.iq.pick ⟨Rg.ag _, Rg.ag _, trivial⟩) (dw.begin (aa HO))
    (ah (il rfl (Rg.gm kr rfl))
    (ah (Bj rfl (Rg.ai 0 kr) rfl k2')
    Rg.fq)) ?_
   intro v4 V4 hG4 hv4 xh
   simp only [Rg.puts, ko, kg, jy, jw, Act.put, jr, jq, jo]
   have e1 : v4 1 = .bool true := hv4 1 (by decide)
   simp only [e1]
   have hO := hG4.1
   clear HO
   have HO := hide hO
   clear hO hG4 hv4 xh
   try clear e1
   go_upto_region 6 with fail
   refine Rg.ik 1 40 (Rg.pick [bg zS]) (dw w [(agz, 108, [.q (eu (Wd.qR bf az) [(Wd.qR dm di)]), .q (fe (Wd.qR ay ax) [(Wd.qR dh df)])]), (w.heap.size + 2, 41, zS), (w.heap.size + 1, 41, [iv dm, iv di, iv dh, iv df]), (w.heap.size, 41, [iv bf, iv az, iv ay, iv ax])] V4) jb [] kr rfl (Rg.iq.pick ⟨cu _, trivial⟩) (dw.begin (aa HO))
    (ah (Ca Ce rfl rfl rfl)
    Rg.fq) ?_
   intro v5 V5 zo hv5 hne5
   simp only [Rg.puts, ko, kg, jy, jw, Act.put, jr, jq, jo]
   have hO := zo.1
   refine nz hO 1 [] zS zS [] rfl vo rfl (show bg zS V5 (v5 0) from hv5 0 (by decide)) rfl rfl rfl ?_
   intro Lh ji hk0
   replace hO := ji
   clear ji
   clear HO
   have HO := hide hO
   clear hO zo hv5 hne5 hk0
   go_wp2_with fail
   exact Le Tryz.results37 zq rfl rfl rfl (aa HO) rf rfl rfl
 ·
  have k1 : (su [⟨bf, az, ay, ax⟩, ⟨dm, di, dh, df⟩] != 0) = true := by simp [bne, beq_eq_false_iff_ne.2 g0]
  have hr := (aa HR).1 g0
  clear HR
  obtain ⟨rfl, rfl⟩ := hr
  go_upto_region 2 with fail
  refine Rg.ik 2 40 (Rg.pick [Rg.cz (.int .i64 (su [⟨bf, az, ay, ax⟩, ⟨dm, di, dh, df⟩])), Rg.cz (.bool true)]) (dw w [(w.heap.size + 2, 41, zS), (w.heap.size + 1, 41, [iv dm, iv di, iv dh, iv df]), (w.heap.size, 41, [iv bf, iv az, iv ay, iv ax])] V1) jb [] kr rfl (Rg.iq.pick ⟨Rg.ag _, Rg.ag _, trivial⟩) (dw.begin (aa HO))
   (ah (il rfl (Rg.gm kr rfl))
   (ah (Co rfl (Rg.ai 0 kr) (Rg.lv _) rfl k1)
   Rg.fq)) ?_
  intro v2 V2 hG2 hv2 hne2
  simp only [Rg.puts, ko, kg, jy, jw, Act.put, jr, jq, jo]
  have e1 : v2 1 = .bool true := hv2 1 (by decide)
  simp only [e1]
  have hO := hG2.1
  clear HO
  have HO := hide hO
  clear hO hG2 hv2 hne2
  try clear e1
  go_upto_region 3 with fail
  refine Rg.ik 2 40 (Rg.pick [bg zS, Rg.cz (.int .i64 (su [⟨bf, az, ay, ax⟩, ⟨dm, di, dh, df⟩]))]) (dw w [(w.heap.size + 2, 41, zS), (w.heap.size + 1, 41, [iv dm, iv di, iv dh, iv df]), (w.heap.size, 41, [iv bf, iv az, iv ay, iv ax])] V2) jb [] kr rfl (Rg.iq.pick ⟨cu _, Rg.ag _, trivial⟩) (dw.begin (aa HO))
   (ah (Ca Ce rfl rfl rfl)
   (ah (il rfl (Rg.gm kr rfl))
   Rg.fq)) ?_
  intro v3 V3 hG3 hv3 si
  simp only [Rg.puts, ko, kg, jy, jw, Act.put, jr, jq, jo]
  have e1 : v3 1 = .int .i64 (su [⟨bf, az, ay, ax⟩, ⟨dm, di, dh, df⟩]) := hv3 1 (by decide)
  simp only [e1]
  have hO := hG3.1
  refine nz hO 0 [] zS zS [] rfl vo rfl (show bg zS V3 (v3 0) from hv3 0 (by decide)) rfl rfl rfl ?_
  intro Ik ji hk0
  replace hO := ji
  clear ji
  clear HO
  have HO := hide hO
  clear hO hG3 hv3 si hk0
  try clear e1
  go_wp2_with fail
  exact Le Tryz.results37 zq rfl rfl rfl (aa HO) me0 rfl rfl
end Sb

end Go.Proofs.YtfbcdfoohpkfeaaGreatDoor
