/- Texts beneath a law of layer 1. -/
import Derived.Test.YtjdnmdlnaoedoaaGreatDoorCu15
set_option maxRecDepth 100000
set_option maxHeartbeats 16000000
namespace Go.Proofs.YtjdnmdlnaoedoaaGreatDoor
open Go.RowKit

namespace Sb
section
variable {P : Program} {F : Nat} {vs : Array Value} {W : World}
theorem aaf {a b X Y : Rat} (hX : X = a) (hY : Y = b) (h : Calls P F vs W (il (ai [.q a, .q b]) W)) : Calls P F vs W (il (ai [.q X, .q Y]) W) := by subst hX hY; exact h
theorem aae {a b X Y : Rat} (hX : X = a) (hY : Y = b) (h : Calls P F vs W (il (ai [.r a, .r b]) W)) : Calls P F vs W (il (ai [.r X, .r Y]) W) := by subst hX hY; exact h
theorem aac {t u : Er} (e : t = u) (h : Calls P F vs W (il (Im u) W)) : Calls P F vs W (il (Im t) W) := by subst e; exact h
end
theorem avj {df cz di dh pq pg oz ou : Int} {g : Int} (FN : Nat) (fn : Func) (X Y p q r s : Rat) (t : Er) (w : World) (hT : qy w) (u0 : Value) (h0 : ai [iv df, iv cz, iv di, iv dh] w u0) (u1 : Value) (h1 : ai [iv pq, iv pg, iv oz, iv ou] w u1)
  (hv : p = (Wd.qR df cz) ∧ q = (Wd.qR di dh) ∧ r = (Wd.qR pq pg) ∧ s = (Wd.qR oz ou))
  (hF : Tryz.prog.funcs[FN]? = some fn ∧ (!(fn.name == "runtime.NumGoroutine") && fn.body.isSome) = true)
  (hcb : ∀ (W : World) (v0 v1 : Value), qy W → (xy df cz di dh ∧ xy pq pg oz ou ∧ 1 ≤ g ∧ g ≤ 1000000) → ai [.q p, .q q] W v0 → ai [.q r, .q s] W v1 → Calls Tryz.prog FN #[v0, v1] W (il (ai [.q X, .q Y]) W))
  (hsm : (xy df cz di dh ∧ xy pq pg oz ou ∧ 1 ≤ g ∧ g ≤ 1000000) → Sm (2 + 1) X ∧ Sm (2 + 1) Y)
  (hok : oq (Az [⟨df, cz, di, dh⟩, ⟨pq, pg, oz, ou⟩]) g = 0 → (xy df cz di dh ∧ xy pq pg oz ou ∧ 1 ≤ g ∧ g ≤ 1000000))
  (hr : (oq (Az [⟨df, cz, di, dh⟩, ⟨pq, pg, oz, ou⟩]) g ≠ 0 → t = ⟨0, 0, 0, 0, oq (Az [⟨df, cz, di, dh⟩, ⟨pq, pg, oz, ou⟩]) g⟩) ∧ (oq (Az [⟨df, cz, di, dh⟩, ⟨pq, pg, oz, ou⟩]) g = 0 → t = Ea (xw X g) (Dj Y g))) :
  Calls Tryz.prog 148 #[u0, u1, .int .i64 g, .func (.func FN) #[] #[]] w (il (Im t) w) := by
 have HV := hide hv
 clear hv
 have HFN := hide hF
 have HCB := hide hcb
 have Ga := hide hsm
 have Jr := hide hok
 have HR := hide hr
 have HT := hide hT
 clear hF hcb hsm hok hr hT
 have hu0 := Bg h0
 subst hu0
 have hu1 := Bg h1
 subst hu1
 go_enter Tryz.func148, Tryz.ntmps148
 go_upto_region 1 with fail
 have hO := (Own.push (T := 41) (ls := zS) (cs := [.int .i64 0, .int .i64 0, .int .i64 0, .int .i64 0]) (Own.push (T := 41) (ls := [iv pq, iv pg, iv oz, iv ou]) (cs := [.int .i64 pq, .int .i64 pg, .int .i64 oz, .int .i64 ou]) (Own.push (T := 41) (ls := [iv df, iv cz, iv di, iv dh]) (cs := [.int .i64 df, .int .i64 cz, .int .i64 di, .int .i64 dh]) (Own.nil w) (gu.v (jm _) (gu.v (jm _) (gu.v (jm _) (gu.v (jm _) rfl)))) (w.heap.size) rfl) (((gu.v (jm _) (gu.v (jm _) (gu.v (jm _) (gu.v (jm _) rfl)))) : gu w [iv pq, iv pg, iv oz, iv ou] [.int .i64 pq, .int .i64 pg, .int .i64 oz, .int .i64 ou]).below (by repeat (first | exact Below.refl _ _ | refine jc ?_ _))) (w.heap.size + 1) (by simp only [World.size_alloc])) (((gu.vs w [.int .i64 0, .int .i64 0, .int .i64 0, .int .i64 0] rfl) : gu w zS [.int .i64 0, .int .i64 0, .int .i64 0, .int .i64 0]).below (by repeat (first | exact Below.refl _ _ | refine jc ?_ _))) (w.heap.size + 2) (by simp only [World.size_alloc]))
 generalize ((w.alloc (.cells #[.int .i64 df, .int .i64 cz, .int .i64 di, .int .i64 dh] 41)).alloc (.cells #[.int .i64 pq, .int .i64 pg, .int .i64 oz, .int .i64 ou] 41)).alloc (.cells #[.int .i64 0, .int .i64 0, .int .i64 0, .int .i64 0] 41) = W0 at *
 have HO := hide hO
 clear hO
 go_upto_region 1 with fail
 refine Rg.dz 7 32 (Rg.pick [ai [iv df, iv cz, iv di, iv dh], ai [iv pq, iv pg, iv oz, iv ou], Qw 41 2 [iv df, iv cz, iv di, iv dh, iv pq, iv pg, iv oz, iv ou], Rg.ax (.int .i64 (Az [⟨df, cz, di, dh⟩, ⟨pq, pg, oz, ou⟩])), Rg.ax (.int .i64 g), Rg.ax (.int .i64 (oq (Az [⟨df, cz, di, dh⟩, ⟨pq, pg, oz, ou⟩]) g)), Rg.ax (.int .i64 (oq (Az [⟨df, cz, di, dh⟩, ⟨pq, pg, oz, ou⟩]) g))]) (az w _ W0) gm [] kr rfl (Rg.fq.pick ⟨au _, au _, Jj _ _ _, Rg.ae _, Rg.ae _, Rg.ae _, Rg.ae _, trivial⟩) (az.begin (aa HO))
  (ag (fw oh rf aF [] [iv df, iv cz, iv di, iv dh] [])
  (ag (fw oh ky aF [] [iv pq, iv pg, iv oz, iv ou] [])
  (ag (Ey (ps := [(0, .tmp 11), (1, .tmp 12)]) (gs := [[iv df, iv cz, iv di, iv dh], [iv pq, iv pg, iv oz, iv ou]]) amx rfl az.step rfl (uq.cons (aT 0) rfl (uq.cons (aT 1) rfl uq.nil)) rfl)
  (ag (sc1 Tryz.func104 (aT 2) (fun W v0 hG h0 => bed (ss := [⟨df, cz, di, dh⟩, ⟨pq, pg, oz, ou⟩]) (by simp) W ((aa HT).below hG.bel) _ h0))
  (ag (dm rfl aF)
  (ag (sc2 Tryz.func94 (aT 3) (aT 4) (fun W v0 v1 hG h0 h1 => by cases h0; cases h1; exact ahu _ _ W))
  (ag (nz rfl (aT 5))
  Rg.bg))))))) ?_
 intro v1 V1 hG1 hv1 hne1
 simp only [Rg.puts, Act.put, tA]
 have e5 : v1 5 = .int .i64 (oq (Az [⟨df, cz, di, dh⟩, ⟨pq, pg, oz, ou⟩]) g) := hv1 5 (by decide)
 have e6 : v1 6 = .int .i64 (oq (Az [⟨df, cz, di, dh⟩, ⟨pq, pg, oz, ou⟩]) g) := hv1 6 (by decide)
 simp only [e5, e6]
 have hO := hG1.1
 clear HO
 have HO := hide hO
 clear hO hG1 hv1 hne1
 try clear e5 e6
 by_cases g0 : oq (Az [⟨df, cz, di, dh⟩, ⟨pq, pg, oz, ou⟩]) g = 0
 ·
  have k1 : (oq (Az [⟨df, cz, di, dh⟩, ⟨pq, pg, oz, ou⟩]) g != 0) = false := by simp [bne, beq_iff_eq.2 g0]
  have hr := (aa HR).2 g0
  have HQ := hide ((aa Jr) g0)
  have HT2 := hide hr
  clear HR Jr hr
  go_upto_region 2 with fail
  refine Rg.dz 2 32 (Rg.pick [Rg.ax (.int .i64 (oq (Az [⟨df, cz, di, dh⟩, ⟨pq, pg, oz, ou⟩]) g)), Rg.ax (.bool false)]) (az w _ V1) gm [] kr rfl (Rg.fq.pick ⟨Rg.ae _, Rg.ae _, trivial⟩) (az.begin (aa HO))
   (ag (dm rfl aF)
   (ag (Au rfl (aT 0) (Rg.je _) rfl k1)
   Rg.bg)) ?_
  intro v2 V2 hG2 hv2 hne2
  simp only [Rg.puts, Act.put, tA]
  have e1 : v2 1 = .bool false := hv2 1 (by decide)
  simp only [e1]
  have hO := hG2.1
  clear HO
  have HO := hide hO
  clear hO hG2 hv2 hne2
  try clear e1
  clear k1 g0
  go_upto_region 4 with fail
  refine Rg.region 13 32 (Rg.pick [Rg.ax (.func (.func FN) #[] #[]), ai [iv df, iv cz, iv di, iv dh], ai [.q p, .q q], ai [iv pq, iv pg, iv oz, iv ou], ai [.q r, .q s], ai [.q X, .q Y], Rg.ax (.int .i64 g), ai [.q (xw X g), .q (Dj Y g)], qa [ai [iv t.a, iv t.b, iv t.c, iv t.d], Rg.ax (.int .i64 t.e)], ai [iv t.a, iv t.b, iv t.c, iv t.d], Rg.ax (.int .i64 t.e), Wo (w.heap.size + 2, 41, [iv t.a, iv t.b, iv t.c, iv t.d]), Rg.ax (.int .i64 t.e)]) (GS w [(w.heap.size + 2, 41, zS), (w.heap.size + 1, 41, [iv pq, iv pg, iv oz, iv ou]), (w.heap.size, 41, [iv df, iv cz, iv di, iv dh])] (w.heap.size + 2, 41, [iv t.a, iv t.b, iv t.c, iv t.d]) (w.heap.size + 2, 41, [iv t.a, iv t.b, iv t.c, iv t.d])) (ES (w.heap.size + 2, 41, [iv t.a, iv t.b, iv t.c, iv t.d]) (w.heap.size + 2, 41, [iv t.a, iv t.b, iv t.c, iv t.d])) [] kr kr rfl (Rg.fq.pick ⟨(Dk _), (tq _), (tq _), (tq _), (tq _), (tq _), (Dk _), (tq _), (aoh ⟨(tq _), (Dk _), trivial⟩), (tq _), (Dk _), (Fq (.inr rfl) (.inl rfl)), (Dk _), trivial⟩) (GS.start (aa HO))
   (Rg.ay (Rg.plain rfl (mq (dm rfl aF)))
    (Rg.ay (Rg.plain rfl (mq (xk (b := w.heap.size) (off := 0) (TB := 41) (pre := []) (mid := [iv df, iv cz, iv di, iv dh]) (post := []) oh rfl aF (fun W h => GS.get rf (fun h => absurd (show (w.heap.size + 2 : Nat) = w.heap.size from h) (by first | omega | (intro h; exact _root_.trivial h))) (fun h => absurd (show (w.heap.size + 2 : Nat) = w.heap.size from h) (by first | omega | (intro h; exact _root_.trivial h))) h) rfl rfl rfl)))
    (Rg.ay (Rg.plain rfl (mq (wh Tryz.func95 kr rfl GS.step (aT 1) (fun W v0 hG h0 => aaf (aa HV).1 (aa HV).2.1 (Wi ⟨(aa HQ).1.1, (aa HQ).1.2.1⟩ W _ h0)))))
    (Rg.ay (Rg.plain rfl (mq (xk (b := w.heap.size + 1) (off := 0) (TB := 41) (pre := []) (mid := [iv pq, iv pg, iv oz, iv ou]) (post := []) oh rfl aF (fun W h => GS.get ky (fun h => absurd (show (w.heap.size + 2 : Nat) = w.heap.size + 1 from h) (by first | omega | (intro h; exact _root_.trivial h))) (fun h => absurd (show (w.heap.size + 2 : Nat) = w.heap.size + 1 from h) (by first | omega | (intro h; exact _root_.trivial h))) h) rfl rfl rfl)))
    (Rg.ay (Rg.plain rfl (mq (wh Tryz.func95 kr rfl GS.step (aT 3) (fun W v0 hG h0 => aaf (aa HV).2.2.1 (aa HV).2.2.2 (Wi ⟨(aa HQ).2.1.1, (aa HQ).2.1.2.1⟩ W _ h0)))))
    (Rg.ay (Rg.plain rfl (mq (asy (aa HFN).1 (aa HFN).2 rfl GS.step (aT 0) (aT 2) (aT 4) (fun W v0 v1 hG h0 h1 => aa HCB W v0 v1 ((aa HT).below hG.bel) (aa HQ) h0 h1))))
    (Rg.ay (Rg.plain rfl (mq (dm rfl aF)))
    (Rg.ay (Rg.plain rfl (mq (yu Tryz.func96 kr rfl GS.step (aT 5) (aT 6) (fun W v0 v1 hG h0 h1 => by cases h1; exact Wj ((aa Ga) (aa HQ)).1 ((aa Ga) (aa HQ)).2 (aa HQ).2.2.1 (aa HQ).2.2.2 om W ((aa HT).below hG.bel) _ h0))))
    (Rg.ay (Rg.plain rfl (mq (wh Tryz.func97 kr rfl GS.step (aT 7) (fun W v0 hG h0 => aac (aa HT2) (ahr W _ h0)))))
    (Rg.ay (Rg.plain rfl (mq (ma (ts := [ai [iv t.a, iv t.b, iv t.c, iv t.d], Rg.ax (.int .i64 t.e)]) rfl (aT 8) (of_decide_eq_true rfl) rfl)))
    (Rg.ay (Rg.plain rfl (mq (ma (ts := [ai [iv t.a, iv t.b, iv t.c, iv t.d], Rg.ax (.int .i64 t.e)]) rfl (aT 8) (of_decide_eq_true rfl) rfl)))
    (Rg.ay (Rg.plain rfl (Fs (b := w.heap.size + 2) (old := zS) (new := [iv t.a, iv t.b, iv t.c, iv t.d]) mg rfl aF (aT 9) me0 (aa HO).nd (.inl rfl) (.inr rfl) rfl rfl rfl))
    (Rg.ay (Rg.plain rfl (mq (nz rfl (aT 10))))
    Rg.bg))))))))))))) ?_
  intro v3 V3 hG3 hv3 mf
  simp only [Rg.puts, Act.put, tA]
  have e0 : v3 0 = .func (.func FN) #[] #[] := hv3 0 (by decide)
  have e6 : v3 6 = .int .i64 g := hv3 6 (by decide)
  have e10 : v3 10 = .int .i64 t.e := hv3 10 (by decide)
  have e12 : v3 12 = .int .i64 t.e := hv3 12 (by decide)
  simp only [e0, e6, e10, e12]
  have hO : Own w [(w.heap.size + 2, 41, [iv t.a, iv t.b, iv t.c, iv t.d]), (w.heap.size + 1, 41, [iv pq, iv pg, iv oz, iv ou]), (w.heap.size, 41, [iv df, iv cz, iv di, iv dh])] V3 := by
   refine ⟨hG3.bel, (aa HO).nd, fun b T ls hm => ?_⟩
   rcases List.mem_cons.1 hm with e | hm
   ·
    cases e; exact ⟨(hG3.box _ _ _ me0).1, hv3 11 (by decide)⟩
   rcases List.mem_cons.1 hm with e | hm
   ·
    cases e; exact ⟨(hG3.box _ _ _ ky).1, GS.get ky (fun h => absurd (show (w.heap.size + 2 : Nat) = w.heap.size + 1 from h) (by first | omega | (intro h; exact _root_.trivial h))) (fun h => absurd (show (w.heap.size + 2 : Nat) = w.heap.size + 1 from h) (by first | omega | (intro h; exact _root_.trivial h))) hG3⟩
   rcases List.mem_cons.1 hm with e | hm
   ·
    cases e; exact ⟨(hG3.box _ _ _ rf).1, GS.get rf (fun h => absurd (show (w.heap.size + 2 : Nat) = w.heap.size from h) (by first | omega | (intro h; exact _root_.trivial h))) (fun h => absurd (show (w.heap.size + 2 : Nat) = w.heap.size from h) (by first | omega | (intro h; exact _root_.trivial h))) hG3⟩
   cases hm
  clear HO
  have HO := hide hO
  clear hO hG3 hv3 mf
  try clear e0 e6 e10 e12
  go_wp2_with fail
  exact yz Tryz.results148 qg rfl rfl (aa HO) me0 rfl rfl
 ·
  have k1 : (oq (Az [⟨df, cz, di, dh⟩, ⟨pq, pg, oz, ou⟩]) g != 0) = true := by simp [bne, beq_eq_false_iff_ne.2 g0]
  have hr := (aa HR).1 g0
  clear HR
  subst hr
  clear Jr
  go_upto_region 2 with fail
  refine Rg.dz 2 32 (Rg.pick [Rg.ax (.int .i64 (oq (Az [⟨df, cz, di, dh⟩, ⟨pq, pg, oz, ou⟩]) g)), Rg.ax (.bool true)]) (az w _ V1) gm [] kr rfl (Rg.fq.pick ⟨Rg.ae _, Rg.ae _, trivial⟩) (az.begin (aa HO))
   (ag (dm rfl aF)
   (ag (Au rfl (aT 0) (Rg.je _) rfl k1)
   Rg.bg)) ?_
  intro v2 V2 hG2 hv2 hne2
  simp only [Rg.puts, Act.put, tA]
  have e1 : v2 1 = .bool true := hv2 1 (by decide)
  simp only [e1]
  have hO := hG2.1
  clear HO
  have HO := hide hO
  clear hO hG2 hv2 hne2
  try clear e1
  go_upto_region 3 with fail
  refine Rg.dz 2 32 (Rg.pick [ai zS, Rg.ax (.int .i64 (oq (Az [⟨df, cz, di, dh⟩, ⟨pq, pg, oz, ou⟩]) g))]) (az w _ V2) gm [] kr rfl (Rg.fq.pick ⟨au _, Rg.ae _, trivial⟩) (az.begin (aa HO))
   (ag (ui uj rfl rfl rfl)
   (ag (dm rfl aF)
   Rg.bg)) ?_
  intro v3 V3 hG3 hv3 mf
  simp only [Rg.puts, Act.put, tA]
  have e1 : v3 1 = .int .i64 (oq (Az [⟨df, cz, di, dh⟩, ⟨pq, pg, oz, ou⟩]) g) := hv3 1 (by decide)
  simp only [e1]
  have hO := hG3.1
  refine jd hO 0 [] zS zS [] rfl mg rfl (show ai zS V3 (v3 0) from hv3 0 (by decide)) rfl rfl rfl ?_
  intro Da gy hk0
  replace hO := gy
  clear gy
  clear HO
  have HO := hide hO
  clear hO hG3 hv3 mf hk0
  try clear e1
  go_wp2_with fail
  exact yz Tryz.results148 qg rfl rfl (aa HO) me0 rfl rfl
theorem avk {df cz di dh pq pg oz ou : Int} {g : Int} (FN : Nat) (fn : Func) (X Y : Rat) (t : Er) (w : World) (hT : qy w) (u0 : Value) (h0 : ai [iv df, iv cz, iv di, iv dh] w u0) (u1 : Value) (h1 : ai [iv pq, iv pg, iv oz, iv ou] w u1)
  (hF : Tryz.prog.funcs[FN]? = some fn ∧ (!(fn.name == "runtime.NumGoroutine") && fn.body.isSome) = true)
  (hcb : ∀ (W : World) (v0 v1 : Value), qy W → (xy df cz di dh ∧ xy pq pg oz ou ∧ 1 ≤ g ∧ g ≤ 1000000) → ai [.q (Wd.qR df cz), .q (Wd.qR di dh)] W v0 → ai [.q (Wd.qR pq pg), .q (Wd.qR oz ou)] W v1 → Calls Tryz.prog FN #[v0, v1] W (il (ai [.q X, .q Y]) W))
  (hsm : (xy df cz di dh ∧ xy pq pg oz ou ∧ 1 ≤ g ∧ g ≤ 1000000) → Sm (2 + 1) X ∧ Sm (2 + 1) Y)
  (hok : oq (Az [⟨df, cz, di, dh⟩, ⟨pq, pg, oz, ou⟩]) g = 0 → (xy df cz di dh ∧ xy pq pg oz ou ∧ 1 ≤ g ∧ g ≤ 1000000))
  (hr : (oq (Az [⟨df, cz, di, dh⟩, ⟨pq, pg, oz, ou⟩]) g ≠ 0 → t = ⟨0, 0, 0, 0, oq (Az [⟨df, cz, di, dh⟩, ⟨pq, pg, oz, ou⟩]) g⟩) ∧ (oq (Az [⟨df, cz, di, dh⟩, ⟨pq, pg, oz, ou⟩]) g = 0 → t = Ea (xw X g) (Dj Y g))) :
  Calls Tryz.prog 148 #[u0, u1, .int .i64 g, .func (.func FN) #[] #[]] w (il (Im t) w) := avj FN fn X Y _ _ _ _ t w hT u0 h0 u1 h1 ⟨rfl, rfl, rfl, rfl⟩ hF hcb hsm hok hr
theorem azl {df cz di dh pq pg oz ou : Int} {g : Int} (h : oq (Az [⟨df, cz, di, dh⟩, ⟨pq, pg, oz, ou⟩]) g = 0) : xy df cz di dh ∧ xy pq pg oz ou ∧ 1 ≤ g ∧ g ≤ 1000000 := by
 obtain ⟨h1, h2, h3⟩ := bds h
 exact ⟨h1 ⟨df, cz, di, dh⟩ (by simp), h1 ⟨pq, pg, oz, ou⟩ (by simp), h2, h3⟩
end Sb

end Go.Proofs.YtjdnmdlnaoedoaaGreatDoor
namespace Go.Proofs.YtjdnmdlnaoedoaaGreatDoor
open Go.RowKit

namespace Sb
theorem Ha : 1 < eu := by rw [gp]; omega
theorem Sr {K : Nat} {n d : Int} (hd : d ≠ 0) (hn : Wd.Sz eu K n) (hdd : Wd.Sz eu K d) : Wd.Ag eu K (Rat.divInt n d) := by
 obtain ⟨h1, h2⟩ := Wd.Pt n d hd
 exact ⟨by rw [h1]; exact hn.tdiv _, by rw [h2]; exact hdd.tdiv _⟩
theorem qd.mono {K L : Nat} {x : Rat} (h : qd K x) (hk : K ≤ L) (hl : L ≤ 1000000) : qd L x := ⟨⟨h.1.1.mono Ha hk, h.1.2.mono Ha hk⟩, hl⟩
theorem qd.mul {K : Nat} {x y : Rat} (hx : qd K x) (hy : qd K y) (h : K + K ≤ 1000000) : qd (K + K) (x * y) := by
 refine ⟨?_, h⟩
 rw [Wd.alz]
 have d1 := x.den_nz; have d2 := y.den_nz
 exact Sr (Int.mul_ne_zero om om) (hx.1.1.mul hy.1.1) (hx.1.2.mul hy.1.2)
theorem qd.add {K : Nat} {x y : Rat} (hx : qd K x) (hy : qd K y) (h : K + K + 1 ≤ 1000000) : qd (K + K + 1) (x + y) := by
 refine ⟨?_, h⟩
 rw [Wd.anf]
 have d1 := x.den_nz; have d2 := y.den_nz
 exact Sr (Int.mul_ne_zero om om) ((hx.1.1.mul hy.1.2).add Ha (hy.1.1.mul hx.1.2)) ((hx.1.2.mul hy.1.2).mono Ha om)
theorem qd.neg {K : Nat} {x : Rat} (hx : qd K x) : qd K (-x) := ⟨⟨by rw [Rat.neg_num]; exact hx.1.1.neg, by rw [Rat.neg_den]; exact hx.1.2⟩, hx.2⟩
theorem qd.inv {K : Nat} {x : Rat} (hx : qd K x) (h0 : x.num ≠ 0) : qd K (x⁻¹) := by
 have hp := Wd.Vk x h0
 refine ⟨?_, hx.2⟩
 by_cases hn : x.num < 0
 ·
  exact ⟨by rw [(hp.1 hn).1]; exact hx.1.2.neg, by rw [(hp.1 hn).2]; exact hx.1.1.neg⟩
 ·
  exact ⟨by rw [(hp.2 hn).1]; exact hx.1.2, by rw [(hp.2 hn).2]; exact hx.1.1⟩
theorem aej {K : Nat} {z : Int} (h : Wd.Sz eu (K + 1) z) (hK : K + 1 ≤ 1000000) : qd (K + 1) (Rat.divInt z 1) := ⟨Sr (by omega) h (Wd.Sz.of_le (by rw [gp]; omega) Ha om), hK⟩
theorem acx {K : Nat} {a : Int} (h : Wd.Sz eu K a) (b : Int) : Wd.Sz eu K (a / b) := h.le (Int.natAbs_ediv_le_natAbs a b)
theorem azk (a g : Int) : Rat.divInt a 1 / Rat.divInt g 1 = Rat.divInt a g := by
 rw [Rat.div_def, Rat.inv_divInt, Rat.divInt_mul_divInt] <;> simp
theorem bge (a : Int) : -Rat.divInt a 1 = Rat.divInt (-a) 1 := by rw [Rat.neg_divInt]
section
variable {W : World} {v0 v1 : Value} {x y : Rat} {K : Nat}
theorem ael (hx : qd (K + 1) x) (hn : x.num ≠ 0) (h0 : ai [.r x] W v0) : Calls Tryz.prog 75 #[v0] W (il (ai [.r (x⁻¹)]) W) := by
 obtain ⟨A1, c1, l1, m1, A2, c2, l2, m2, rfl, h1⟩ := Ue h0
 refine (anx (K + 1) A1 c1 l1 m1 A2 c2 l2 m2 x W h1 hx.1 om (by have := hx.2; omega) hn).mono fun e w' h => ?_
 have h2 := Jw (Ih h)
 rwa [Rat.div_def, show Rat.divInt 1 1 = 1 from rfl, Rat.one_mul] at h2
theorem awq (n : Int) (b1 : -9223372036854775808 ≤ n) (b2 : n ≤ 9223372036854775807) (W : World) : Calls Tryz.prog 80 #[.int .i64 n] W (il (ai [.r (Rat.divInt n 1)]) W) :=
 (Go.Proofs.YtjdnmdlnaoedoaaGreatDoor.bgo n b1 b2 W).mono fun e w' h => Jw h
theorem azb (hx : qd K x) (h0 : ai [.r x] W v0) : Calls Tryz.prog 63 #[v0] W (il (ai [.r (Rat.divInt (x.num / (x.den : Int)) 1)]) W) :=
 (Go.Proofs.YtjdnmdlnaoedoaaGreatDoor.Xo hx.1 (by have := hx.2; omega) W v0 (Nr h0)).mono fun e w' h => Jw h
theorem bbi (hx : qd K x) (h0 : ai [.r x] W v0) : Calls Tryz.prog 153 #[v0] W (il (ai [.r (Rat.divInt (-((-x).num / ((-x).den : Int))) 1)]) W) := by
 obtain ⟨A1, c1, l1, m1, A2, c2, l2, m2, rfl, h1⟩ := Ue h0
 refine (ala K A1 c1 l1 m1 A2 c2 l2 m2 x W h1 hx.1 (by have := hx.2; omega)).mono fun e w' h => ?_
 have h2 := Jw (Ih h)
 rwa [bge] at h2
theorem apg {a g : Int} (ha : qd K (Rat.divInt a 1)) (hg : qd K (Rat.divInt g 1)) (g0 : g ≠ 0) (h0 : ai [.r (Rat.divInt a 1)] W v0) (h1 : ai [.r (Rat.divInt g 1)] W v1) : Calls Tryz.prog 54 #[v0, v1] W (il (ai [.r (Rat.divInt a g)]) W) := by
 have h := Go.Proofs.YtjdnmdlnaoedoaaGreatDoor.bgp ha.1 hg.1 (by have := ha.2; omega) (by rw [(Wd.Bw g).1]; exact g0) W v0 v1 (Nr h0) (Nr h1)
 rw [azk] at h
 exact h.mono fun e w' h => Jw h
end
structure bgt (x y : Rat) (g : Int) (K : Nat) : Prop where
 g1 : 1 ≤ g
 g2 : g ≤ 1000000
 g0 : g ≠ 0
 sx : qd (K + 1) x
 sy : qd (K + 1) y
 sg : qd (K + 1) (Rat.divInt g 1)
 sxg : qd (K + 1 + K + 1) (x * Rat.divInt g 1)
 syg : qd (K + 1 + K + 1) (y * Rat.divInt g 1)
 zx : qd (K + 1 + K + 1) (Rat.divInt ((x * Rat.divInt g 1).num / ((x * Rat.divInt g 1).den : Int)) 1)
 zy : qd (K + 1 + K + 1) (Rat.divInt (-((-(y * Rat.divInt g 1)).num / ((-(y * Rat.divInt g 1)).den : Int))) 1)
 zg : qd (K + 1 + K + 1) (Rat.divInt g 1)
theorem bfv {x y : Rat} {g : Int} {K : Nat} (sx : qd (K + 1) x) (sy : qd (K + 1) y) (g1 : 1 ≤ g) (g2 : g ≤ 1000000) (hK : K + 1 + (K + 1) ≤ 1000000) : bgt x y g K := by
 have sg : qd (K + 1) (Rat.divInt g 1) := aej (Wd.Sz.of_le (by rw [gp]; omega) Ha om) om
 have s1 := sx.mul sg hK
 have s2 := sy.mul sg hK
 exact ⟨g1, g2, by omega, sx, sy, sg, s1, s2, aej (acx s1.1.1 _) hK, aej (acx s2.neg.1.1 _).neg hK, sg.mono om hK⟩
theorem akc {x y : Rat} {g : Int} {K : Nat} (sx : qd (K + 1) x) (sy : qd (K + 1) y) (g1 : 1 ≤ g) (g2 : g ≤ 1000000) (hK : K + 1 + (K + 1) ≤ 1000000) (w : World) (u0 : Value) (h0 : ai [.r x, .r y] w u0) :
  Calls Tryz.prog 93 #[u0, .int .i64 g] w (il (ai [.r (xw x g), .r (Dj y g)]) w) := by
 have HR := hide (bfv sx sy g1 g2 hK)
 clear sx sy g1 g2 hK
 obtain ⟨ru, c0a, rq, Ee, Mx, Mm, Mf, uy, vg, c0b, ve, Ff, Qx, Qr, Qn, ym, rfl, f0a, Aw⟩ := Wm h0
 go_enter Tryz.func93, Tryz.ntmps93
 go_upto_region 1 with fail
 have hO := (Own.push (T := 100) (ls := zY) (cs := [.slice none 0 0, .bool false, .slice none 0 0, .bool false, .slice none 0 0, .bool false, .slice none 0 0, .bool false]) (Own.push (T := 100) (ls := [.r x, .r y]) (cs := [.slice ru (List.length rq) c0a, .bool Ee, .slice Mx (List.length Mf) Mm, .bool uy, .slice vg (List.length ve) c0b, .bool Ff, .slice Qx (List.length Qn) Qr, .bool ym]) (Own.nil w) (gu.r f0a (gu.r Aw rfl)) (w.heap.size) rfl) (((gu.vs w [.slice none 0 0, .bool false, .slice none 0 0, .bool false, .slice none 0 0, .bool false, .slice none 0 0, .bool false] rfl) : gu w zY [.slice none 0 0, .bool false, .slice none 0 0, .bool false, .slice none 0 0, .bool false, .slice none 0 0, .bool false]).below (by repeat (first | exact Below.refl _ _ | refine jc ?_ _))) (w.heap.size + 1) (by simp only [World.size_alloc]))
 generalize (w.alloc (.cells #[.slice ru (List.length rq) c0a, .bool Ee, .slice Mx (List.length Mf) Mm, .bool uy, .slice vg (List.length ve) c0b, .bool Ff, .slice Qx (List.length Qn) Qr, .bool ym] 100)).alloc (.cells #[.slice none 0 0, .bool false, .slice none 0 0, .bool false, .slice none 0 0, .bool false, .slice none 0 0, .bool false] 100) = W0 at *
 have HO := hide hO
 clear hO
 go_upto_region 1 with fail
 refine Rg.dz 3 23 (Rg.pick [Rg.ax (.int .i64 g), ai [.r (Rat.divInt g 1)], qf 63 zX W0.heap.size]) (az w _ W0) gm [2] kr rfl (Rg.fq.pick ⟨Rg.ae _, au _, qh _ _ _, trivial⟩) (az.begin (aa HO))
  (ag (dm rfl aF)
  (ag (sc1 Tryz.func80 (aT 0) (fun W v0 hG h0 => by cases h0; exact awq g (by have := (aa HR).g1; omega) (by have := (aa HR).g2; omega) W))
  (ag (si awu rfl az.step az.size rfl (uw (by intro j hj; simp at hj; (repeat' (first | (rcases hj with rfl | hj))) <;> first | (subst hj; exact ⟨_, _, _, rfl⟩) | exact ⟨_, _, _, rfl⟩)))
  Rg.bg))) ?_
 intro v1 V1 hG1 hv1 hne1
 simp only [Rg.puts, Act.put, tA]
 obtain ⟨bqx, e2, Vu, hz2⟩ := (show qf 63 zX W0.heap.size V1 (v1 2) from hv1 2 (by decide))
 simp only [e2]
 have hO := hG1.1
 replace hO := Own.add (aa HO) hG1.2 Vu hz2
 clear Vu hz2
 refine jd hO 0 [] zX [.r (Rat.divInt g 1)] [] rfl Bp rfl (show ai [.r (Rat.divInt g 1)] V1 (v1 1) from hv1 1 (by decide)) rfl rfl rfl ?_
 intro uo gy hk0
 replace hO := gy
 clear gy
 clear HO
 have HO := hide hO
 clear hO hG1 hv1 hne1 hk0
 try clear e2
 go_upto_region 2 with fail
 refine Rg.region 15 23 (Rg.pick [Rg.ax (.pointer (some ⟨w.heap.size, 0, none⟩)), ai [.r x], ai [.r (Rat.divInt g 1)], ai [.r (x * Rat.divInt g 1)], ai [.r (Rat.divInt ((x * Rat.divInt g 1).num / ((x * Rat.divInt g 1).den : Int)) 1)], ai [.r (Rat.divInt g 1)], ai [.r (xw x g)], Rg.ax (.pointer (some ⟨w.heap.size, 4, none⟩)), ai [.r y], ai [.r (Rat.divInt g 1)], ai [.r (y * Rat.divInt g 1)], ai [.r (Rat.divInt (-((-(y * Rat.divInt g 1)).num / ((-(y * Rat.divInt g 1)).den : Int))) 1)], ai [.r (Rat.divInt g 1)], ai [.r (Dj y g)], ai [.r (xw x g), .r (Dj y g)]]) (az w _ uo) gm [] kr kr rfl (Rg.fq.pick ⟨Rg.ae _, au _, au _, au _, au _, au _, au _, Rg.ae _, au _, au _, au _, au _, au _, au _, au _, trivial⟩) (az.start (aa HO))
  (ag (zf (b := w.heap.size) (off := 0) rfl aF rfl rfl)
  (ag (fw ll rf (aT 0) [] [.r x] [.r y])
  (ag (fw ll me0 aF [] [.r (Rat.divInt g 1)] [])
  (ag (sc2 Tryz.func52 (aT 1) (aT 2) (fun W v0 v1 hG h0 h1 => aek (aa HR).sx (aa HR).sg h0 h1))
  (ag (sc1 Tryz.func63 (aT 3) (fun W v0 hG h0 => azb (aa HR).sxg h0))
  (ag (fw ll me0 aF [] [.r (Rat.divInt g 1)] [])
  (ag (sc2 Tryz.func54 (aT 4) (aT 5) (fun W v0 v1 hG h0 h1 => apg (aa HR).zx (aa HR).zg (aa HR).g0 h0 h1))
  (ag (xm (b := w.heap.size) (off := 0) rfl aF rfl rfl)
  (ag (fw ll rf (aT 7) [.r x] [.r y] [])
  (ag (fw ll me0 aF [] [.r (Rat.divInt g 1)] [])
  (ag (sc2 Tryz.func52 (aT 8) (aT 9) (fun W v0 v1 hG h0 h1 => aek (aa HR).sy (aa HR).sg h0 h1))
  (ag (sc1 Tryz.func153 (aT 10) (fun W v0 hG h0 => bbi (aa HR).syg h0))
  (ag (fw ll me0 aF [] [.r (Rat.divInt g 1)] [])
  (ag (sc2 Tryz.func54 (aT 11) (aT 12) (fun W v0 v1 hG h0 h1 => apg (aa HR).zy (aa HR).zg (aa HR).g0 h0 h1))
  (ag (xx ach rfl (aT 6) (aT 13) rfl rfl rfl)
  Rg.bg))))))))))))))) ?_
 intro v2 V2 hG2 hv2 hne2
 simp only [Rg.puts, Act.put, tA]
 have hO := hG2.1
 refine jd hO 1 [] zY [.r (xw x g), .r (Dj y g)] [] rfl Jh rfl (show ai [.r (xw x g), .r (Dj y g)] V2 (v2 14) from hv2 14 (by decide)) rfl rfl rfl ?_
 intro yg gy hk0
 replace hO := gy
 clear gy
 clear HO
 have HO := hide hO
 clear hO hG2 hv2 hne2 hk0
 go_wp2_with fail
 exact xu Tryz.results93 Kv rfl (aa HO) ky rfl rfl
end Sb

end Go.Proofs.YtjdnmdlnaoedoaaGreatDoor
namespace Go.Proofs.YtjdnmdlnaoedoaaGreatDoor
open Go.RowKit

theorem Qf (g : Int) (b : Bool) (hb : b = decide (1 ≤ g ∧ g ≤ 1000000)) (w : World) : Calls Tryz.prog 65 #[.int .i64 g] w fun e w' => e = .returned (.bool b) ∧ w' = w := by
 by_cases h1 : 1 ≤ g
 ·
  by_cases h2 : g ≤ 1000000
  ·
   obtain rfl : b = true := by rw [hb]; exact decide_eq_true ⟨h1, h2⟩
   have d1 : decide (1 ≤ g) = true := decide_eq_true h1
   have d2 : decide (g ≤ 1000000) = true := decide_eq_true h2
   clear hb h1 h2
   go_enter Tryz.func65, Tryz.ntmps65
   go_wp2
   all_goals first | go_ret | skip
   all_goals exact ⟨rfl, rfl⟩
  ·
   obtain rfl : b = false := by rw [hb]; exact decide_eq_false om
   have d1 : decide (1 ≤ g) = true := decide_eq_true h1
   have d2 : decide (g ≤ 1000000) = false := decide_eq_false h2
   clear hb h1 h2
   go_enter Tryz.func65, Tryz.ntmps65
   go_wp2
   all_goals first | go_ret | skip
   all_goals exact ⟨rfl, rfl⟩
 ·
  obtain rfl : b = false := by rw [hb]; exact decide_eq_false om
  have d1 : decide (1 ≤ g) = false := decide_eq_false h1
  clear hb h1
  go_enter Tryz.func65, Tryz.ntmps65
  go_wp2
  all_goals first | go_ret | skip
  all_goals exact ⟨rfl, rfl⟩
end Go.Proofs.YtjdnmdlnaoedoaaGreatDoor
namespace Go.Proofs.YtjdnmdlnaoedoaaGreatDoor
open Go.RowKit

namespace Sb
theorem bbh {ρ : Operand → Value} {w : World} {d : Option Tmp} {ty : TypeId} {pos : String} {af : Array Edge} {gd : Option (Nat × Bool)} :
  (execOp ρ { dst := d, op := .build 63 #[], type := ty, pos := pos, after := af, guard := gd }).run Tryz.prog w = .ok (.value (.agg #[.slice none 0 0, .bool false, .slice none 0 0, .bool false])) w := avu ρ w d ty pos af gd
theorem aph (W : World) : QV W none 0 [] false none 0 [] false (Rat.divInt 0 1) :=
 have h0 : ik W none 0 [] false 0 := ⟨qo.Qz W 0 om, rfl⟩
 ⟨h0, 0, h0, .inr ⟨rfl, rfl⟩⟩
theorem asx {Q : Exit → Act → World → Prop} {l : List Oper} {n : Nat} {T : Nat → World → Value → Prop} {G : World → Prop} {al : List Nat} {a0 : Act} {k d : Nat} {ty : TypeId} {pos : String} {af : Array Edge} {gd : Option (Nat × Bool)} (hal : al.contains k = false) (hT : T k = ai [.r (Rat.divInt 0 1)]) : Rg.Step Tryz.prog Q l n T G gm al a0 k { dst := some d, op := .build 63 #[], type := ty, pos := pos, after := af, guard := gd } := by
 intro a w hG hO hN
 exact pz (P := Tryz.prog) bbh ⟨_, rfl, hG, Below.refl _ _, by rw [hT]; exact ⟨_, rfl, gu.r (l1 := []) (l2 := []) (aph w) rfl⟩, fun h => by rw [hal] at h; cases h⟩
section
variable {p q r s a b : Rat}
end
end Sb

end Go.Proofs.YtjdnmdlnaoedoaaGreatDoor
namespace Go.Proofs.YtjdnmdlnaoedoaaGreatDoor
open Go.RowKit

namespace Sb
theorem azm {df cz di dh g : Int} (h : oq (nk df cz di dh) g = 0) : xy df cz di dh ∧ 1 ≤ g ∧ g ≤ 1000000 := by
 unfold oq nk at h
 by_cases k : xy df cz di dh
 ·
  rw [if_pos k] at h
  by_cases k2 : g < 1 ∨ 1000000 < g
  ·
   rw [if_pos ⟨rfl, k2⟩] at h; omega
  ·
   exact ⟨k, by omega, by omega⟩
 ·
  rw [if_neg k, if_neg (fun h => absurd h.1 (by decide))] at h
  omega
theorem azn {df cz di dh g : Int} (h : xy df cz di dh ∧ 1 ≤ g ∧ g ≤ 1000000) : oq (nk df cz di dh) g = 0 := by
 unfold oq nk
 rw [if_pos h.1]
 exact if_neg (fun k => by omega)
theorem ahd {df cz di dh g : Int} (h : ¬ (xy df cz di dh ∧ 1 ≤ g ∧ g ≤ 1000000)) : oq (nk df cz di dh) g = 1 := by
 unfold oq nk
 by_cases k : xy df cz di dh
 ·
  rw [if_pos k]
  refine if_pos ⟨rfl, ?_⟩
  by_cases k2 : 1 ≤ g ∧ g ≤ 1000000
  ·
   exact absurd ⟨k, k2⟩ h
  ·
   omega
 ·
  rw [if_neg k]; exact if_neg (fun h => absurd h.1 (by decide))
theorem atp {df cz di dh g : Int} (t : Er) (w : World) (hT : qy w) (u0 : Value) (h0 : ai [iv df, iv cz, iv di, iv dh] w u0)
  (hr : (oq (nk df cz di dh) g ≠ 0 → t = ⟨0, 0, 0, 0, oq (nk df cz di dh) g⟩) ∧ (oq (nk df cz di dh) g = 0 → t = Ea (xw (Wd.qR df cz) g) (Dj (Wd.qR di dh) g))) :
  Calls Tryz.prog 29 #[u0, .int .i64 g] w (il (Im t) w) := by
 have HR := hide hr
 have HT := hide hT
 clear hr hT
 have hu0 := Bg h0
 subst hu0
 go_enter Tryz.func29, Tryz.ntmps29
 go_upto_region 1 with fail
 have hO := (Own.push (T := 41) (ls := zS) (cs := [.int .i64 0, .int .i64 0, .int .i64 0, .int .i64 0]) (Own.push (T := 41) (ls := [iv df, iv cz, iv di, iv dh]) (cs := [.int .i64 df, .int .i64 cz, .int .i64 di, .int .i64 dh]) (Own.nil w) (gu.v (jm _) (gu.v (jm _) (gu.v (jm _) (gu.v (jm _) rfl)))) (w.heap.size) rfl) (((gu.vs w [.int .i64 0, .int .i64 0, .int .i64 0, .int .i64 0] rfl) : gu w zS [.int .i64 0, .int .i64 0, .int .i64 0, .int .i64 0]).below (by repeat (first | exact Below.refl _ _ | refine jc ?_ _))) (w.heap.size + 1) (by simp only [World.size_alloc]))
 generalize (w.alloc (.cells #[.int .i64 df, .int .i64 cz, .int .i64 di, .int .i64 dh] 41)).alloc (.cells #[.int .i64 0, .int .i64 0, .int .i64 0, .int .i64 0] 41) = W0 at *
 have HO := hide hO
 clear hO
 go_upto_region 1 with fail
 refine Rg.dz 5 22 (Rg.pick [ai [iv df, iv cz, iv di, iv dh], Rg.ax (.int .i64 (nk df cz di dh)), Rg.ax (.int .i64 g), Rg.ax (.int .i64 (oq (nk df cz di dh) g)), Rg.ax (.int .i64 (oq (nk df cz di dh) g))]) (az w _ W0) gm [] kr rfl (Rg.fq.pick ⟨au _, Rg.ae _, Rg.ae _, Rg.ae _, Rg.ae _, trivial⟩) (az.begin (aa HO))
  (ag (fw oh ky aF [] [iv df, iv cz, iv di, iv dh] [])
  (ag (sc1 Tryz.func31 (aT 0) (fun W v0 hG h0 => Wh W ((aa HT).below hG.bel) _ h0))
  (ag (dm rfl aF)
  (ag (sc2 Tryz.func94 (aT 1) (aT 2) (fun W v0 v1 hG h0 h1 => by cases h0; cases h1; exact ahu _ _ W))
  (ag (nz rfl (aT 3))
  Rg.bg))))) ?_
 intro v1 V1 hG1 hv1 hne1
 simp only [Rg.puts, Act.put, tA]
 have e3 : v1 3 = .int .i64 (oq (nk df cz di dh) g) := hv1 3 (by decide)
 have e4 : v1 4 = .int .i64 (oq (nk df cz di dh) g) := hv1 4 (by decide)
 simp only [e3, e4]
 have hO := hG1.1
 clear HO
 have HO := hide hO
 clear hO hG1 hv1 hne1
 try clear e3 e4
 by_cases g0 : oq (nk df cz di dh) g = 0
 ·
  have k1 : (oq (nk df cz di dh) g != 0) = false := by simp [bne, beq_iff_eq.2 g0]
  have HT2 := hide ((aa HR).2 g0)
  have HQ := hide (azm g0)
  clear HR
  go_upto_region 2 with fail
  refine Rg.dz 2 22 (Rg.pick [Rg.ax (.int .i64 (oq (nk df cz di dh) g)), Rg.ax (.bool false)]) (az w _ V1) gm [] kr rfl (Rg.fq.pick ⟨Rg.ae _, Rg.ae _, trivial⟩) (az.begin (aa HO))
   (ag (dm rfl aF)
   (ag (Au rfl (aT 0) (Rg.je _) rfl k1)
   Rg.bg)) ?_
  intro v2 V2 hG2 hv2 hne2
  simp only [Rg.puts, Act.put, tA]
  have e1 : v2 1 = .bool false := hv2 1 (by decide)
  simp only [e1]
  have hO := hG2.1
  clear HO
  have HO := hide hO
  clear hO hG2 hv2 hne2
  try clear e1
  clear k1 g0
  go_upto_region 4 with fail
  refine Rg.dz 7 22 (Rg.pick [ai [iv df, iv cz, iv di, iv dh], ai [.q (Wd.qR df cz), .q (Wd.qR di dh)], Rg.ax (.int .i64 g), ai [.q (xw (Wd.qR df cz) g), .q (Dj (Wd.qR di dh) g)], qa [ai [iv t.a, iv t.b, iv t.c, iv t.d], Rg.ax (.int .i64 t.e)], ai [iv t.a, iv t.b, iv t.c, iv t.d], Rg.ax (.int .i64 t.e)]) (az w _ V2) gm [] kr rfl (Rg.fq.pick ⟨au _, au _, Rg.ae _, au _, ko ⟨(au _), (Rg.ae _), trivial⟩, au _, Rg.ae _, trivial⟩) (az.begin (aa HO))
   (ag (fw oh ky aF [] [iv df, iv cz, iv di, iv dh] [])
   (ag (sc1 Tryz.func95 (aT 0) (fun W v0 hG h0 => Wi ⟨(aa HQ).1.1, (aa HQ).1.2.1⟩ W _ h0))
   (ag (dm rfl aF)
   (ag (sc2 Tryz.func96 (aT 1) (aT 2) (fun W v0 v1 hG h0 h1 => by cases h1; exact Wj (Cg (aa HQ).1.1) (Cg (aa HQ).1.2.1) (aa HQ).2.1 (aa HQ).2.2 om W ((aa HT).below hG.bel) _ h0))
   (ag (sc1 Tryz.func97 (aT 3) (fun W v0 hG h0 => aac (aa HT2) (ahr W _ h0)))
   (ag (ma (ts := [ai [iv t.a, iv t.b, iv t.c, iv t.d], Rg.ax (.int .i64 t.e)]) rfl (aT 4) (of_decide_eq_true rfl) rfl)
   (ag (ma (ts := [ai [iv t.a, iv t.b, iv t.c, iv t.d], Rg.ax (.int .i64 t.e)]) rfl (aT 4) (of_decide_eq_true rfl) rfl)
   Rg.bg))))))) ?_
  intro v3 V3 hG3 hv3 mf
  simp only [Rg.puts, Act.put, tA]
  have e6 : v3 6 = .int .i64 t.e := hv3 6 (by decide)
  simp only [e6]
  have hO := hG3.1
  refine jd hO 0 [] zS [iv t.a, iv t.b, iv t.c, iv t.d] [] rfl mg rfl (show ai [iv t.a, iv t.b, iv t.c, iv t.d] V3 (v3 5) from hv3 5 (by decide)) rfl rfl rfl ?_
  intro Da gy hk0
  replace hO := gy
  clear gy
  clear HO
  have HO := hide hO
  clear hO hG3 hv3 mf hk0
  try clear e6
  go_wp2_with fail
  exact yz Tryz.results29 qg rfl rfl (aa HO) me0 rfl rfl
 ·
  have k1 : (oq (nk df cz di dh) g != 0) = true := by simp [bne, beq_eq_false_iff_ne.2 g0]
  have hr := (aa HR).1 g0
  clear HR
  subst hr
  go_upto_region 2 with fail
  refine Rg.dz 2 22 (Rg.pick [Rg.ax (.int .i64 (oq (nk df cz di dh) g)), Rg.ax (.bool true)]) (az w _ V1) gm [] kr rfl (Rg.fq.pick ⟨Rg.ae _, Rg.ae _, trivial⟩) (az.begin (aa HO))
   (ag (dm rfl aF)
   (ag (Au rfl (aT 0) (Rg.je _) rfl k1)
   Rg.bg)) ?_
  intro v2 V2 hG2 hv2 hne2
  simp only [Rg.puts, Act.put, tA]
  have e1 : v2 1 = .bool true := hv2 1 (by decide)
  simp only [e1]
  have hO := hG2.1
  clear HO
  have HO := hide hO
  clear hO hG2 hv2 hne2
  try clear e1
  go_upto_region 3 with fail
  refine Rg.dz 2 22 (Rg.pick [ai zS, Rg.ax (.int .i64 (oq (nk df cz di dh) g))]) (az w _ V2) gm [] kr rfl (Rg.fq.pick ⟨au _, Rg.ae _, trivial⟩) (az.begin (aa HO))
   (ag (ui uj rfl rfl rfl)
   (ag (dm rfl aF)
   Rg.bg)) ?_
  intro v3 V3 hG3 hv3 mf
  simp only [Rg.puts, Act.put, tA]
  have e1 : v3 1 = .int .i64 (oq (nk df cz di dh) g) := hv3 1 (by decide)
  simp only [e1]
  have hO := hG3.1
  refine jd hO 0 [] zS zS [] rfl mg rfl (show ai zS V3 (v3 0) from hv3 0 (by decide)) rfl rfl rfl ?_
  intro Da gy hk0
  replace hO := gy
  clear gy
  clear HO
  have HO := hide hO
  clear hO hG3 hv3 mf hk0
  try clear e1
  go_wp2_with fail
  exact yz Tryz.results29 qg rfl rfl (aa HO) me0 rfl rfl
theorem apa {df cz di dh g : Int} (t : Er) (w : World) (u0 : Value) (h0 : ai [iv df, iv cz, iv di, iv dh] w u0)
  (hr : (¬ (xy df cz di dh ∧ 1 ≤ g ∧ g ≤ 1000000) → t = ⟨0, 0, 0, 0, 1⟩) ∧ ((xy df cz di dh ∧ 1 ≤ g ∧ g ≤ 1000000) → t = Ea (xw (Wd.qR df cz) g) (Dj (Wd.qR di dh) g))) :
  Calls Tryz.prog 30 #[u0, .int .i64 g] w (il (Im t) w) := by
 have HR := hide hr
 clear hr
 have hu0 := Bg h0
 subst hu0
 go_enter Tryz.func30, Tryz.ntmps30
 go_upto_region 1 with fail
 have hO := (Own.push (T := 41) (ls := zS) (cs := [.int .i64 0, .int .i64 0, .int .i64 0, .int .i64 0]) (Own.push (T := 41) (ls := [iv df, iv cz, iv di, iv dh]) (cs := [.int .i64 df, .int .i64 cz, .int .i64 di, .int .i64 dh]) (Own.nil w) (gu.v (jm _) (gu.v (jm _) (gu.v (jm _) (gu.v (jm _) rfl)))) (w.heap.size) rfl) (((gu.vs w [.int .i64 0, .int .i64 0, .int .i64 0, .int .i64 0] rfl) : gu w zS [.int .i64 0, .int .i64 0, .int .i64 0, .int .i64 0]).below (by repeat (first | exact Below.refl _ _ | refine jc ?_ _))) (w.heap.size + 1) (by simp only [World.size_alloc]))
 generalize (w.alloc (.cells #[.int .i64 df, .int .i64 cz, .int .i64 di, .int .i64 dh] 41)).alloc (.cells #[.int .i64 0, .int .i64 0, .int .i64 0, .int .i64 0] 41) = W0 at *
 have HO := hide hO
 clear hO
 by_cases g1 : xy df cz di dh
 ·
  by_cases g3 : 1 ≤ g ∧ g ≤ 1000000
  ·
   have k1 : decide (xy df cz di dh) = true := decide_eq_true g1
   go_upto_region 1 with fail
   refine Rg.dz 8 22 (Rg.pick [ai [iv df, iv cz, iv di, iv dh], Rg.ax (.bool true), Rg.ax (.bool false), Rg.ax (.bool false), Rg.ax (.int .i64 g), Rg.ax (.bool true), Rg.ax (.bool false), Rg.ax (.bool false)]) (az w _ W0) gm [] kr rfl (Rg.fq.pick ⟨au _, Rg.ae _, Rg.ae _, Rg.ae _, Rg.ae _, Rg.ae _, Rg.ae _, Rg.ae _, trivial⟩) (az.begin (aa HO))
    (ag (fw oh ky aF [] [iv df, iv cz, iv di, iv dh] [])
    (ag (sc1 Tryz.func85 (aT 0) (fun W v0 hG h0 => k1 ▸ Iu W _ h0))
    (ag (Bh rfl (aT 1) rfl rfl)
    (ag (dm rfl (aT 2))
    (Rg.ay (Rg.fe (d := 9) rfl kr rfl (dm rfl aF))
    (Rg.ay (Rg.fe (d := 9) rfl kr rfl (wh Tryz.func65 kr rfl az.step (aT 4) (fun W v0 hG h0 => by cases h0; exact (Qf g true (decide_eq_true g3).symm W).mono fun e w' h => ⟨_, h.1, h.2 ▸ Below.refl _ _, rfl⟩)))
    (Rg.ay (Rg.fe (d := 9) rfl kr rfl (Bh rfl (aT 5) rfl rfl))
    (ag (qi rfl (aT 3) (aT 6))
    Rg.bg)))))))) ?_
   intro v1 V1 hG1 hv1 hne1
   simp only [Rg.puts, Act.put, tA]
   have e7 : v1 7 = .bool false := hv1 7 (by decide)
   simp only [e7]
   have hO := hG1.1
   clear HO
   have HO := hide hO
   clear hO hG1 hv1 hne1
   try clear e7
   have HT2 := hide ((aa HR).2 ⟨g1, g3⟩)
   have HQ := hide (And.intro g1 g3)
   clear HR g1 g3 k1
   go_upto_region 3 with fail
   refine Rg.dz 7 22 (Rg.pick [ai [iv df, iv cz, iv di, iv dh], ai [.r (Wd.qR df cz), .r (Wd.qR di dh)], Rg.ax (.int .i64 g), ai [.r (xw (Wd.qR df cz) g), .r (Dj (Wd.qR di dh) g)], qa [ai [iv t.a, iv t.b, iv t.c, iv t.d], Rg.ax (.int .i64 t.e)], ai [iv t.a, iv t.b, iv t.c, iv t.d], Rg.ax (.int .i64 t.e)]) (az w _ V1) gm [] kr rfl (Rg.fq.pick ⟨au _, au _, Rg.ae _, au _, ko ⟨(au _), (Rg.ae _), trivial⟩, au _, Rg.ae _, trivial⟩) (az.begin (aa HO))
    (ag (fw oh ky aF [] [iv df, iv cz, iv di, iv dh] [])
    (ag (sc1 Tryz.func86 (aT 0) (fun W v0 hG h0 => aen ⟨(aa HQ).1.1, (aa HQ).1.2.1⟩ W _ h0))
    (ag (dm rfl aF)
    (ag (sc2 Tryz.func93 (aT 1) (aT 2) (fun W v0 v1 hG h0 h1 => by cases h1; exact akc (K := 1) (Bq (aa HQ).1.1) (Bq (aa HQ).1.2.1) (aa HQ).2.1 (aa HQ).2.2 om W _ h0))
    (ag (sc1 Tryz.func92 (aT 3) (fun W v0 hG h0 => aac (aa HT2) (akd W _ h0)))
    (ag (ma (ts := [ai [iv t.a, iv t.b, iv t.c, iv t.d], Rg.ax (.int .i64 t.e)]) rfl (aT 4) (of_decide_eq_true rfl) rfl)
    (ag (ma (ts := [ai [iv t.a, iv t.b, iv t.c, iv t.d], Rg.ax (.int .i64 t.e)]) rfl (aT 4) (of_decide_eq_true rfl) rfl)
    Rg.bg))))))) ?_
   intro v2 V2 hG2 hv2 hne2
   simp only [Rg.puts, Act.put, tA]
   have e6 : v2 6 = .int .i64 t.e := hv2 6 (by decide)
   simp only [e6]
   have hO := hG2.1
   refine jd hO 0 [] zS [iv t.a, iv t.b, iv t.c, iv t.d] [] rfl mg rfl (show ai [iv t.a, iv t.b, iv t.c, iv t.d] V2 (v2 5) from hv2 5 (by decide)) rfl rfl rfl ?_
   intro yg gy hk0
   replace hO := gy
   clear gy
   clear HO
   have HO := hide hO
   clear hO hG2 hv2 hne2 hk0
   try clear e6
   go_wp2_with fail
   exact yz Tryz.results30 qg rfl rfl (aa HO) me0 rfl rfl
  ·
   have k1 : decide (xy df cz di dh) = true := decide_eq_true g1
   go_upto_region 1 with fail
   refine Rg.dz 8 22 (Rg.pick [ai [iv df, iv cz, iv di, iv dh], Rg.ax (.bool true), Rg.ax (.bool false), Rg.ax (.bool false), Rg.ax (.int .i64 g), Rg.ax (.bool false), Rg.ax (.bool true), Rg.ax (.bool true)]) (az w _ W0) gm [] kr rfl (Rg.fq.pick ⟨au _, Rg.ae _, Rg.ae _, Rg.ae _, Rg.ae _, Rg.ae _, Rg.ae _, Rg.ae _, trivial⟩) (az.begin (aa HO))
    (ag (fw oh ky aF [] [iv df, iv cz, iv di, iv dh] [])
    (ag (sc1 Tryz.func85 (aT 0) (fun W v0 hG h0 => k1 ▸ Iu W _ h0))
    (ag (Bh rfl (aT 1) rfl rfl)
    (ag (dm rfl (aT 2))
    (Rg.ay (Rg.fe (d := 9) rfl kr rfl (dm rfl aF))
    (Rg.ay (Rg.fe (d := 9) rfl kr rfl (wh Tryz.func65 kr rfl az.step (aT 4) (fun W v0 hG h0 => by cases h0; exact (Qf g false (decide_eq_false g3).symm W).mono fun e w' h => ⟨_, h.1, h.2 ▸ Below.refl _ _, rfl⟩)))
    (Rg.ay (Rg.fe (d := 9) rfl kr rfl (Bh rfl (aT 5) rfl rfl))
    (ag (qi rfl (aT 3) (aT 6))
    Rg.bg)))))))) ?_
   intro v1 V1 hG1 hv1 hne1
   simp only [Rg.puts, Act.put, tA]
   have e7 : v1 7 = .bool true := hv1 7 (by decide)
   simp only [e7]
   have hO := hG1.1
   clear HO
   have HO := hide hO
   clear hO hG1 hv1 hne1
   try clear e7
   have hr := (aa HR).1 (fun h => g3 h.2)
   clear HR
   subst hr
   go_upto_region 2 with fail
   refine Rg.dz 1 22 (Rg.pick [ai zS]) (az w _ V1) gm [] kr rfl (Rg.fq.pick ⟨au _, trivial⟩) (az.begin (aa HO))
    (ag (ui uj rfl rfl rfl)
    Rg.bg) ?_
   intro v2 V2 hG2 hv2 hne2
   simp only [Rg.puts, Act.put, tA]
   have hO := hG2.1
   refine jd hO 0 [] zS zS [] rfl mg rfl (show ai zS V2 (v2 0) from hv2 0 (by decide)) rfl rfl rfl ?_
   intro yg gy hk0
   replace hO := gy
   clear gy
   clear HO
   have HO := hide hO
   clear hO hG2 hv2 hne2 hk0
   go_wp2_with fail
   exact yz Tryz.results30 qg rfl rfl (aa HO) me0 rfl rfl
 ·
  have k1 : decide (xy df cz di dh) = false := decide_eq_false g1
  go_upto_region 1 with fail
  refine Rg.dz 8 22 (Rg.pick [ai [iv df, iv cz, iv di, iv dh], Rg.ax (.bool false), Rg.ax (.bool true), Rg.ax (.bool true), Rg.ax undef, Rg.ax undef, Rg.ax undef, Rg.ax (.bool true)]) (az w _ W0) gm [] kr rfl (Rg.fq.pick ⟨au _, Rg.ae _, Rg.ae _, Rg.ae _, Rg.ae _, Rg.ae _, Rg.ae _, Rg.ae _, trivial⟩) (az.begin (aa HO))
   (ag (fw oh ky aF [] [iv df, iv cz, iv di, iv dh] [])
   (ag (sc1 Tryz.func85 (aT 0) (fun W v0 hG h0 => k1 ▸ Iu W _ h0))
   (ag (Bh rfl (aT 1) rfl rfl)
   (ag (dm rfl (aT 2))
   (Rg.ay (Rg.jb (d := 9) rfl kr rfl rfl iy rfl rfl)
   (Rg.ay (Rg.jb (d := 9) rfl kr rfl rfl iy rfl rfl)
   (Rg.ay (Rg.jb (d := 9) rfl kr rfl rfl iy rfl rfl)
   (ag (mr rfl (aT 3) (Rg.je _))
   Rg.bg)))))))) ?_
  intro v1 V1 hG1 hv1 hne1
  simp only [Rg.puts, Act.put, tA]
  have e7 : v1 7 = .bool true := hv1 7 (by decide)
  simp only [e7]
  have hO := hG1.1
  clear HO
  have HO := hide hO
  clear hO hG1 hv1 hne1
  try clear e7
  have hr := (aa HR).1 (fun h => g1 h.1)
  clear HR
  subst hr
  go_upto_region 2 with fail
  refine Rg.dz 1 22 (Rg.pick [ai zS]) (az w _ V1) gm [] kr rfl (Rg.fq.pick ⟨au _, trivial⟩) (az.begin (aa HO))
   (ag (ui uj rfl rfl rfl)
   Rg.bg) ?_
  intro v2 V2 hG2 hv2 hne2
  simp only [Rg.puts, Act.put, tA]
  have hO := hG2.1
  refine jd hO 0 [] zS zS [] rfl mg rfl (show ai zS V2 (v2 0) from hv2 0 (by decide)) rfl rfl rfl ?_
  intro yg gy hk0
  replace hO := gy
  clear gy
  clear HO
  have HO := hide hO
  clear hO hG2 hv2 hne2 hk0
  go_wp2_with fail
  exact yz Tryz.results30 qg rfl rfl (aa HO) me0 rfl rfl
theorem bea {df cz di dh : Int} (w : World) (u0 : Value) (h0 : ai [iv df, iv cz, iv di, iv dh] w u0) : Calls Tryz.prog 32 #[u0] w (il (Rg.ax (.int .i64 (nk df cz di dh))) w) := by
 obtain ⟨v, hv⟩ : ∃ v, v = nk df cz di dh := ⟨_, rfl⟩
 rw [← hv]
 have HV := hide hv
 clear hv
 have hu0 := Bg h0
 subst hu0
 go_enter Tryz.func32, Tryz.ntmps32
 go_upto_region 1 with fail
 have hO := (Own.push (T := 41) (ls := [iv df, iv cz, iv di, iv dh]) (cs := [.int .i64 df, .int .i64 cz, .int .i64 di, .int .i64 dh]) (Own.nil w) (gu.v (jm _) (gu.v (jm _) (gu.v (jm _) (gu.v (jm _) rfl)))) (w.heap.size) rfl)
 generalize w.alloc (.cells #[.int .i64 df, .int .i64 cz, .int .i64 di, .int .i64 dh] 41) = W0 at *
 have HO := hide hO
 clear hO
 by_cases g1 : xy df cz di dh
 ·
  have k1 : decide (xy df cz di dh) = true := decide_eq_true g1
  have hv : v = 0 := by rw [aa HV]; exact if_pos g1
  subst hv
  clear HV
  go_upto_region 1 with fail
  refine Rg.dz 3 6 (Rg.pick [ai [iv df, iv cz, iv di, iv dh], Rg.ax (.bool true), Rg.ax (.bool false)]) (az w _ W0) gm [] kr rfl (Rg.fq.pick ⟨au _, Rg.ae _, Rg.ae _, trivial⟩) (az.begin (aa HO))
   (ag (fw oh me0 aF [] [iv df, iv cz, iv di, iv dh] [])
   (ag (sc1 Tryz.func85 (aT 0) (fun W v0 hG h0 => k1 ▸ Iu W _ h0))
   (ag (Bh rfl (aT 1) rfl rfl)
   Rg.bg))) ?_
  intro v1 V1 hG1 hv1 hne1
  simp only [Rg.puts, Act.put, tA]
  have e2 : v1 2 = .bool false := hv1 2 (by decide)
  simp only [e2]
  have hO := hG1.1
  clear HO
  have HO := hide hO
  clear hO hG1 hv1 hne1
  try clear e2
  go_upto_region 3 with fail
  refine Rg.dz 1 6 (Rg.pick [Rg.ax (.int .i64 0)]) (az w _ V1) gm [] kr rfl (Rg.fq.pick ⟨Rg.ae _, trivial⟩) (az.begin (aa HO))
   (ag (nz rfl (Rg.je _))
   Rg.bg) ?_
  intro v2 V2 hG2 hv2 hne2
  simp only [Rg.puts, Act.put, tA]
  have e0 : v2 0 = .int .i64 0 := hv2 0 (by decide)
  simp only [e0]
  have hO := hG2.1
  clear HO
  have HO := hide hO
  clear hO hG2 hv2 hne2
  try clear e0
  go_wp2_with fail
  exact Bn Tryz.results32 rfl (aa HO).bel rfl
 ·
  have k1 : decide (xy df cz di dh) = false := decide_eq_false g1
  have hv : v = 1 := by rw [aa HV]; exact if_neg g1
  subst hv
  clear HV
  go_upto_region 1 with fail
  refine Rg.dz 3 6 (Rg.pick [ai [iv df, iv cz, iv di, iv dh], Rg.ax (.bool false), Rg.ax (.bool true)]) (az w _ W0) gm [] kr rfl (Rg.fq.pick ⟨au _, Rg.ae _, Rg.ae _, trivial⟩) (az.begin (aa HO))
   (ag (fw oh me0 aF [] [iv df, iv cz, iv di, iv dh] [])
   (ag (sc1 Tryz.func85 (aT 0) (fun W v0 hG h0 => k1 ▸ Iu W _ h0))
   (ag (Bh rfl (aT 1) rfl rfl)
   Rg.bg))) ?_
  intro v1 V1 hG1 hv1 hne1
  simp only [Rg.puts, Act.put, tA]
  have e2 : v1 2 = .bool true := hv1 2 (by decide)
  simp only [e2]
  have hO := hG1.1
  clear HO
  have HO := hide hO
  clear hO hG1 hv1 hne1
  try clear e2
  go_upto_region 2 with fail
  refine Rg.dz 1 6 (Rg.pick [Rg.ax (.int .i64 1)]) (az w _ V1) gm [] kr rfl (Rg.fq.pick ⟨Rg.ae _, trivial⟩) (az.begin (aa HO))
   (ag (nz rfl (Rg.je _))
   Rg.bg) ?_
  intro v2 V2 hG2 hv2 hne2
  simp only [Rg.puts, Act.put, tA]
  have e0 : v2 0 = .int .i64 1 := hv2 0 (by decide)
  simp only [e0]
  have hO := hG2.1
  clear HO
  have HO := hide hO
  clear hO hG2 hv2 hne2
  try clear e0
  go_wp2_with fail
  exact Bn Tryz.results32 rfl (aa HO).bel rfl
def alu (df cz di dh g : Int) : Er := if oq (nk df cz di dh) g = 0 then Ea (xw (Wd.qR df cz) g) (Dj (Wd.qR di dh) g) else ⟨0, 0, 0, 0, oq (nk df cz di dh) g⟩
theorem bgm {df cz di dh g : Int} (w : World) (hT : qy w) (u0 : Value) (h0 : ai [iv df, iv cz, iv di, iv dh] w u0) : Calls Tryz.prog 29 #[u0, .int .i64 g] w (il (Im (alu df cz di dh g)) w) :=
 atp _ w hT u0 h0 ⟨fun h => if_neg h, fun h => if_pos h⟩
theorem bdz {df cz di dh g : Int} (w : World) (u0 : Value) (h0 : ai [iv df, iv cz, iv di, iv dh] w u0) : Calls Tryz.prog 30 #[u0, .int .i64 g] w (il (Im (alu df cz di dh g)) w) :=
 apa _ w u0 h0 ⟨fun h => by unfold alu; rw [if_neg (by rw [ahd h]; decide), ahd h], fun h => if_pos (azn h)⟩
end Sb

end Go.Proofs.YtjdnmdlnaoedoaaGreatDoor
namespace Go.Proofs.YtjdnmdlnaoedoaaGreatDoor
open Go.RowKit

namespace Sb
theorem Od {B K : Nat} {z : Int} (hB : 1 < B) (h : Wd.Sz B K z) : ∀ n : Nat, Wd.Sz B (K * n + 1) (z ^ n)
 | 0 => by rw [Int.pow_zero]; exact Wd.Sz.of_le (by show 1 < B; omega) hB om
 | n + 1 => by
  have := (Od hB h n).mul h
  rw [Int.pow_succ, Nat.mul_succ, Nat.add_right_comm]
  exact this
theorem Jl (x : Rat) (m : Nat) : x ^ (m + 1) = x ^ m * x := Rat.pow_succ x m
theorem Qi (x : Rat) : x ^ 0 = 1 := Rat.pow_zero x
theorem Kt (x : Rat) (m : Nat) : (x ^ m).num = x.num ^ m ∧ ((x ^ m).den : Int) = (x.den : Int) ^ m := ⟨rfl, Int.natCast_pow _ _⟩
theorem Sm.pow {K : Nat} {x : Rat} (h : Sm K x) (m : Nat) (hm : K * m + 1 ≤ 1000000) : Sm (K * m + 1) (x ^ m) :=
 ⟨⟨by rw [(Kt x m).1]; exact Od qj h.1.1 m, by rw [(Kt x m).2]; exact Od qj h.1.2 m⟩, hm⟩
theorem qd.pow {K : Nat} {x : Rat} (h : qd K x) (m : Nat) (hm : K * m + 1 ≤ 1000000) : qd (K * m + 1) (x ^ m) :=
 ⟨⟨by rw [(Kt x m).1]; exact Od Ha h.1.1 m, by rw [(Kt x m).2]; exact Od Ha h.1.2 m⟩, hm⟩
theorem atm {F : Nat} {vs : Array Value} {W : World} {a b : Rat} (e : a = b) (h : Calls Tryz.prog F vs W (il (ai [.r a]) W)) : Calls Tryz.prog F vs W (il (ai [.r b]) W) := e ▸ h
theorem bjp {F : Nat} {vs : Array Value} {W : World} {a b : Int} (e : a = b) (h : Calls Tryz.prog F vs W (il (ai [.z a]) W)) : Calls Tryz.prog F vs W (il (ai [.z b]) W) := e ▸ h
theorem bjo {W : World} {x : Rat} {v : Value} (h : ai [.z x.num, .z (x.den : Int)] W v) : ai [.q x] W v := by
 obtain ⟨s1, n1, A1, c1, l1, s2, n2, A2, c2, l2, rfl, f1, f2⟩ := Mr h
 exact ⟨_, rfl, gu.q f1 f2 rfl⟩
theorem bai {w w' : World} {q : Rat} {e : Ending} (h : il (ai [.z q.num, .z (q.den : Int)]) w e w') : il (ai [.q q]) w e w' := by
 obtain ⟨u, h1, h2, h3⟩ := h
 exact ⟨u, h1, h2, bjo h3⟩
theorem kle {K m k : Nat} (h : K * m + 1 ≤ 1000000) (hk : k < m) : K ≤ K * m + 1 := by
 have : K * 1 ≤ K * m := Nat.mul_le_mul_left K om
 omega
theorem arh {x : Int} {K m : Nat} (sx : Wd.Sz fo K x) (hK : K * m + 1 ≤ 1000000) (hm : m ≤ 1000000) (w : World) (u0 : Value) (h0 : ai [.z x] w u0) :
  Calls Tryz.prog 126 #[u0, .int .i64 (m : Int)] w (il (ai [.z (x ^ m)]) w) := by
 have HS := hide (And.intro sx (And.intro hK hm))
 clear sx hK hm
 obtain ⟨zz, uy, ru, c0a, rq, rfl, f0a⟩ := Gj h0
 go_enter Tryz.func126, Tryz.ntmps126
 go_upto_region 1 with fail
 have hO := (Own.push (T := 72) (ls := zZ) (cs := [.int .i64 0, .bool false, .slice none 0 0]) (Own.push (T := 72) (ls := [.z x]) (cs := [.int .i64 zz, .bool uy, .slice ru (List.length rq) c0a]) (Own.nil w) (gu.z f0a rfl) (w.heap.size) rfl) (((gu.vs w [.int .i64 0, .bool false, .slice none 0 0] rfl) : gu w zZ [.int .i64 0, .bool false, .slice none 0 0]).below (by repeat (first | exact Below.refl _ _ | refine jc ?_ _))) (w.heap.size + 1) (by simp only [World.size_alloc]))
 generalize (w.alloc (.cells #[.int .i64 zz, .bool uy, .slice ru (List.length rq) c0a] 72)).alloc (.cells #[.int .i64 0, .bool false, .slice none 0 0] 72) = W0 at *
 have HO := hide hO
 clear hO
 go_upto_region 1 with fail
 refine Rg.dz 2 15 (Rg.pick [ai [.z (x ^ 0)], qf 72 zZ W0.heap.size]) (az w _ W0) gm [1] kr rfl (Rg.fq.pick ⟨au _, qh _ _ _, trivial⟩) (az.begin (aa HO))
  (ag (sc1 Tryz.func124 (Rg.je _) (fun W v0 hG h0 => by cases h0; exact bjp (by rw [Int.pow_zero]) (aht 1 om om W)))
  (ag (si Ll rfl az.step az.size rfl (uw (by intro j hj; simp at hj; (repeat' (first | (rcases hj with rfl | hj))) <;> first | (subst hj; exact ⟨_, _, _, rfl⟩) | exact ⟨_, _, _, rfl⟩)))
  Rg.bg)) ?_
 intro v1 V1 hG1 hv1 hne1
 simp only [Rg.puts, Act.put, tA]
 obtain ⟨bld, e1, Vv, hz1⟩ := (show qf 72 zZ W0.heap.size V1 (v1 1) from hv1 1 (by decide))
 simp only [e1]
 have hO := hG1.1
 replace hO := Own.add (aa HO) hG1.2 Vv hz1
 clear Vv hz1
 refine jd hO 0 [] zZ [.z (x ^ 0)] [] rfl Bo rfl (show ai [.z (x ^ 0)] V1 (v1 0) from hv1 0 (by decide)) rfl rfl rfl ?_
 intro uo gy hk0
 replace hO := gy
 clear gy
 clear HO
 have HO := hide hO
 clear hO hG1 hv1 hne1 hk0
 try clear e1
 go_upto_region 2 with fail
 refine Rg.dz 2 15 (Rg.pick [Rg.ax (.int .i64 (m : Int)), Rg.ax (.int .i64 0)]) (az w _ uo) gm [] kr rfl (Rg.fq.pick ⟨Rg.ae _, Rg.ae _, trivial⟩) (az.begin (aa HO))
  (ag (dm rfl aF)
  (ag (dm rfl (Rg.je _))
  Rg.bg)) ?_
 intro v2 V2 hG2 hv2 hne2
 simp only [Rg.puts, Act.put, tA]
 have e0 : v2 0 = .int .i64 (m : Int) := hv2 0 (by decide)
 have e1 : v2 1 = .int .i64 0 := hv2 1 (by decide)
 simp only [e0, e1]
 have hO := hG2.1
 clear HO
 have HO := hide hO
 clear hO hG2 hv2 hne2
 try clear e0 e1
 go_wp2_with fail
 go_loopw [8] (fun vk wr => ∃ k : Nat, k ≤ m ∧ vk = .int .i64 ((k : Nat) : Int) ∧ Hid (Own w [(bld, 72, [.z (x ^ k)]), (w.heap.size + 1, 72, zZ), (w.heap.size, 72, [.z x])] wr)) (fun vk _ => m - (intOf vk).toNat)
 case atStart => exact ⟨0, by omega, rfl, HO⟩
 case round =>
  obtain ⟨k, hk, rfl, HO⟩ := hrel
  have HK := hide hk
  clear hk
  by_cases g1 : (k : Int) < (m : Int)
  ·
   have d1 : decide ((k : Int) < (m : Int)) = true := decide_eq_true g1
   have vo := hide (show k < m by omega)
   go_upto_region 3 with fail
   refine Rg.dz 1 15 (Rg.pick [Rg.ax (.bool true)]) (az w _ wr) gm [] kr rfl (Rg.fq.pick ⟨Rg.ae _, trivial⟩) (az.begin (aa HO))
    (ag (Aq rfl aF aF rfl d1)
    Rg.bg) ?_
   intro v3 V3 hG3 hv3 mf
   simp only [Rg.puts, Act.put, tA]
   have e0 : v3 0 = .bool true := hv3 0 (by decide)
   simp only [e0]
   have hO := hG3.1
   clear HO
   have HO := hide hO
   clear hO hG3 hv3 mf
   try clear e0
   clear d1 g1
   go_upto_region 4 with fail
   refine Rg.dz 3 15 (Rg.pick [ai [.z (x ^ k)], ai [.z x], ai [.z (x ^ (k + 1))]]) (az w _ V3) gm [] kr rfl (Rg.fq.pick ⟨au _, au _, au _, trivial⟩) (az.begin (aa HO))
    (ag (fw ny me0 aF [] [.z (x ^ k)] [])
    (ag (fw ny rf aF [] [.z x] [])
    (ag (sc2 Tryz.func135 (aT 0) (aT 1) (fun W v0 v1 hG h0 h1 => abe (Jy (Od qj (aa HS).1 k |>.mono qj (Nat.succ_le_succ (Nat.mul_le_mul_left K (aa HK)))) ((aa HS).1.mono qj (kle (aa HS).2.1 (aa vo))) (by have := (aa HS).2.1; have := Dw; omega) (Int.pow_succ x k)) h0 h1))
    Rg.bg))) ?_
   intro v4 V4 hG4 hv4 ry
   simp only [Rg.puts, Act.put, tA]
   have hO := hG4.1
   refine jd hO 0 [] [.z (x ^ k)] [.z (x ^ (k + 1))] [] rfl Bo rfl (show ai [.z (x ^ (k + 1))] V4 (v4 2) from hv4 2 (by decide)) rfl rfl rfl ?_
   intro Ig gy hk0
   replace hO := gy
   clear gy
   clear HO
   have HO := hide hO
   clear hO hG4 hv4 ry hk0
   go_wp2_with fail
   go_roundw
   case rel =>
    exact ⟨k + 1, by have := aa vo; omega, Sk (aa vo) (aa HS).2.2, HO⟩
   case measure =>
    have h1 := aa vo
    have h2 := (aa HS).2.2
    clear HO
    rw [Qd h1 h2]
    exact measS h1
  ·
   have d1 : decide ((k : Int) < (m : Int)) = false := decide_eq_false g1
   obtain rfl : k = m := by have := aa HK; omega
   go_upto_region 3 with fail
   refine Rg.dz 1 15 (Rg.pick [Rg.ax (.bool false)]) (az w _ wr) gm [] kr rfl (Rg.fq.pick ⟨Rg.ae _, trivial⟩) (az.begin (aa HO))
    (ag (Aq rfl aF aF rfl d1)
    Rg.bg) ?_
   intro v3 V3 hG3 hv3 mf
   simp only [Rg.puts, Act.put, tA]
   have e0 : v3 0 = .bool false := hv3 0 (by decide)
   simp only [e0]
   have hO := hG3.1
   clear HO
   have HO := hide hO
   clear hO hG3 hv3 mf
   try clear e0
   clear d1 g1
   go_upto_region 6 with fail
   refine Rg.dz 1 15 (Rg.pick [ai [.z (x ^ k)]]) (az w _ V3) gm [] kr rfl (Rg.fq.pick ⟨au _, trivial⟩) (az.begin (aa HO))
    (ag (fw ny me0 aF [] [.z (x ^ k)] [])
    Rg.bg) ?_
   intro v4 V4 hG4 hv4 ry
   simp only [Rg.puts, Act.put, tA]
   have hO := hG4.1
   refine jd hO 1 [] zZ [.z (x ^ k)] [] rfl Bo rfl (show ai [.z (x ^ k)] V4 (v4 0) from hv4 0 (by decide)) rfl rfl rfl ?_
   intro Ig gy hk0
   replace hO := gy
   clear gy
   clear HO
   have HO := hide hO
   clear hO hG4 hv4 ry hk0
   go_wp2_with fail
   exact xu Tryz.results126 Rp rfl (aa HO) ky rfl rfl
theorem aoz {p q : Int} {K m : Nat} (sp : Wd.Sz fo K p) (sq : Wd.Sz fo K q) (hK : K * m + 1 ≤ 1000000) (hm : m ≤ 1000000) (w : World) (u0 : Value) (h0 : ai [.z p, .z q] w u0) :
  Calls Tryz.prog 58 #[u0, .int .i64 (m : Int)] w (il (ai [.z (p ^ m), .z (q ^ m)]) w) := by
 have HS := hide (And.intro sp (And.intro sq (And.intro hK hm)))
 clear sp sq hK hm
 obtain ⟨zz, uy, ru, c0a, rq, Bv, ym, vg, c0b, ve, rfl, f0a, Aw⟩ := Mr h0
 go_enter Tryz.func58, Tryz.ntmps58
 go_upto_region 1 with fail
 have hO := (Own.push (T := 74) (ls := zQ) (cs := [.int .i64 0, .bool false, .slice none 0 0, .int .i64 0, .bool false, .slice none 0 0]) (Own.push (T := 74) (ls := [.z p, .z q]) (cs := [.int .i64 zz, .bool uy, .slice ru (List.length rq) c0a, .int .i64 Bv, .bool ym, .slice vg (List.length ve) c0b]) (Own.nil w) (gu.z f0a (gu.z Aw rfl)) (w.heap.size) rfl) (((gu.vs w [.int .i64 0, .bool false, .slice none 0 0, .int .i64 0, .bool false, .slice none 0 0] rfl) : gu w zQ [.int .i64 0, .bool false, .slice none 0 0, .int .i64 0, .bool false, .slice none 0 0]).below (by repeat (first | exact Below.refl _ _ | refine jc ?_ _))) (w.heap.size + 1) (by simp only [World.size_alloc]))
 generalize (w.alloc (.cells #[.int .i64 zz, .bool uy, .slice ru (List.length rq) c0a, .int .i64 Bv, .bool ym, .slice vg (List.length ve) c0b] 74)).alloc (.cells #[.int .i64 0, .bool false, .slice none 0 0, .int .i64 0, .bool false, .slice none 0 0] 74) = W0 at *
 have HO := hide hO
 clear hO
 have d1 : decide ((m : Int) < 0) = false := decide_eq_false om
 go_upto_region 1 with fail
 refine Rg.dz 2 21 (Rg.pick [Rg.ax (.int .i64 (m : Int)), Rg.ax (.bool false)]) (az w _ W0) gm [] kr rfl (Rg.fq.pick ⟨Rg.ae _, Rg.ae _, trivial⟩) (az.begin (aa HO))
  (ag (dm rfl aF)
  (ag (Aq rfl (aT 0) (Rg.je _) rfl d1)
  Rg.bg)) ?_
 intro v1 V1 hG1 hv1 hne1
 simp only [Rg.puts, Act.put, tA]
 have e1 : v1 1 = .bool false := hv1 1 (by decide)
 simp only [e1]
 have hO := hG1.1
 clear HO
 have HO := hide hO
 clear hO hG1 hv1 hne1
 try clear e1
 clear d1
 go_upto_region 3 with fail
 refine Rg.region 9 21 (Rg.pick [Rg.ax (.pointer (some ⟨w.heap.size, 0, none⟩)), ai [.z p], Rg.ax (.int .i64 (m : Int)), ai [.z (p ^ m)], Rg.ax (.pointer (some ⟨w.heap.size, 3, none⟩)), ai [.z q], Rg.ax (.int .i64 (m : Int)), ai [.z (q ^ m)], ai [.z (p ^ m), .z (q ^ m)]]) (az w _ V1) gm [] kr kr rfl (Rg.fq.pick ⟨Rg.ae _, au _, Rg.ae _, au _, Rg.ae _, au _, Rg.ae _, au _, au _, trivial⟩) (az.start (aa HO))
  (ag (Ez (b := w.heap.size) (off := 0) rfl aF rfl rfl)
  (ag (fw ny ky (aT 0) [] [.z p] [.z q])
  (ag (dm rfl aF)
  (ag (sc2 Tryz.func126 (aT 1) (aT 2) (fun W v0 v1 hG h0 h1 => by cases h1; exact arh (aa HS).1 (aa HS).2.2.1 (aa HS).2.2.2 W _ h0))
  (ag (Cn (b := w.heap.size) (off := 0) rfl aF rfl rfl)
  (ag (fw ny ky (aT 4) [.z p] [.z q] [])
  (ag (dm rfl aF)
  (ag (sc2 Tryz.func126 (aT 5) (aT 6) (fun W v0 v1 hG h0 h1 => by cases h1; exact arh (aa HS).2.1 (aa HS).2.2.1 (aa HS).2.2.2 W _ h0))
  (ag (xx acj rfl (aT 3) (aT 7) rfl rfl rfl)
  Rg.bg))))))))) ?_
 intro v2 V2 hG2 hv2 hne2
 simp only [Rg.puts, Act.put, tA]
 have hO := hG2.1
 refine jd hO 0 [] zQ [.z (p ^ m), .z (q ^ m)] [] rfl zb rfl (show ai [.z (p ^ m), .z (q ^ m)] V2 (v2 8) from hv2 8 (by decide)) rfl rfl rfl ?_
 intro yg gy hk0
 replace hO := gy
 clear gy
 clear HO
 have HO := hide hO
 clear hO hG2 hv2 hne2 hk0
 go_wp2_with fail
 exact xu Tryz.results58 Kw rfl (aa HO) me0 rfl rfl
theorem amu {x a : Rat} {K m : Nat} (e : a = x ^ m) (sx : Sm K x) (hK : K * m + 1 ≤ 1000000) (hm : m ≤ 1000000) (w : World) (u0 : Value) (h0 : ai [.q x] w u0) :
  Calls Tryz.prog 58 #[u0, .int .i64 (m : Int)] w (il (ai [.q a]) w) := by
 subst e
 refine (aoz (m := m) sx.1.1 sx.1.2 hK hm w u0 (bbk h0)).mono fun e w' h => bai ?_
 rw [(Kt x m).1, (Kt x m).2]
 exact h
theorem bjt {K m k : Nat} (h : K * m + 1 ≤ 1000000) (hk : k ≤ m) : K * k + 1 ≤ 1000000 := by
 have : K * k ≤ K * m := Nat.mul_le_mul_left K hk
 omega
theorem aoa {x : Rat} {K m : Nat} (sx : qd K x) (hK : K * m + 1 ≤ 1000000) (hm : m ≤ 1000000) (w : World) (u0 : Value) (h0 : ai [.r x] w u0) :
  Calls Tryz.prog 61 #[u0, .int .i64 (m : Int)] w (il (ai [.r (x ^ m)]) w) := by
 have HS := hide (And.intro sx (And.intro hK hm))
 clear sx hK hm
 obtain ⟨ru, c0a, rq, Ee, Mx, Mm, Mf, uy, rfl, f0a⟩ := Ue h0
 go_enter Tryz.func61, Tryz.ntmps61
 go_upto_region 1 with fail
 have hO := (Own.push (T := 63) (ls := zX) (cs := [.slice none 0 0, .bool false, .slice none 0 0, .bool false]) (Own.push (T := 63) (ls := [.r x]) (cs := [.slice ru (List.length rq) c0a, .bool Ee, .slice Mx (List.length Mf) Mm, .bool uy]) (Own.nil w) (gu.r f0a rfl) (w.heap.size) rfl) (((gu.vs w [.slice none 0 0, .bool false, .slice none 0 0, .bool false] rfl) : gu w zX [.slice none 0 0, .bool false, .slice none 0 0, .bool false]).below (by repeat (first | exact Below.refl _ _ | refine jc ?_ _))) (w.heap.size + 1) (by simp only [World.size_alloc]))
 generalize (w.alloc (.cells #[.slice ru (List.length rq) c0a, .bool Ee, .slice Mx (List.length Mf) Mm, .bool uy] 63)).alloc (.cells #[.slice none 0 0, .bool false, .slice none 0 0, .bool false] 63) = W0 at *
 have HO := hide hO
 clear hO
 have d1 : decide ((m : Int) < 0) = false := decide_eq_false om
 go_upto_region 1 with fail
 refine Rg.dz 2 24 (Rg.pick [Rg.ax (.int .i64 (m : Int)), Rg.ax (.bool false)]) (az w _ W0) gm [] kr rfl (Rg.fq.pick ⟨Rg.ae _, Rg.ae _, trivial⟩) (az.begin (aa HO))
  (ag (dm rfl aF)
  (ag (Aq rfl (aT 0) (Rg.je _) rfl d1)
  Rg.bg)) ?_
 intro v1 V1 hG1 hv1 hne1
 simp only [Rg.puts, Act.put, tA]
 have e1 : v1 1 = .bool false := hv1 1 (by decide)
 simp only [e1]
 have hO := hG1.1
 clear HO
 have HO := hide hO
 clear hO hG1 hv1 hne1
 try clear e1
 clear d1
 go_upto_region 3 with fail
 refine Rg.dz 2 24 (Rg.pick [ai [.r (x ^ 0)], qf 63 zX V1.heap.size]) (az w _ V1) gm [1] kr rfl (Rg.fq.pick ⟨au _, qh _ _ _, trivial⟩) (az.begin (aa HO))
  (ag (sc1 Tryz.func80 (Rg.je _) (fun W v0 hG h0 => by cases h0; exact atm (Qi x).symm (awq 1 om om W)))
  (ag (si awu rfl az.step az.size rfl (uw (by intro j hj; simp at hj; (repeat' (first | (rcases hj with rfl | hj))) <;> first | (subst hj; exact ⟨_, _, _, rfl⟩) | exact ⟨_, _, _, rfl⟩)))
  Rg.bg)) ?_
 intro v2 V2 hG2 hv2 hne2
 simp only [Rg.puts, Act.put, tA]
 obtain ⟨bep, e1, Vv, hz1⟩ := (show qf 63 zX V1.heap.size V2 (v2 1) from hv2 1 (by decide))
 simp only [e1]
 have hO := hG2.1
 replace hO := Own.add (aa HO) hG2.2 Vv hz1
 clear Vv hz1
 refine jd hO 0 [] zX [.r (x ^ 0)] [] rfl Bp rfl (show ai [.r (x ^ 0)] V2 (v2 0) from hv2 0 (by decide)) rfl rfl rfl ?_
 intro yg gy hk0
 replace hO := gy
 clear gy
 clear HO
 have HO := hide hO
 clear hO hG2 hv2 hne2 hk0
 try clear e1
 go_upto_region 4 with fail
 refine Rg.dz 1 24 (Rg.pick [Rg.ax (.int .i64 0)]) (az w _ yg) gm [] kr rfl (Rg.fq.pick ⟨Rg.ae _, trivial⟩) (az.begin (aa HO))
  (ag (nz rfl (Rg.je _))
  Rg.bg) ?_
 intro v3 V3 hG3 hv3 mf
 simp only [Rg.puts, Act.put, tA]
 have e0 : v3 0 = .int .i64 0 := hv3 0 (by decide)
 simp only [e0]
 have hO := hG3.1
 clear HO
 have HO := hide hO
 clear hO hG3 hv3 mf
 try clear e0
 go_wp2_with fail
 go_loopw [6] (fun vk wr => ∃ k : Nat, k ≤ m ∧ vk = .int .i64 ((k : Nat) : Int) ∧ Hid (Own w [(bep, 63, [.r (x ^ k)]), (w.heap.size + 1, 63, zX), (w.heap.size, 63, [.r x])] wr)) (fun vk _ => m - (intOf vk).toNat)
 case atStart => exact ⟨0, by omega, rfl, HO⟩
 case round =>
  obtain ⟨k, hk, rfl, HO⟩ := hrel
  have HK := hide hk
  clear hk
  by_cases g1 : (k : Int) < (m : Int)
  ·
   have d1 : decide ((k : Int) < (m : Int)) = true := decide_eq_true g1
   have vo := hide (show k < m by omega)
   go_upto_region 5 with fail
   refine Rg.dz 3 24 (Rg.pick [Rg.ax (.int .i64 (k : Int)), Rg.ax (.int .i64 (m : Int)), Rg.ax (.bool true)]) (az w _ wr) gm [] kr rfl (Rg.fq.pick ⟨Rg.ae _, Rg.ae _, Rg.ae _, trivial⟩) (az.begin (aa HO))
    (ag (dm rfl aF)
    (ag (dm rfl aF)
    (ag (Aq rfl (aT 0) (aT 1) rfl d1)
    Rg.bg))) ?_
   intro v4 V4 hG4 hv4 ry
   simp only [Rg.puts, Act.put, tA]
   have e2 : v4 2 = .bool true := hv4 2 (by decide)
   simp only [e2]
   have hO := hG4.1
   clear HO
   have HO := hide hO
   clear hO hG4 hv4 ry
   try clear e2
   clear d1 g1
   go_upto_region 7 with fail
   refine Rg.dz 3 24 (Rg.pick [ai [.r (x ^ k)], ai [.r x], ai [.r (x ^ (k + 1))]]) (az w _ V4) gm [] kr rfl (Rg.fq.pick ⟨au _, au _, au _, trivial⟩) (az.begin (aa HO))
    (ag (fw ll me0 aF [] [.r (x ^ k)] [])
    (ag (fw ll rf aF [] [.r x] [])
    (ag (sc2 Tryz.func52 (aT 0) (aT 1) (fun W v0 v1 hG h0 h1 => atm (Jl x k).symm (aek (K := K * m + 1) (qd.mono (qd.pow (aa HS).1 k (bjt (aa HS).2.1 (aa HK))) (Nat.succ_le_succ (Nat.mul_le_mul_left K (aa HK))) (aa HS).2.1) (qd.mono (aa HS).1 (kle (aa HS).2.1 (aa vo)) (aa HS).2.1) h0 h1)))
    Rg.bg))) ?_
   intro v5 V5 xq hv5 hne5
   simp only [Rg.puts, Act.put, tA]
   have hO := xq.1
   refine jd hO 0 [] [.r (x ^ k)] [.r (x ^ (k + 1))] [] rfl Bp rfl (show ai [.r (x ^ (k + 1))] V5 (v5 2) from hv5 2 (by decide)) rfl rfl rfl ?_
   intro Ld gy hk0
   replace hO := gy
   clear gy
   clear HO
   have HO := hide hO
   clear hO xq hv5 hne5 hk0
   go_wp2_with fail
   go_roundw
   case rel =>
    exact ⟨k + 1, by have := aa vo; omega, Sk (aa vo) (aa HS).2.2, HO⟩
   case measure =>
    have h1 := aa vo
    have h2 := (aa HS).2.2
    clear HO
    rw [Qd h1 h2]
    exact measS h1
  ·
   have d1 : decide ((k : Int) < (m : Int)) = false := decide_eq_false g1
   obtain rfl : k = m := by have := aa HK; omega
   go_upto_region 5 with fail
   refine Rg.dz 3 24 (Rg.pick [Rg.ax (.int .i64 (k : Int)), Rg.ax (.int .i64 (k : Int)), Rg.ax (.bool false)]) (az w _ wr) gm [] kr rfl (Rg.fq.pick ⟨Rg.ae _, Rg.ae _, Rg.ae _, trivial⟩) (az.begin (aa HO))
    (ag (dm rfl aF)
    (ag (dm rfl aF)
    (ag (Aq rfl (aT 0) (aT 1) rfl d1)
    Rg.bg))) ?_
   intro v4 V4 hG4 hv4 ry
   simp only [Rg.puts, Act.put, tA]
   have e2 : v4 2 = .bool false := hv4 2 (by decide)
   simp only [e2]
   have hO := hG4.1
   clear HO
   have HO := hide hO
   clear hO hG4 hv4 ry
   try clear e2
   clear d1 g1
   go_upto_region 8 with fail
   refine Rg.dz 1 24 (Rg.pick [ai [.r (x ^ k)]]) (az w _ V4) gm [] kr rfl (Rg.fq.pick ⟨au _, trivial⟩) (az.begin (aa HO))
    (ag (fw ll me0 aF [] [.r (x ^ k)] [])
    Rg.bg) ?_
   intro v5 V5 xq hv5 hne5
   simp only [Rg.puts, Act.put, tA]
   have hO := xq.1
   refine jd hO 1 [] zX [.r (x ^ k)] [] rfl Bp rfl (show ai [.r (x ^ k)] V5 (v5 0) from hv5 0 (by decide)) rfl rfl rfl ?_
   intro Ld gy hk0
   replace hO := gy
   clear gy
   clear HO
   have HO := hide hO
   clear hO xq hv5 hne5 hk0
   go_wp2_with fail
   exact xu Tryz.results61 Gd rfl (aa HO) ky rfl rfl
theorem Qj {x a : Rat} {K m : Nat} (e : a = x ^ m) (sx : qd K x) (hK : K * m + 1 ≤ 1000000) (hm : m ≤ 1000000) (w : World) (u0 : Value) (h0 : ai [.r x] w u0) : Calls Tryz.prog 61 #[u0, .int .i64 (m : Int)] w (il (ai [.r a]) w) := e ▸ aoa sx hK hm w u0 h0
end Sb

end Go.Proofs.YtjdnmdlnaoedoaaGreatDoor
namespace Go.Proofs.YtjdnmdlnaoedoaaGreatDoor
open Go.RowKit

namespace Sb
theorem awv : Rat.divInt 0 1 = 0 := rfl
theorem aps {y : Rat} (h : 0 ≤ y) : ∀ m : Nat, 0 ≤ y ^ m
 | 0 => by rw [Qi]; decide
 | m + 1 => by rw [Jl]; exact Rat.mul_nonneg (aps h m) h
theorem apr {x : Rat} (h : x ≤ 0) : ∀ k : Nat, x ^ (2 * k + 1) ≤ 0
 | 0 => by rw [Jl, Qi, Rat.one_mul]; exact h
 | k + 1 => by
  have ih := apr h k
  have h1 : 0 ≤ -(x ^ (2 * k + 1)) := by grind
  have h2 : 0 ≤ -x := by grind
  have h3 := Rat.mul_nonneg (Rat.mul_nonneg h1 h2) h2
  rw [show 2 * (k + 1) + 1 = 2 * k + 1 + 1 + 1 by omega, Jl, Jl]
  grind
theorem apt (m : Nat) (h : 0 < m) : (Rat.divInt 0 1 : Rat) ^ m = Rat.divInt 0 1 := by
 obtain ⟨k, rfl⟩ : ∃ k, m = k + 1 := ⟨m - 1, by omega⟩
 rw [Jl, awv, Rat.mul_zero]
def Hm (x y : Rat) (m : Nat) : Rat := if x ≤ Rat.divInt 0 1 ∧ Rat.divInt 0 1 ≤ y then ku (x ^ m) [y ^ m, Rat.divInt 0 1 ^ m] else ku (x ^ m) [y ^ m]
def Ho (x y : Rat) (m : Nat) : Rat := if x ≤ Rat.divInt 0 1 ∧ Rat.divInt 0 1 ≤ y then jg (x ^ m) [y ^ m, Rat.divInt 0 1 ^ m] else jg (x ^ m) [y ^ m]
theorem pow_even {x y : Rat} {m : Nat} (h0 : 0 < m) (h : x ≤ Rat.divInt 0 1 ∧ Rat.divInt 0 1 ≤ y) : Hm x y m = ku (Rat.divInt 0 1) [x ^ m, y ^ m] ∧ Ho x y m = jg (Rat.divInt 0 1) [x ^ m, y ^ m] := by
 unfold Hm Ho
 rw [if_pos h, if_pos h, apt m h0]
 simp only [Vh, Vi, Yv, Yw]
 generalize x ^ m = a
 generalize y ^ m = b
 generalize Rat.divInt 0 1 = c
 clear h
 constructor <;> grind
theorem atn {x y : Rat} {m : Nat} (h : ¬ (0 < m ∧ m % 2 = 0 ∧ x ≤ Rat.divInt 0 1 ∧ Rat.divInt 0 1 ≤ y)) : Hm x y m = ku (x ^ m) [y ^ m] ∧ Ho x y m = jg (x ^ m) [y ^ m] := by
 unfold Hm Ho
 by_cases hh : x ≤ Rat.divInt 0 1 ∧ Rat.divInt 0 1 ≤ y
 ·
  rw [if_pos hh, if_pos hh]
  by_cases h0 : m = 0
  ·
   subst h0
   simp only [Qi, Vh, Vi, Yv, Yw]
   constructor <;> grind
  ·
   have h2 : ¬ m % 2 = 0 := fun e => h ⟨by omega, e, hh.1, hh.2⟩
   obtain ⟨k, rfl⟩ : ∃ k, m = 2 * k + 1 := ⟨m / 2, by omega⟩
   rw [apt _ om]
   rw [awv] at hh ⊢
   have h1 := apr hh.1 k
   have h2 := aps hh.2 (2 * k + 1)
   simp only [Vh, Vi, Yv, Yw]
   generalize x ^ (2 * k + 1) = a at *
   generalize y ^ (2 * k + 1) = b at *
   clear h hh h0
   constructor <;> grind
 ·
  rw [if_neg hh, if_neg hh]; exact ⟨rfl, rfl⟩
end Sb
end Go.Proofs.YtjdnmdlnaoedoaaGreatDoor
