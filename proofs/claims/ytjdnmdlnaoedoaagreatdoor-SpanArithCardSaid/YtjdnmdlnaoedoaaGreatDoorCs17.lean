/- Texts beneath a law of layer 1. -/
import Derived.Test.YtjdnmdlnaoedoaaGreatDoorCs16
import Derived.Test.YtjdnmdlnaoedoaaGreatDoorRows
import Derived.ProofKit
import Derived.OpenShut
import Derived.LaidMore
import Derived.Lay
import Derived.Lib.SmallJoins
import Derived.Stop.Joined
set_option maxRecDepth 100000
namespace Go.Proofs.YtjdnmdlnaoedoaaGreatDoor
open Go.RowKit

namespace Sb
theorem bap {ρ : Operand → Value} {w : World} {d : Option Tmp} {ty : TypeId} {pos : String} {af : Array Edge} {gd : Option (Nat × Bool)} :
  (execOp ρ { dst := d, op := .build 63 #[], type := ty, pos := pos, after := af, guard := gd }).run Tryz.prog w = .ok (.value (.agg #[.slice none 0 0, .bool false, .slice none 0 0, .bool false])) w := avp ρ w d ty pos af gd
theorem aoz (W : World) : QV W none 0 [] false none 0 [] false (Rat.divInt 0 1) :=
 have h0 : je W none 0 [] false 0 := ⟨si.Rl W 0 om, rfl⟩
 ⟨h0, 0, h0, .inr ⟨rfl, rfl⟩⟩
theorem baj {Q : Exit → Act → World → Prop} {l : List Oper} {n : Nat} {T : Nat → World → Value → Prop} {G : World → Prop} {al : List Nat} {a0 : Act} {k d : Nat} {ty : TypeId} {pos : String} {af : Array Edge} {gd : Option (Nat × Bool)} (hal : al.contains k = false) (hT : T k = ai [.r (Rat.divInt 0 1)]) : Rg.Step Tryz.prog Q l n T G ik al a0 k { dst := some d, op := .build 63 #[], type := ty, pos := pos, after := af, guard := gd } := by
 intro a w hG hO hN
 exact qm (P := Tryz.prog) bap ⟨_, rfl, hG, Below.refl _ _, by rw [hT]; exact ⟨_, rfl, ek.r (l1 := []) (l2 := []) (aoz w) rfl⟩, fun h => by rw [hal] at h; cases h⟩
section
variable {p q r s a b : Rat}
theorem bjg {fe eu fu fq ic ib gy gu : Int} (hv : p = (Wd.qR fe eu) ∧ q = (Wd.qR fu fq) ∧ r = (Wd.qR ic ib) ∧ s = (Wd.qR gy gu)) (h1 : Ae fe eu fu fq) (h2 : Ae ic ib gy gu) : ou 2 p ∧ ou 2 q ∧ ou 2 r ∧ ou 2 s := by
 obtain ⟨rfl, rfl, rfl, rfl⟩ := hv
 exact ⟨Jr h1.1, Jr h1.2.1, Jr h2.1, Jr h2.2.1⟩
theorem bas (e : a = ko (p * r) [p * s, q * r, q * s] ∧ b = jd (p * r) [p * s, q * r, q * s]) (sp : ou 2 p) (sq : ou 2 q) (sr : ou 2 r) (ss : ou 2 s) : ou (4 + 1) a ∧ ou (4 + 1) b := by
 have k := adx sp sq sr ss om
 rw [e.1, e.2]
 exact ⟨(Ui k.1 k.2).mono om om, (Mc k.1 k.2).mono om om⟩
theorem bji (e : a = p + r ∧ b = q + s) (sp : ou 2 p) (sq : ou 2 q) (sr : ou 2 r) (ss : ou 2 s) : ou (4 + 1) a ∧ ou (4 + 1) b := by
 rw [e.1, e.2]
 exact ⟨sp.add sr om, sq.add ss om⟩
theorem bjh (e : a = p - s ∧ b = q - r) (sp : ou 2 p) (sq : ou 2 q) (sr : ou 2 r) (ss : ou 2 s) : ou (4 + 1) a ∧ ou (4 + 1) b := by
 rw [e.1, e.2]
 exact ⟨sp.sub ss om, sq.sub sr om⟩
end
set_option maxHeartbeats 16000000 in
theorem ayp {fe eu fu fq ic ib gy gu : Int} {g kd : Int} (p q r s a0 b0 a1 b1 a2 b2 a3 b3 : Rat) (t : Gj) (w : World) (u1 : Value) (h1 : ai [iv fe, iv eu, iv fu, iv fq] w u1) (u2 : Value) (h2 : ai [iv ic, iv ib, iv gy, iv gu] w u2)
  (hv : p = (Wd.qR fe eu) ∧ q = (Wd.qR fu fq) ∧ r = (Wd.qR ic ib) ∧ s = (Wd.qR gy gu)) (he : (a0 = p + r ∧ b0 = q + s) ∧ (a1 = p - s ∧ b1 = q - r) ∧ (a2 = ko (p * r) [p * s, q * r, q * s] ∧ b2 = jd (p * r) [p * s, q * r, q * s]) ∧ (a3 = ko (p * s⁻¹) [p * r⁻¹, q * s⁻¹, q * r⁻¹] ∧ b3 = jd (p * s⁻¹) [p * r⁻¹, q * s⁻¹, q * r⁻¹]))
  (hr : (¬ (Ae fe eu fu fq ∧ Ae ic ib gy gu ∧ 1 ≤ g ∧ g ≤ 1000000) → t = ⟨0, 0, 0, 0, 1⟩) ∧ ((Ae fe eu fu fq ∧ Ae ic ib gy gu ∧ 1 ≤ g ∧ g ≤ 1000000) → (kd = 1 → t = Cx (wz a1 g) (Cj b1 g)) ∧ (kd = 2 → t = Cx (wz a2 g) (Cj b2 g)) ∧ (kd = 3 → (r ≤ Rat.divInt 0 1 ∧ Rat.divInt 0 1 ≤ s) → t = ⟨0, 0, 0, 0, 4⟩) ∧ (kd = 3 → ¬ (r ≤ Rat.divInt 0 1 ∧ Rat.divInt 0 1 ≤ s) → t = Cx (wz a3 g) (Cj b3 g)) ∧ (¬ kd = 1 → ¬ kd = 2 → ¬ kd = 3 → t = Cx (wz a0 g) (Cj b0 g)))) :
  Calls Tryz.prog 27 #[.int .i64 kd, u1, u2, .int .i64 g] w (jh (Ga t) w) := by
 have HV := hide hv
 have HE := hide he
 have HR := hide hr
 clear hv he hr
 have hu1 := Af h1
 subst hu1
 have hu2 := Af h2
 subst hu2
 go_enter Tryz.func27, Tryz.ntmps27
 go_upto_region 1 with fail
 have hO := (Own.push (T := 41) (ls := zS) (cs := [.int .i64 0, .int .i64 0, .int .i64 0, .int .i64 0]) (Own.push (T := 41) (ls := [iv ic, iv ib, iv gy, iv gu]) (cs := [.int .i64 ic, .int .i64 ib, .int .i64 gy, .int .i64 gu]) (Own.push (T := 41) (ls := [iv fe, iv eu, iv fu, iv fq]) (cs := [.int .i64 fe, .int .i64 eu, .int .i64 fu, .int .i64 fq]) (Own.nil w) (ek.v (kg _) (ek.v (kg _) (ek.v (kg _) (ek.v (kg _) rfl)))) (w.heap.size) rfl) (((ek.v (kg _) (ek.v (kg _) (ek.v (kg _) (ek.v (kg _) rfl)))) : ek w [iv ic, iv ib, iv gy, iv gu] [.int .i64 ic, .int .i64 ib, .int .i64 gy, .int .i64 gu]).below (by repeat (first | exact Below.refl _ _ | refine ja ?_ _))) (w.heap.size + 1) (by simp only [World.size_alloc])) (((ek.vs w [.int .i64 0, .int .i64 0, .int .i64 0, .int .i64 0] rfl) : ek w zS [.int .i64 0, .int .i64 0, .int .i64 0, .int .i64 0]).below (by repeat (first | exact Below.refl _ _ | refine ja ?_ _))) (w.heap.size + 2) (by simp only [World.size_alloc]))
 generalize ((w.alloc (.cells #[.int .i64 fe, .int .i64 eu, .int .i64 fu, .int .i64 fq] 41)).alloc (.cells #[.int .i64 ic, .int .i64 ib, .int .i64 gy, .int .i64 gu] 41)).alloc (.cells #[.int .i64 0, .int .i64 0, .int .i64 0, .int .i64 0] 41) = W0 at *
 have HO := hide hO
 clear hO
 by_cases g1 : Ae fe eu fu fq
 ·
  by_cases g2 : Ae ic ib gy gu
  ·
   by_cases g3 : 1 ≤ g ∧ g ≤ 1000000
   ·
    have k1 : decide (Ae fe eu fu fq) = true := decide_eq_true g1
    have k2 : decide (Ae ic ib gy gu) = true := decide_eq_true g2
    go_upto_region 1 with fail
    refine Rg.fw 13 60 (Rg.pick [ai [iv fe, iv eu, iv fu, iv fq], Rg.bf (.bool true), Rg.bf (.bool false), Rg.bf (.bool false), ai [iv ic, iv ib, iv gy, iv gu], Rg.bf (.bool true), Rg.bf (.bool false), Rg.bf (.bool false), Rg.bf (.bool false), Rg.bf (.int .i64 g), Rg.bf (.bool true), Rg.bf (.bool false), Rg.bf (.bool false)]) (ay w [(w.heap.size + 2, 41, zS), (w.heap.size + 1, 41, [iv ic, iv ib, iv gy, iv gu]), (w.heap.size, 41, [iv fe, iv eu, iv fu, iv fq])] W0) ik [] kr rfl (Rg.gm.pick ⟨au _, Rg.ag _, Rg.ag _, Rg.ag _, au _, Rg.ag _, Rg.ag _, Rg.ag _, Rg.ag _, Rg.ag _, Rg.ag _, Rg.ag _, Rg.ag _, trivial⟩) (ay.begin (aa HO))
     (ae (fo qp qo (Rg.cz kr rfl) [] [iv fe, iv eu, iv fu, iv fq] [])
     (ae (jf Tryz.func85 kr rfl ay.step (Rg.ax 0 kr) (fun W v0 hG h0 => k1 ▸ Ux W _ h0))
     (ae (Gd rfl (Rg.ax 1 kr) rfl rfl)
     (ae (ig rfl (Rg.ax 2 kr))
     (Rg.bg (Rg.il (d := 16) rfl kr rfl (fo qp nu (Rg.cz kr rfl) [] [iv ic, iv ib, iv gy, iv gu] []))
     (Rg.bg (Rg.il (d := 16) rfl kr rfl (jf Tryz.func85 kr rfl ay.step (Rg.ax 4 kr) (fun W v0 hG h0 => k2 ▸ Ux W _ h0)))
     (Rg.bg (Rg.il (d := 16) rfl kr rfl (Gd rfl (Rg.ax 5 kr) rfl rfl))
     (ae (zf rfl (Rg.ax 3 kr) (Rg.ax 6 kr))
     (ae (ig rfl (Rg.ax 7 kr))
     (Rg.bg (Rg.il (d := 21) rfl kr rfl (ig rfl (Rg.cz kr rfl)))
     (Rg.bg (Rg.il (d := 21) rfl kr rfl (jf Tryz.func65 kr rfl ay.step (Rg.ax 9 kr) (fun W v0 hG h0 => by cases h0; exact (adr g true (decide_eq_true g3).symm W).mono fun e w' h => ⟨_, h.1, h.2 ▸ Below.refl _ _, rfl⟩)))
     (Rg.bg (Rg.il (d := 21) rfl kr rfl (Gd rfl (Rg.ax 10 kr) rfl rfl))
     (ae (zf rfl (Rg.ax 8 kr) (Rg.ax 11 kr))
     Rg.cu))))))))))))) ?_
    intro v1 V1 hG1 hv1 hne1
    simp only [Rg.puts, jr, jq, jo, jm, Act.put, jl, jk, ji]
    have e12 : v1 12 = .bool false := hv1 12 (by decide)
    simp only [e12]
    have hO := hG1.1
    clear HO
    have HO := hide hO
    clear hO hG1 hv1 hne1
    try clear e12
    have HQ := hide (And.intro g1 (And.intro g2 g3))
    have HS := hide (bjg (aa HV) g1 g2)
    have HR2 := hide ((aa HR).2 ⟨g1, g2, g3⟩)
    clear HR g1 g2 g3 k1 k2
    go_upto_region 3 with fail
    refine Rg.region 6 60 (Rg.pick [ai [iv fe, iv eu, iv fu, iv fq], ai [.r p, .r q], ai [iv ic, iv ib, iv gy, iv gu], ai [.r r, .r s], tu 100 zY V1.heap.size, tu 100 zY V1.heap.size]) (ay w [(w.heap.size + 2, 41, zS), (w.heap.size + 1, 41, [iv ic, iv ib, iv gy, iv gu]), (w.heap.size, 41, [iv fe, iv eu, iv fu, iv fq])] V1) ik [4, 5] kr kr rfl (Rg.gm.pick ⟨au _, au _, au _, au _, uq _ _ _, uq _ _ _, trivial⟩) (ay.start (aa HO))
     (ae (fo qp qo (Rg.cz kr rfl) [] [iv fe, iv eu, iv fu, iv fq] [])
     (ae (jf Tryz.func86 kr rfl ay.step (Rg.ax 0 kr) (fun W v0 hG h0 => Xu (aa HV).1 (aa HV).2.1 (axd ⟨(aa HQ).1.1, (aa HQ).1.2.1⟩ W _ h0)))
     (ae (fo qp nu (Rg.cz kr rfl) [] [iv ic, iv ib, iv gy, iv gu] [])
     (ae (jf Tryz.func86 kr rfl ay.step (Rg.ax 2 kr) (fun W v0 hG h0 => Xu (aa HV).2.2.1 (aa HV).2.2.2 (axd ⟨(aa HQ).2.1.1, (aa HQ).2.1.2.1⟩ W _ h0)))
     (ae (xc afd rfl ay.step ay.size rfl (ym (by intro j hj; simp at hj; (repeat' (first | (rcases hj with rfl | hj))) <;> first | (subst hj; exact ⟨_, _, _, rfl⟩) | exact ⟨_, _, _, rfl⟩)))
     (ae (xc afd rfl ay.step ay.size rfl (ym (by intro j hj; simp at hj; (repeat' (first | (rcases hj with rfl | hj))) <;> first | (subst hj; exact ⟨_, _, _, rfl⟩) | exact ⟨_, _, _, rfl⟩)))
     Rg.cu)))))) ?_
    intro v2 V2 hG2 hv2 hne2
    simp only [Rg.puts, jr, jq, jo, jm, Act.put, jl, jk, ji]
    obtain ⟨Ei, e4, hge4, Wj⟩ := (show tu 100 zY V1.heap.size V2 (v2 4) from hv2 4 (by decide))
    obtain ⟨Eh, e5, Lc, Rb⟩ := (show tu 100 zY V1.heap.size V2 (v2 5) from hv2 5 (by decide))
    simp only [e4, e5]
    have hO := hG2.1
    have hnn : Eh ≠ Ei := fun h => hne2 5 4 rfl rfl (by decide) (by decide) (by decide) rfl rfl (by rw [e4, e5, h])
    replace hO := Own.Xb (aa HO) hG2.2 hge4 Wj Lc Rb hnn
    clear hnn hge4 Wj Lc Rb
    refine ky hO 1 [] zY [.r p, .r q] [] rfl Cy rfl (show ai [.r p, .r q] V2 (v2 1) from hv2 1 (by decide)) rfl rfl rfl ?_
    intro Dl iy hk0
    replace hO := iy
    clear iy
    refine ky hO 0 [] zY [.r r, .r s] [] rfl Cy rfl (hk0 _ _ (show ai [.r r, .r s] V2 (v2 3) from hv2 3 (by decide))) rfl rfl rfl ?_
    intro avu hO1 hk1
    replace hO := hO1
    clear hO1
    clear HO
    have HO := hide hO
    clear hO hG2 hv2 hne2 hk0 hk1
    try clear e4 e5
    go_upto_region 4 with fail
    refine Rg.fw 4 60 (Rg.pick [ai [.r p, .r q], ai [.r r, .r s], ai [.r a0, .r b0], tu 100 zY avu.heap.size]) (ay w [(Eh, 100, [.r r, .r s]), (Ei, 100, [.r p, .r q]), (w.heap.size + 2, 41, zS), (w.heap.size + 1, 41, [iv ic, iv ib, iv gy, iv gu]), (w.heap.size, 41, [iv fe, iv eu, iv fu, iv fq])] avu) ik [3] kr rfl (Rg.gm.pick ⟨au _, au _, au _, uq _ _ _, trivial⟩) (ay.begin (aa HO))
     (ae (fo Dh nu (Rg.cz kr rfl) [] [.r p, .r q] [])
     (ae (fo Dh me0 (Rg.cz kr rfl) [] [.r r, .r s] [])
     (ae (iw Tryz.func87 kr rfl ay.step (Rg.ax 0 kr) (Rg.ax 1 kr) (fun W v0 v1 hG h0 h1 => Xu (aa HE).1.1 (aa HE).1.2 (azf (aa HS).1 (aa HS).2.1 (aa HS).2.2.1 (aa HS).2.2.2 W _ h0 _ h1)))
     (ae (xc afd rfl ay.step ay.size rfl (ym (by intro j hj; simp at hj; (repeat' (first | (rcases hj with rfl | hj))) <;> first | (subst hj; exact ⟨_, _, _, rfl⟩) | exact ⟨_, _, _, rfl⟩)))
     Rg.cu)))) ?_
    intro v3 V3 hG3 hv3 qh
    simp only [Rg.puts, jr, jq, jo, jm, Act.put, jl, jk, ji]
    obtain ⟨Fp, e3, Qd, hz3⟩ := (show tu 100 zY avu.heap.size V3 (v3 3) from hv3 3 (by decide))
    simp only [e3]
    have hO := hG3.1
    replace hO := Own.add (aa HO) hG3.2 Qd hz3
    clear Qd hz3
    refine ky hO 0 [] zY [.r a0, .r b0] [] rfl Cy rfl (show ai [.r a0, .r b0] V3 (v3 2) from hv3 2 (by decide)) rfl rfl rfl ?_
    intro Ea iy hk0
    replace hO := iy
    clear iy
    clear HO
    have HO := hide hO
    clear hO hG3 hv3 qh hk0
    try clear e3
    go_upto_region 5 with fail
    refine Rg.fw 1 60 (Rg.pick [Rg.bf (.int .i64 kd)]) (ay w [(Fp, 100, [.r a0, .r b0]), (Eh, 100, [.r r, .r s]), (Ei, 100, [.r p, .r q]), (w.heap.size + 2, 41, zS), (w.heap.size + 1, 41, [iv ic, iv ib, iv gy, iv gu]), (w.heap.size, 41, [iv fe, iv eu, iv fu, iv fq])] Ea) ik [] kr rfl (Rg.gm.pick ⟨Rg.ag _, trivial⟩) (ay.begin (aa HO))
     (ae (ig rfl (Rg.cz kr rfl))
     Rg.cu) ?_
    intro v4 V4 hG4 hv4 yg
    simp only [Rg.puts, jr, jq, jo, jm, Act.put, jl, jk, ji]
    have e0 : v4 0 = .int .i64 kd := hv4 0 (by decide)
    simp only [e0]
    have hO := hG4.1
    clear HO
    have HO := hide hO
    clear hO hG4 hv4 yg
    try clear e0
    by_cases q1 : kd = 1
    ·
     have t1 : (kd == 1) = true := beq_iff_eq.2 q1
     go_upto_region 6 with fail
     refine Rg.fw 2 60 (Rg.pick [Rg.bf (.bool true), Rg.bf (.bool true)]) (ay w [(Fp, 100, [.r a0, .r b0]), (Eh, 100, [.r r, .r s]), (Ei, 100, [.r p, .r q]), (w.heap.size + 2, 41, zS), (w.heap.size + 1, 41, [iv ic, iv ib, iv gy, iv gu]), (w.heap.size, 41, [iv fe, iv eu, iv fu, iv fq])] V4) ik [] kr rfl (Rg.gm.pick ⟨Rg.ag _, Rg.ag _, trivial⟩) (ay.begin (aa HO))
      (ae (Gf rfl (Rg.cz kr rfl) (Rg.mh _) rfl t1)
      (ae (og rfl (Rg.ax 0 kr))
      Rg.cu)) ?_
     intro v5 V5 Ap hv5 hne5
     simp only [Rg.puts, jr, jq, jo, jm, Act.put, jl, jk, ji]
     have e0 : v5 0 = .bool true := hv5 0 (by decide)
     have e1 : v5 1 = .bool true := hv5 1 (by decide)
     simp only [e0, e1]
     have hO := Ap.1
     clear HO
     have HO := hide hO
     clear hO Ap hv5 hne5
     try clear e0 e1
     go_upto_region 7 with fail
     refine Rg.fw 3 60 (Rg.pick [ai [.r p, .r q], ai [.r r, .r s], ai [.r a1, .r b1]]) (ay w [(Fp, 100, [.r a0, .r b0]), (Eh, 100, [.r r, .r s]), (Ei, 100, [.r p, .r q]), (w.heap.size + 2, 41, zS), (w.heap.size + 1, 41, [iv ic, iv ib, iv gy, iv gu]), (w.heap.size, 41, [iv fe, iv eu, iv fu, iv fq])] V5) ik [] kr rfl (Rg.gm.pick ⟨au _, au _, au _, trivial⟩) (ay.begin (aa HO))
      (ae (fo Dh qo (Rg.cz kr rfl) [] [.r p, .r q] [])
      (ae (fo Dh nu (Rg.cz kr rfl) [] [.r r, .r s] [])
      (ae (iw Tryz.func88 kr rfl ay.step (Rg.ax 0 kr) (Rg.ax 1 kr) (fun W v0 v1 hG h0 h1 => Xu (aa HE).2.1.1 (aa HE).2.1.2 (azh (aa HS).1 (aa HS).2.1 (aa HS).2.2.1 (aa HS).2.2.2 W _ h0 _ h1)))
      Rg.cu))) ?_
     intro v6 V6 Et hv6 Gg
     simp only [Rg.puts, jr, jq, jo, jm, Act.put, jl, jk, ji]
     have hO := Et.1
     refine ky hO 0 [] [.r a0, .r b0] [.r a1, .r b1] [] rfl Cy rfl (show ai [.r a1, .r b1] V6 (v6 2) from hv6 2 (by decide)) rfl rfl rfl ?_
     intro avt iy hk0
     replace hO := iy
     clear iy
     clear HO
     have HO := hide hO
     clear hO Et hv6 Gg hk0
     have HT2 := hide ((aa HR2).1 q1)
     have HW := hide (bjh (aa HE).2.1 (aa HS).1 (aa HS).2.1 (aa HS).2.2.1 (aa HS).2.2.2)
     clear HR2
     go_upto_region 14 with fail
     refine Rg.fw 6 60 (Rg.pick [ai [.r a1, .r b1], Rg.bf (.int .i64 g), ai [.r (wz a1 g), .r (Cj b1 g)], tq [ai [iv t.a, iv t.b, iv t.c, iv t.d], Rg.bf (.int .i64 t.e)], ai [iv t.a, iv t.b, iv t.c, iv t.d], Rg.bf (.int .i64 t.e)]) (ay w [(Fp, 100, [.r a1, .r b1]), (Eh, 100, [.r r, .r s]), (Ei, 100, [.r p, .r q]), (w.heap.size + 2, 41, zS), (w.heap.size + 1, 41, [iv ic, iv ib, iv gy, iv gu]), (w.heap.size, 41, [iv fe, iv eu, iv fu, iv fq])] avt) ik [] kr rfl (Rg.gm.pick ⟨au _, Rg.ag _, au _, oz ⟨(au _), (Rg.ag _), trivial⟩, au _, Rg.ag _, trivial⟩) (ay.begin (aa HO))
      (ae (fo Dh me0 (Rg.cz kr rfl) [] [.r a1, .r b1] [])
      (ae (ig rfl (Rg.cz kr rfl))
      (ae (iw Tryz.func93 kr rfl ay.step (Rg.ax 0 kr) (Rg.ax 1 kr) (fun W v0 v1 hG h0 h1 => by cases h1; exact Ye (K := 4) (aa HW).1 (aa HW).2 (aa HQ).2.2.1 (aa HQ).2.2.2 om W _ h0))
      (ae (jf Tryz.func92 kr rfl ay.step (Rg.ax 2 kr) (fun W v0 hG h0 => Qw (aa HT2) (Yf W _ h0)))
      (ae (oo (ts := [ai [iv t.a, iv t.b, iv t.c, iv t.d], Rg.bf (.int .i64 t.e)]) rfl (Rg.ax 3 kr) (of_decide_eq_true rfl) rfl)
      (ae (oo (ts := [ai [iv t.a, iv t.b, iv t.c, iv t.d], Rg.bf (.int .i64 t.e)]) rfl (Rg.ax 3 kr) (of_decide_eq_true rfl) rfl)
      Rg.cu)))))) ?_
     intro v7 V7 Nk hv7 Qa
     simp only [Rg.puts, jr, jq, jo, jm, Act.put, jl, jk, ji]
     have e5 : v7 5 = .int .i64 t.e := hv7 5 (by decide)
     simp only [e5]
     have hO := Nk.1
     refine ky hO 3 [] zS [iv t.a, iv t.b, iv t.c, iv t.d] [] rfl uj rfl (show ai [iv t.a, iv t.b, iv t.c, iv t.d] V7 (v7 4) from hv7 4 (by decide)) rfl rfl rfl ?_
     intro anc iy hk0
     replace hO := iy
     clear iy
     clear HO
     have HO := hide hO
     clear hO Nk hv7 Qa hk0
     try clear e5
     go_wp2_with fail
     exact yx Tryz.results27 xg rfl rfl (aa HO) Iq rfl rfl
    ·
     by_cases q2 : kd = 2
     ·
      have t1 : (kd == 1) = false := beq_eq_false_iff_ne.2 q1
      go_upto_region 6 with fail
      refine Rg.fw 2 60 (Rg.pick [Rg.bf (.bool false), Rg.bf (.bool false)]) (ay w [(Fp, 100, [.r a0, .r b0]), (Eh, 100, [.r r, .r s]), (Ei, 100, [.r p, .r q]), (w.heap.size + 2, 41, zS), (w.heap.size + 1, 41, [iv ic, iv ib, iv gy, iv gu]), (w.heap.size, 41, [iv fe, iv eu, iv fu, iv fq])] V4) ik [] kr rfl (Rg.gm.pick ⟨Rg.ag _, Rg.ag _, trivial⟩) (ay.begin (aa HO))
       (ae (Gf rfl (Rg.cz kr rfl) (Rg.mh _) rfl t1)
       (ae (og rfl (Rg.ax 0 kr))
       Rg.cu)) ?_
      intro v5 V5 Ap hv5 hne5
      simp only [Rg.puts, jr, jq, jo, jm, Act.put, jl, jk, ji]
      have e0 : v5 0 = .bool false := hv5 0 (by decide)
      have e1 : v5 1 = .bool false := hv5 1 (by decide)
      simp only [e0, e1]
      have hO := Ap.1
      clear HO
      have HO := hide hO
      clear hO Ap hv5 hne5
      try clear e0 e1
      have t2 : (kd == 2) = true := beq_iff_eq.2 q2
      go_upto_region 8 with fail
      refine Rg.fw 2 60 (Rg.pick [Rg.bf (.bool true), Rg.bf (.bool true)]) (ay w [(Fp, 100, [.r a0, .r b0]), (Eh, 100, [.r r, .r s]), (Ei, 100, [.r p, .r q]), (w.heap.size + 2, 41, zS), (w.heap.size + 1, 41, [iv ic, iv ib, iv gy, iv gu]), (w.heap.size, 41, [iv fe, iv eu, iv fu, iv fq])] V5) ik [] kr rfl (Rg.gm.pick ⟨Rg.ag _, Rg.ag _, trivial⟩) (ay.begin (aa HO))
       (ae (Gf rfl (Rg.cz kr rfl) (Rg.mh _) rfl t2)
       (ae (og rfl (Rg.ax 0 kr))
       Rg.cu)) ?_
      intro v6 V6 Et hv6 Gg
      simp only [Rg.puts, jr, jq, jo, jm, Act.put, jl, jk, ji]
      have e0 : v6 0 = .bool true := hv6 0 (by decide)
      have e1 : v6 1 = .bool true := hv6 1 (by decide)
      simp only [e0, e1]
      have hO := Et.1
      clear HO
      have HO := hide hO
      clear hO Et hv6 Gg
      try clear e0 e1
      go_upto_region 9 with fail
      refine Rg.fw 3 60 (Rg.pick [ai [.r p, .r q], ai [.r r, .r s], ai [.r a2, .r b2]]) (ay w [(Fp, 100, [.r a0, .r b0]), (Eh, 100, [.r r, .r s]), (Ei, 100, [.r p, .r q]), (w.heap.size + 2, 41, zS), (w.heap.size + 1, 41, [iv ic, iv ib, iv gy, iv gu]), (w.heap.size, 41, [iv fe, iv eu, iv fu, iv fq])] V6) ik [] kr rfl (Rg.gm.pick ⟨au _, au _, au _, trivial⟩) (ay.begin (aa HO))
       (ae (fo Dh qo (Rg.cz kr rfl) [] [.r p, .r q] [])
       (ae (fo Dh nu (Rg.cz kr rfl) [] [.r r, .r s] [])
       (ae (iw Tryz.func89 kr rfl ay.step (Rg.ax 0 kr) (Rg.ax 1 kr) (fun W v0 v1 hG h0 h1 => Xu (aa HE).2.2.1.1 (aa HE).2.2.1.2 (aii (aa HS).1 (aa HS).2.1 (aa HS).2.2.1 (aa HS).2.2.2 om W _ h0 _ h1)))
       Rg.cu))) ?_
      intro v7 V7 Nk hv7 Qa
      simp only [Rg.puts, jr, jq, jo, jm, Act.put, jl, jk, ji]
      have hO := Nk.1
      refine ky hO 0 [] [.r a0, .r b0] [.r a2, .r b2] [] rfl Cy rfl (show ai [.r a2, .r b2] V7 (v7 2) from hv7 2 (by decide)) rfl rfl rfl ?_
      intro anc iy hk0
      replace hO := iy
      clear iy
      clear HO
      have HO := hide hO
      clear hO Nk hv7 Qa hk0
      have HT2 := hide ((aa HR2).2.1 q2)
      have HW := hide (bas (aa HE).2.2.1 (aa HS).1 (aa HS).2.1 (aa HS).2.2.1 (aa HS).2.2.2)
      clear HR2
      go_upto_region 14 with fail
      refine Rg.fw 6 60 (Rg.pick [ai [.r a2, .r b2], Rg.bf (.int .i64 g), ai [.r (wz a2 g), .r (Cj b2 g)], tq [ai [iv t.a, iv t.b, iv t.c, iv t.d], Rg.bf (.int .i64 t.e)], ai [iv t.a, iv t.b, iv t.c, iv t.d], Rg.bf (.int .i64 t.e)]) (ay w [(Fp, 100, [.r a2, .r b2]), (Eh, 100, [.r r, .r s]), (Ei, 100, [.r p, .r q]), (w.heap.size + 2, 41, zS), (w.heap.size + 1, 41, [iv ic, iv ib, iv gy, iv gu]), (w.heap.size, 41, [iv fe, iv eu, iv fu, iv fq])] anc) ik [] kr rfl (Rg.gm.pick ⟨au _, Rg.ag _, au _, oz ⟨(au _), (Rg.ag _), trivial⟩, au _, Rg.ag _, trivial⟩) (ay.begin (aa HO))
       (ae (fo Dh me0 (Rg.cz kr rfl) [] [.r a2, .r b2] [])
       (ae (ig rfl (Rg.cz kr rfl))
       (ae (iw Tryz.func93 kr rfl ay.step (Rg.ax 0 kr) (Rg.ax 1 kr) (fun W v0 v1 hG h0 h1 => by cases h1; exact Ye (K := 4) (aa HW).1 (aa HW).2 (aa HQ).2.2.1 (aa HQ).2.2.2 om W _ h0))
       (ae (jf Tryz.func92 kr rfl ay.step (Rg.ax 2 kr) (fun W v0 hG h0 => Qw (aa HT2) (Yf W _ h0)))
       (ae (oo (ts := [ai [iv t.a, iv t.b, iv t.c, iv t.d], Rg.bf (.int .i64 t.e)]) rfl (Rg.ax 3 kr) (of_decide_eq_true rfl) rfl)
       (ae (oo (ts := [ai [iv t.a, iv t.b, iv t.c, iv t.d], Rg.bf (.int .i64 t.e)]) rfl (Rg.ax 3 kr) (of_decide_eq_true rfl) rfl)
       Rg.cu)))))) ?_
      intro v8 V8 Wv Sk aab
      simp only [Rg.puts, jr, jq, jo, jm, Act.put, jl, jk, ji]
      have e5 : v8 5 = .int .i64 t.e := Sk 5 (by decide)
      simp only [e5]
      have hO := Wv.1
      refine ky hO 3 [] zS [iv t.a, iv t.b, iv t.c, iv t.d] [] rfl uj rfl (show ai [iv t.a, iv t.b, iv t.c, iv t.d] V8 (v8 4) from Sk 4 (by decide)) rfl rfl rfl ?_
      intro bkv iy hk0
      replace hO := iy
      clear iy
      clear HO
      have HO := hide hO
      clear hO Wv Sk aab hk0
      try clear e5
      go_wp2_with fail
      exact yx Tryz.results27 xg rfl rfl (aa HO) Iq rfl rfl
     ·
      by_cases q3 : kd = 3
      ·
       have t1 : (kd == 1) = false := beq_eq_false_iff_ne.2 q1
       go_upto_region 6 with fail
       refine Rg.fw 2 60 (Rg.pick [Rg.bf (.bool false), Rg.bf (.bool false)]) (ay w [(Fp, 100, [.r a0, .r b0]), (Eh, 100, [.r r, .r s]), (Ei, 100, [.r p, .r q]), (w.heap.size + 2, 41, zS), (w.heap.size + 1, 41, [iv ic, iv ib, iv gy, iv gu]), (w.heap.size, 41, [iv fe, iv eu, iv fu, iv fq])] V4) ik [] kr rfl (Rg.gm.pick ⟨Rg.ag _, Rg.ag _, trivial⟩) (ay.begin (aa HO))
        (ae (Gf rfl (Rg.cz kr rfl) (Rg.mh _) rfl t1)
        (ae (og rfl (Rg.ax 0 kr))
        Rg.cu)) ?_
       intro v5 V5 Ap hv5 hne5
       simp only [Rg.puts, jr, jq, jo, jm, Act.put, jl, jk, ji]
       have e0 : v5 0 = .bool false := hv5 0 (by decide)
       have e1 : v5 1 = .bool false := hv5 1 (by decide)
       simp only [e0, e1]
       have hO := Ap.1
       clear HO
       have HO := hide hO
       clear hO Ap hv5 hne5
       try clear e0 e1
       have t2 : (kd == 2) = false := beq_eq_false_iff_ne.2 q2
       go_upto_region 8 with fail
       refine Rg.fw 2 60 (Rg.pick [Rg.bf (.bool false), Rg.bf (.bool false)]) (ay w [(Fp, 100, [.r a0, .r b0]), (Eh, 100, [.r r, .r s]), (Ei, 100, [.r p, .r q]), (w.heap.size + 2, 41, zS), (w.heap.size + 1, 41, [iv ic, iv ib, iv gy, iv gu]), (w.heap.size, 41, [iv fe, iv eu, iv fu, iv fq])] V5) ik [] kr rfl (Rg.gm.pick ⟨Rg.ag _, Rg.ag _, trivial⟩) (ay.begin (aa HO))
        (ae (Gf rfl (Rg.cz kr rfl) (Rg.mh _) rfl t2)
        (ae (og rfl (Rg.ax 0 kr))
        Rg.cu)) ?_
       intro v6 V6 Et hv6 Gg
       simp only [Rg.puts, jr, jq, jo, jm, Act.put, jl, jk, ji]
       have e0 : v6 0 = .bool false := hv6 0 (by decide)
       have e1 : v6 1 = .bool false := hv6 1 (by decide)
       simp only [e0, e1]
       have hO := Et.1
       clear HO
       have HO := hide hO
       clear hO Et hv6 Gg
       try clear e0 e1
       have t3 : (kd == 3) = true := beq_iff_eq.2 q3
       go_upto_region 10 with fail
       refine Rg.fw 2 60 (Rg.pick [Rg.bf (.bool true), Rg.bf (.bool true)]) (ay w [(Fp, 100, [.r a0, .r b0]), (Eh, 100, [.r r, .r s]), (Ei, 100, [.r p, .r q]), (w.heap.size + 2, 41, zS), (w.heap.size + 1, 41, [iv ic, iv ib, iv gy, iv gu]), (w.heap.size, 41, [iv fe, iv eu, iv fu, iv fq])] V6) ik [] kr rfl (Rg.gm.pick ⟨Rg.ag _, Rg.ag _, trivial⟩) (ay.begin (aa HO))
        (ae (Gf rfl (Rg.cz kr rfl) (Rg.mh _) rfl t3)
        (ae (og rfl (Rg.ax 0 kr))
        Rg.cu)) ?_
       intro v7 V7 Nk hv7 Qa
       simp only [Rg.puts, jr, jq, jo, jm, Act.put, jl, jk, ji]
       have e0 : v7 0 = .bool true := hv7 0 (by decide)
       have e1 : v7 1 = .bool true := hv7 1 (by decide)
       simp only [e0, e1]
       have hO := Nk.1
       clear HO
       have HO := hide hO
       clear hO Nk hv7 Qa
       try clear e0 e1
       by_cases q0 : r ≤ Rat.divInt 0 1 ∧ Rat.divInt 0 1 ≤ s
       ·
        have k5 : decide (r ≤ Rat.divInt 0 1 ∧ Rat.divInt 0 1 ≤ s) = true := decide_eq_true q0
        have hr := (aa HR2).2.2.1 q3 q0
        clear HR2
        subst hr
        go_upto_region 11 with fail
        refine Rg.fw 3 60 (Rg.pick [ai [.r r, .r s], ai [.r (Rat.divInt 0 1)], Rg.bf (.bool true)]) (ay w [(Fp, 100, [.r a0, .r b0]), (Eh, 100, [.r r, .r s]), (Ei, 100, [.r p, .r q]), (w.heap.size + 2, 41, zS), (w.heap.size + 1, 41, [iv ic, iv ib, iv gy, iv gu]), (w.heap.size, 41, [iv fe, iv eu, iv fu, iv fq])] V7) ik [] kr rfl (Rg.gm.pick ⟨au _, au _, Rg.ag _, trivial⟩) (ay.begin (aa HO))
         (ae (fo Dh nu (Rg.cz kr rfl) [] [.r r, .r s] [])
         (ae (baj rfl rfl)
         (ae (iw Tryz.func90 kr rfl ay.step (Rg.ax 0 kr) (Rg.ax 1 kr) (fun W v0 v1 hG h0 h1 => k5 ▸ aeo (aa HS).2.2.1 (aa HS).2.2.2 (aax (K := 1) (Wd.Sz.of_le (by rw [gp]; omega) Nq om) om) W _ h0 _ h1))
         Rg.cu))) ?_
        intro v8 V8 Wv Sk aab
        simp only [Rg.puts, jr, jq, jo, jm, Act.put, jl, jk, ji]
        have e2 : v8 2 = .bool true := Sk 2 (by decide)
        simp only [e2]
        have hO := Wv.1
        clear HO
        have HO := hide hO
        clear hO Wv Sk aab
        try clear e2
        go_upto_region 12 with fail
        refine Rg.fw 1 60 (Rg.pick [ai zS]) (ay w [(Fp, 100, [.r a0, .r b0]), (Eh, 100, [.r r, .r s]), (Ei, 100, [.r p, .r q]), (w.heap.size + 2, 41, zS), (w.heap.size + 1, 41, [iv ic, iv ib, iv gy, iv gu]), (w.heap.size, 41, [iv fe, iv eu, iv fu, iv fq])] V8) ik [] kr rfl (Rg.gm.pick ⟨au _, trivial⟩) (ay.begin (aa HO))
         (ae (De Dg rfl rfl rfl)
         Rg.cu) ?_
        intro v9 V9 hG9 hv9 auu
        simp only [Rg.puts, jr, jq, jo, jm, Act.put, jl, jk, ji]
        have hO := hG9.1
        refine ky hO 3 [] zS zS [] rfl uj rfl (show ai zS V9 (v9 0) from hv9 0 (by decide)) rfl rfl rfl ?_
        intro bec iy hk0
        replace hO := iy
        clear iy
        clear HO
        have HO := hide hO
        clear hO hG9 hv9 auu hk0
        go_wp2_with fail
        exact yx Tryz.results27 xg rfl rfl (aa HO) Iq rfl rfl
       ·
        have k5 : decide (r ≤ Rat.divInt 0 1 ∧ Rat.divInt 0 1 ≤ s) = false := decide_eq_false q0
        have HZ := hide (nz4 (aa HV) (aa HQ).2.1 q0)
        go_upto_region 11 with fail
        refine Rg.fw 3 60 (Rg.pick [ai [.r r, .r s], ai [.r (Rat.divInt 0 1)], Rg.bf (.bool false)]) (ay w [(Fp, 100, [.r a0, .r b0]), (Eh, 100, [.r r, .r s]), (Ei, 100, [.r p, .r q]), (w.heap.size + 2, 41, zS), (w.heap.size + 1, 41, [iv ic, iv ib, iv gy, iv gu]), (w.heap.size, 41, [iv fe, iv eu, iv fu, iv fq])] V7) ik [] kr rfl (Rg.gm.pick ⟨au _, au _, Rg.ag _, trivial⟩) (ay.begin (aa HO))
         (ae (fo Dh nu (Rg.cz kr rfl) [] [.r r, .r s] [])
         (ae (baj rfl rfl)
         (ae (iw Tryz.func90 kr rfl ay.step (Rg.ax 0 kr) (Rg.ax 1 kr) (fun W v0 v1 hG h0 h1 => k5 ▸ aeo (aa HS).2.2.1 (aa HS).2.2.2 (aax (K := 1) (Wd.Sz.of_le (by rw [gp]; omega) Nq om) om) W _ h0 _ h1))
         Rg.cu))) ?_
        intro v8 V8 Wv Sk aab
        simp only [Rg.puts, jr, jq, jo, jm, Act.put, jl, jk, ji]
        have e2 : v8 2 = .bool false := Sk 2 (by decide)
        simp only [e2]
        have hO := Wv.1
        clear HO
        have HO := hide hO
        clear hO Wv Sk aab
        try clear e2
        go_upto_region 13 with fail
        refine Rg.fw 3 60 (Rg.pick [ai [.r p, .r q], ai [.r r, .r s], ai [.r a3, .r b3]]) (ay w [(Fp, 100, [.r a0, .r b0]), (Eh, 100, [.r r, .r s]), (Ei, 100, [.r p, .r q]), (w.heap.size + 2, 41, zS), (w.heap.size + 1, 41, [iv ic, iv ib, iv gy, iv gu]), (w.heap.size, 41, [iv fe, iv eu, iv fu, iv fq])] V8) ik [] kr rfl (Rg.gm.pick ⟨au _, au _, au _, trivial⟩) (ay.begin (aa HO))
         (ae (fo Dh qo (Rg.cz kr rfl) [] [.r p, .r q] [])
         (ae (fo Dh nu (Rg.cz kr rfl) [] [.r r, .r s] [])
         (ae (iw Tryz.func91 kr rfl ay.step (Rg.ax 0 kr) (Rg.ax 1 kr) (fun W v0 v1 hG h0 h1 => Xu (aa HE).2.2.2.1 (aa HE).2.2.2.2 (azg (K := 1) (aa HS).1 (aa HS).2.1 (aa HS).2.2.1 (aa HS).2.2.2 om (aa HZ).1 (aa HZ).2 W _ h0 _ h1)))
         Rg.cu))) ?_
        intro v9 V9 hG9 hv9 auu
        simp only [Rg.puts, jr, jq, jo, jm, Act.put, jl, jk, ji]
        have hO := hG9.1
        refine ky hO 0 [] [.r a0, .r b0] [.r a3, .r b3] [] rfl Cy rfl (show ai [.r a3, .r b3] V9 (v9 2) from hv9 2 (by decide)) rfl rfl rfl ?_
        intro bec iy hk0
        replace hO := iy
        clear iy
        clear HO
        have HO := hide hO
        clear hO hG9 hv9 auu hk0
        have HT2 := hide ((aa HR2).2.2.2.1 q3 q0)
        have HW := hide (bas (aa HE).2.2.2 (aa HS).1 (aa HS).2.1 ((aa HS).2.2.2.inv (aa HZ).2) ((aa HS).2.2.1.inv (aa HZ).1))
        clear HR2
        go_upto_region 14 with fail
        refine Rg.fw 6 60 (Rg.pick [ai [.r a3, .r b3], Rg.bf (.int .i64 g), ai [.r (wz a3 g), .r (Cj b3 g)], tq [ai [iv t.a, iv t.b, iv t.c, iv t.d], Rg.bf (.int .i64 t.e)], ai [iv t.a, iv t.b, iv t.c, iv t.d], Rg.bf (.int .i64 t.e)]) (ay w [(Fp, 100, [.r a3, .r b3]), (Eh, 100, [.r r, .r s]), (Ei, 100, [.r p, .r q]), (w.heap.size + 2, 41, zS), (w.heap.size + 1, 41, [iv ic, iv ib, iv gy, iv gu]), (w.heap.size, 41, [iv fe, iv eu, iv fu, iv fq])] bec) ik [] kr rfl (Rg.gm.pick ⟨au _, Rg.ag _, au _, oz ⟨(au _), (Rg.ag _), trivial⟩, au _, Rg.ag _, trivial⟩) (ay.begin (aa HO))
         (ae (fo Dh me0 (Rg.cz kr rfl) [] [.r a3, .r b3] [])
         (ae (ig rfl (Rg.cz kr rfl))
         (ae (iw Tryz.func93 kr rfl ay.step (Rg.ax 0 kr) (Rg.ax 1 kr) (fun W v0 v1 hG h0 h1 => by cases h1; exact Ye (K := 4) (aa HW).1 (aa HW).2 (aa HQ).2.2.1 (aa HQ).2.2.2 om W _ h0))
         (ae (jf Tryz.func92 kr rfl ay.step (Rg.ax 2 kr) (fun W v0 hG h0 => Qw (aa HT2) (Yf W _ h0)))
         (ae (oo (ts := [ai [iv t.a, iv t.b, iv t.c, iv t.d], Rg.bf (.int .i64 t.e)]) rfl (Rg.ax 3 kr) (of_decide_eq_true rfl) rfl)
         (ae (oo (ts := [ai [iv t.a, iv t.b, iv t.c, iv t.d], Rg.bf (.int .i64 t.e)]) rfl (Rg.ax 3 kr) (of_decide_eq_true rfl) rfl)
         Rg.cu)))))) ?_
        intro v10 V10 bcu aul bfs
        simp only [Rg.puts, jr, jq, jo, jm, Act.put, jl, jk, ji]
        have e5 : v10 5 = .int .i64 t.e := aul 5 (by decide)
        simp only [e5]
        have hO := bcu.1
        refine ky hO 3 [] zS [iv t.a, iv t.b, iv t.c, iv t.d] [] rfl uj rfl (show ai [iv t.a, iv t.b, iv t.c, iv t.d] V10 (v10 4) from aul 4 (by decide)) rfl rfl rfl ?_
        intro bor iy hk0
        replace hO := iy
        clear iy
        clear HO
        have HO := hide hO
        clear hO bcu aul bfs hk0
        try clear e5
        go_wp2_with fail
        exact yx Tryz.results27 xg rfl rfl (aa HO) Iq rfl rfl
      ·
       have t1 : (kd == 1) = false := beq_eq_false_iff_ne.2 q1
       go_upto_region 6 with fail
       refine Rg.fw 2 60 (Rg.pick [Rg.bf (.bool false), Rg.bf (.bool false)]) (ay w [(Fp, 100, [.r a0, .r b0]), (Eh, 100, [.r r, .r s]), (Ei, 100, [.r p, .r q]), (w.heap.size + 2, 41, zS), (w.heap.size + 1, 41, [iv ic, iv ib, iv gy, iv gu]), (w.heap.size, 41, [iv fe, iv eu, iv fu, iv fq])] V4) ik [] kr rfl (Rg.gm.pick ⟨Rg.ag _, Rg.ag _, trivial⟩) (ay.begin (aa HO))
        (ae (Gf rfl (Rg.cz kr rfl) (Rg.mh _) rfl t1)
        (ae (og rfl (Rg.ax 0 kr))
        Rg.cu)) ?_
       intro v5 V5 Ap hv5 hne5
       simp only [Rg.puts, jr, jq, jo, jm, Act.put, jl, jk, ji]
       have e0 : v5 0 = .bool false := hv5 0 (by decide)
       have e1 : v5 1 = .bool false := hv5 1 (by decide)
       simp only [e0, e1]
       have hO := Ap.1
       clear HO
       have HO := hide hO
       clear hO Ap hv5 hne5
       try clear e0 e1
       have t2 : (kd == 2) = false := beq_eq_false_iff_ne.2 q2
       go_upto_region 8 with fail
       refine Rg.fw 2 60 (Rg.pick [Rg.bf (.bool false), Rg.bf (.bool false)]) (ay w [(Fp, 100, [.r a0, .r b0]), (Eh, 100, [.r r, .r s]), (Ei, 100, [.r p, .r q]), (w.heap.size + 2, 41, zS), (w.heap.size + 1, 41, [iv ic, iv ib, iv gy, iv gu]), (w.heap.size, 41, [iv fe, iv eu, iv fu, iv fq])] V5) ik [] kr rfl (Rg.gm.pick ⟨Rg.ag _, Rg.ag _, trivial⟩) (ay.begin (aa HO))
        (ae (Gf rfl (Rg.cz kr rfl) (Rg.mh _) rfl t2)
        (ae (og rfl (Rg.ax 0 kr))
        Rg.cu)) ?_
       intro v6 V6 Et hv6 Gg
       simp only [Rg.puts, jr, jq, jo, jm, Act.put, jl, jk, ji]
       have e0 : v6 0 = .bool false := hv6 0 (by decide)
       have e1 : v6 1 = .bool false := hv6 1 (by decide)
       simp only [e0, e1]
       have hO := Et.1
       clear HO
       have HO := hide hO
       clear hO Et hv6 Gg
       try clear e0 e1
       have t3 : (kd == 3) = false := beq_eq_false_iff_ne.2 q3
       go_upto_region 10 with fail
       refine Rg.fw 2 60 (Rg.pick [Rg.bf (.bool false), Rg.bf (.bool false)]) (ay w [(Fp, 100, [.r a0, .r b0]), (Eh, 100, [.r r, .r s]), (Ei, 100, [.r p, .r q]), (w.heap.size + 2, 41, zS), (w.heap.size + 1, 41, [iv ic, iv ib, iv gy, iv gu]), (w.heap.size, 41, [iv fe, iv eu, iv fu, iv fq])] V6) ik [] kr rfl (Rg.gm.pick ⟨Rg.ag _, Rg.ag _, trivial⟩) (ay.begin (aa HO))
        (ae (Gf rfl (Rg.cz kr rfl) (Rg.mh _) rfl t3)
        (ae (og rfl (Rg.ax 0 kr))
        Rg.cu)) ?_
       intro v7 V7 Nk hv7 Qa
       simp only [Rg.puts, jr, jq, jo, jm, Act.put, jl, jk, ji]
       have e0 : v7 0 = .bool false := hv7 0 (by decide)
       have e1 : v7 1 = .bool false := hv7 1 (by decide)
       simp only [e0, e1]
       have hO := Nk.1
       clear HO
       have HO := hide hO
       clear hO Nk hv7 Qa
       try clear e0 e1
       have HT2 := hide ((aa HR2).2.2.2.2 q1 q2 q3)
       have HW := hide (bji (aa HE).1 (aa HS).1 (aa HS).2.1 (aa HS).2.2.1 (aa HS).2.2.2)
       clear HR2
       go_upto_region 14 with fail
       refine Rg.fw 6 60 (Rg.pick [ai [.r a0, .r b0], Rg.bf (.int .i64 g), ai [.r (wz a0 g), .r (Cj b0 g)], tq [ai [iv t.a, iv t.b, iv t.c, iv t.d], Rg.bf (.int .i64 t.e)], ai [iv t.a, iv t.b, iv t.c, iv t.d], Rg.bf (.int .i64 t.e)]) (ay w [(Fp, 100, [.r a0, .r b0]), (Eh, 100, [.r r, .r s]), (Ei, 100, [.r p, .r q]), (w.heap.size + 2, 41, zS), (w.heap.size + 1, 41, [iv ic, iv ib, iv gy, iv gu]), (w.heap.size, 41, [iv fe, iv eu, iv fu, iv fq])] V7) ik [] kr rfl (Rg.gm.pick ⟨au _, Rg.ag _, au _, oz ⟨(au _), (Rg.ag _), trivial⟩, au _, Rg.ag _, trivial⟩) (ay.begin (aa HO))
        (ae (fo Dh me0 (Rg.cz kr rfl) [] [.r a0, .r b0] [])
        (ae (ig rfl (Rg.cz kr rfl))
        (ae (iw Tryz.func93 kr rfl ay.step (Rg.ax 0 kr) (Rg.ax 1 kr) (fun W v0 v1 hG h0 h1 => by cases h1; exact Ye (K := 4) (aa HW).1 (aa HW).2 (aa HQ).2.2.1 (aa HQ).2.2.2 om W _ h0))
        (ae (jf Tryz.func92 kr rfl ay.step (Rg.ax 2 kr) (fun W v0 hG h0 => Qw (aa HT2) (Yf W _ h0)))
        (ae (oo (ts := [ai [iv t.a, iv t.b, iv t.c, iv t.d], Rg.bf (.int .i64 t.e)]) rfl (Rg.ax 3 kr) (of_decide_eq_true rfl) rfl)
        (ae (oo (ts := [ai [iv t.a, iv t.b, iv t.c, iv t.d], Rg.bf (.int .i64 t.e)]) rfl (Rg.ax 3 kr) (of_decide_eq_true rfl) rfl)
        Rg.cu)))))) ?_
       intro v8 V8 Wv Sk aab
       simp only [Rg.puts, jr, jq, jo, jm, Act.put, jl, jk, ji]
       have e5 : v8 5 = .int .i64 t.e := Sk 5 (by decide)
       simp only [e5]
       have hO := Wv.1
       refine ky hO 3 [] zS [iv t.a, iv t.b, iv t.c, iv t.d] [] rfl uj rfl (show ai [iv t.a, iv t.b, iv t.c, iv t.d] V8 (v8 4) from Sk 4 (by decide)) rfl rfl rfl ?_
       intro bkv iy hk0
       replace hO := iy
       clear iy
       clear HO
       have HO := hide hO
       clear hO Wv Sk aab hk0
       try clear e5
       go_wp2_with fail
       exact yx Tryz.results27 xg rfl rfl (aa HO) Iq rfl rfl
   ·
    have k1 : decide (Ae fe eu fu fq) = true := decide_eq_true g1
    have k2 : decide (Ae ic ib gy gu) = true := decide_eq_true g2
    go_upto_region 1 with fail
    refine Rg.fw 13 60 (Rg.pick [ai [iv fe, iv eu, iv fu, iv fq], Rg.bf (.bool true), Rg.bf (.bool false), Rg.bf (.bool false), ai [iv ic, iv ib, iv gy, iv gu], Rg.bf (.bool true), Rg.bf (.bool false), Rg.bf (.bool false), Rg.bf (.bool false), Rg.bf (.int .i64 g), Rg.bf (.bool false), Rg.bf (.bool true), Rg.bf (.bool true)]) (ay w [(w.heap.size + 2, 41, zS), (w.heap.size + 1, 41, [iv ic, iv ib, iv gy, iv gu]), (w.heap.size, 41, [iv fe, iv eu, iv fu, iv fq])] W0) ik [] kr rfl (Rg.gm.pick ⟨au _, Rg.ag _, Rg.ag _, Rg.ag _, au _, Rg.ag _, Rg.ag _, Rg.ag _, Rg.ag _, Rg.ag _, Rg.ag _, Rg.ag _, Rg.ag _, trivial⟩) (ay.begin (aa HO))
     (ae (fo qp qo (Rg.cz kr rfl) [] [iv fe, iv eu, iv fu, iv fq] [])
     (ae (jf Tryz.func85 kr rfl ay.step (Rg.ax 0 kr) (fun W v0 hG h0 => k1 ▸ Ux W _ h0))
     (ae (Gd rfl (Rg.ax 1 kr) rfl rfl)
     (ae (ig rfl (Rg.ax 2 kr))
     (Rg.bg (Rg.il (d := 16) rfl kr rfl (fo qp nu (Rg.cz kr rfl) [] [iv ic, iv ib, iv gy, iv gu] []))
     (Rg.bg (Rg.il (d := 16) rfl kr rfl (jf Tryz.func85 kr rfl ay.step (Rg.ax 4 kr) (fun W v0 hG h0 => k2 ▸ Ux W _ h0)))
     (Rg.bg (Rg.il (d := 16) rfl kr rfl (Gd rfl (Rg.ax 5 kr) rfl rfl))
     (ae (zf rfl (Rg.ax 3 kr) (Rg.ax 6 kr))
     (ae (ig rfl (Rg.ax 7 kr))
     (Rg.bg (Rg.il (d := 21) rfl kr rfl (ig rfl (Rg.cz kr rfl)))
     (Rg.bg (Rg.il (d := 21) rfl kr rfl (jf Tryz.func65 kr rfl ay.step (Rg.ax 9 kr) (fun W v0 hG h0 => by cases h0; exact (adr g false (decide_eq_false g3).symm W).mono fun e w' h => ⟨_, h.1, h.2 ▸ Below.refl _ _, rfl⟩)))
     (Rg.bg (Rg.il (d := 21) rfl kr rfl (Gd rfl (Rg.ax 10 kr) rfl rfl))
     (ae (zf rfl (Rg.ax 8 kr) (Rg.ax 11 kr))
     Rg.cu))))))))))))) ?_
    intro v1 V1 hG1 hv1 hne1
    simp only [Rg.puts, jr, jq, jo, jm, Act.put, jl, jk, ji]
    have e12 : v1 12 = .bool true := hv1 12 (by decide)
    simp only [e12]
    have hO := hG1.1
    clear HO
    have HO := hide hO
    clear hO hG1 hv1 hne1
    try clear e12
    have hr := (aa HR).1 (fun h => g3 h.2.2)
    clear HR
    subst hr
    go_upto_region 2 with fail
    refine Rg.fw 1 60 (Rg.pick [ai zS]) (ay w [(w.heap.size + 2, 41, zS), (w.heap.size + 1, 41, [iv ic, iv ib, iv gy, iv gu]), (w.heap.size, 41, [iv fe, iv eu, iv fu, iv fq])] V1) ik [] kr rfl (Rg.gm.pick ⟨au _, trivial⟩) (ay.begin (aa HO))
     (ae (De Dg rfl rfl rfl)
     Rg.cu) ?_
    intro v2 V2 hG2 hv2 hne2
    simp only [Rg.puts, jr, jq, jo, jm, Act.put, jl, jk, ji]
    have hO := hG2.1
    refine ky hO 0 [] zS zS [] rfl uj rfl (show ai zS V2 (v2 0) from hv2 0 (by decide)) rfl rfl rfl ?_
    intro Dl iy hk0
    replace hO := iy
    clear iy
    clear HO
    have HO := hide hO
    clear hO hG2 hv2 hne2 hk0
    go_wp2_with fail
    exact yx Tryz.results27 xg rfl rfl (aa HO) me0 rfl rfl
  ·
   have k1 : decide (Ae fe eu fu fq) = true := decide_eq_true g1
   have k2 : decide (Ae ic ib gy gu) = false := decide_eq_false g2
   go_upto_region 1 with fail
   refine Rg.fw 13 60 (Rg.pick [ai [iv fe, iv eu, iv fu, iv fq], Rg.bf (.bool true), Rg.bf (.bool false), Rg.bf (.bool false), ai [iv ic, iv ib, iv gy, iv gu], Rg.bf (.bool false), Rg.bf (.bool true), Rg.bf (.bool true), Rg.bf (.bool true), Rg.bf undef, Rg.bf undef, Rg.bf undef, Rg.bf (.bool true)]) (ay w [(w.heap.size + 2, 41, zS), (w.heap.size + 1, 41, [iv ic, iv ib, iv gy, iv gu]), (w.heap.size, 41, [iv fe, iv eu, iv fu, iv fq])] W0) ik [] kr rfl (Rg.gm.pick ⟨au _, Rg.ag _, Rg.ag _, Rg.ag _, au _, Rg.ag _, Rg.ag _, Rg.ag _, Rg.ag _, Rg.ag _, Rg.ag _, Rg.ag _, Rg.ag _, trivial⟩) (ay.begin (aa HO))
    (ae (fo qp qo (Rg.cz kr rfl) [] [iv fe, iv eu, iv fu, iv fq] [])
    (ae (jf Tryz.func85 kr rfl ay.step (Rg.ax 0 kr) (fun W v0 hG h0 => k1 ▸ Ux W _ h0))
    (ae (Gd rfl (Rg.ax 1 kr) rfl rfl)
    (ae (ig rfl (Rg.ax 2 kr))
    (Rg.bg (Rg.il (d := 16) rfl kr rfl (fo qp nu (Rg.cz kr rfl) [] [iv ic, iv ib, iv gy, iv gu] []))
    (Rg.bg (Rg.il (d := 16) rfl kr rfl (jf Tryz.func85 kr rfl ay.step (Rg.ax 4 kr) (fun W v0 hG h0 => k2 ▸ Ux W _ h0)))
    (Rg.bg (Rg.il (d := 16) rfl kr rfl (Gd rfl (Rg.ax 5 kr) rfl rfl))
    (ae (zf rfl (Rg.ax 3 kr) (Rg.ax 6 kr))
    (ae (ig rfl (Rg.ax 7 kr))
    (Rg.bg (Rg.mg (d := 21) rfl kr rfl rfl lh rfl rfl)
    (Rg.bg (Rg.mg (d := 21) rfl kr rfl rfl lh rfl rfl)
    (Rg.bg (Rg.mg (d := 21) rfl kr rfl rfl lh rfl rfl)
    (ae (vv rfl (Rg.ax 8 kr) (Rg.mh _))
    Rg.cu))))))))))))) ?_
   intro v1 V1 hG1 hv1 hne1
   simp only [Rg.puts, jr, jq, jo, jm, Act.put, jl, jk, ji]
   have e12 : v1 12 = .bool true := hv1 12 (by decide)
   simp only [e12]
   have hO := hG1.1
   clear HO
   have HO := hide hO
   clear hO hG1 hv1 hne1
   try clear e12
   have hr := (aa HR).1 (fun h => g2 h.2.1)
   clear HR
   subst hr
   go_upto_region 2 with fail
   refine Rg.fw 1 60 (Rg.pick [ai zS]) (ay w [(w.heap.size + 2, 41, zS), (w.heap.size + 1, 41, [iv ic, iv ib, iv gy, iv gu]), (w.heap.size, 41, [iv fe, iv eu, iv fu, iv fq])] V1) ik [] kr rfl (Rg.gm.pick ⟨au _, trivial⟩) (ay.begin (aa HO))
    (ae (De Dg rfl rfl rfl)
    Rg.cu) ?_
   intro v2 V2 hG2 hv2 hne2
   simp only [Rg.puts, jr, jq, jo, jm, Act.put, jl, jk, ji]
   have hO := hG2.1
   refine ky hO 0 [] zS zS [] rfl uj rfl (show ai zS V2 (v2 0) from hv2 0 (by decide)) rfl rfl rfl ?_
   intro Dl iy hk0
   replace hO := iy
   clear iy
   clear HO
   have HO := hide hO
   clear hO hG2 hv2 hne2 hk0
   go_wp2_with fail
   exact yx Tryz.results27 xg rfl rfl (aa HO) me0 rfl rfl
 ·
  have k1 : decide (Ae fe eu fu fq) = false := decide_eq_false g1
  go_upto_region 1 with fail
  refine Rg.fw 13 60 (Rg.pick [ai [iv fe, iv eu, iv fu, iv fq], Rg.bf (.bool false), Rg.bf (.bool true), Rg.bf (.bool true), Rg.bf undef, Rg.bf undef, Rg.bf undef, Rg.bf (.bool true), Rg.bf (.bool true), Rg.bf undef, Rg.bf undef, Rg.bf undef, Rg.bf (.bool true)]) (ay w [(w.heap.size + 2, 41, zS), (w.heap.size + 1, 41, [iv ic, iv ib, iv gy, iv gu]), (w.heap.size, 41, [iv fe, iv eu, iv fu, iv fq])] W0) ik [] kr rfl (Rg.gm.pick ⟨au _, Rg.ag _, Rg.ag _, Rg.ag _, Rg.ag _, Rg.ag _, Rg.ag _, Rg.ag _, Rg.ag _, Rg.ag _, Rg.ag _, Rg.ag _, Rg.ag _, trivial⟩) (ay.begin (aa HO))
   (ae (fo qp qo (Rg.cz kr rfl) [] [iv fe, iv eu, iv fu, iv fq] [])
   (ae (jf Tryz.func85 kr rfl ay.step (Rg.ax 0 kr) (fun W v0 hG h0 => k1 ▸ Ux W _ h0))
   (ae (Gd rfl (Rg.ax 1 kr) rfl rfl)
   (ae (ig rfl (Rg.ax 2 kr))
   (Rg.bg (Rg.mg (d := 16) rfl kr rfl rfl lh rfl rfl)
   (Rg.bg (Rg.mg (d := 16) rfl kr rfl rfl lh rfl rfl)
   (Rg.bg (Rg.mg (d := 16) rfl kr rfl rfl lh rfl rfl)
   (ae (vv rfl (Rg.ax 3 kr) (Rg.mh _))
   (ae (ig rfl (Rg.ax 7 kr))
   (Rg.bg (Rg.mg (d := 21) rfl kr rfl rfl lh rfl rfl)
   (Rg.bg (Rg.mg (d := 21) rfl kr rfl rfl lh rfl rfl)
   (Rg.bg (Rg.mg (d := 21) rfl kr rfl rfl lh rfl rfl)
   (ae (vv rfl (Rg.ax 8 kr) (Rg.mh _))
   Rg.cu))))))))))))) ?_
  intro v1 V1 hG1 hv1 hne1
  simp only [Rg.puts, jr, jq, jo, jm, Act.put, jl, jk, ji]
  have e12 : v1 12 = .bool true := hv1 12 (by decide)
  simp only [e12]
  have hO := hG1.1
  clear HO
  have HO := hide hO
  clear hO hG1 hv1 hne1
  try clear e12
  have hr := (aa HR).1 (fun h => g1 h.1)
  clear HR
  subst hr
  go_upto_region 2 with fail
  refine Rg.fw 1 60 (Rg.pick [ai zS]) (ay w [(w.heap.size + 2, 41, zS), (w.heap.size + 1, 41, [iv ic, iv ib, iv gy, iv gu]), (w.heap.size, 41, [iv fe, iv eu, iv fu, iv fq])] V1) ik [] kr rfl (Rg.gm.pick ⟨au _, trivial⟩) (ay.begin (aa HO))
   (ae (De Dg rfl rfl rfl)
   Rg.cu) ?_
  intro v2 V2 hG2 hv2 hne2
  simp only [Rg.puts, jr, jq, jo, jm, Act.put, jl, jk, ji]
  have hO := hG2.1
  refine ky hO 0 [] zS zS [] rfl uj rfl (show ai zS V2 (v2 0) from hv2 0 (by decide)) rfl rfl rfl ?_
  intro Dl iy hk0
  replace hO := iy
  clear iy
  clear HO
  have HO := hide hO
  clear hO hG2 hv2 hne2 hk0
  go_wp2_with fail
  exact yx Tryz.results27 xg rfl rfl (aa HO) me0 rfl rfl
end Sb

end Go.Proofs.YtjdnmdlnaoedoaaGreatDoor
namespace Go.Proofs.YtjdnmdlnaoedoaaGreatDoor
open Go.RowKit

namespace Sb
def Vt (kd fe eu fu fq ic ib gy gu g : Int) : Gj :=
 if kd = 1 then Cx (wz ((Wd.qR fe eu) - (Wd.qR gy gu)) g) (Cj ((Wd.qR fu fq) - (Wd.qR ic ib)) g)
 else if kd = 2 then Cx (wz (ko ((Wd.qR fe eu) * (Wd.qR ic ib)) [(Wd.qR fe eu) * (Wd.qR gy gu), (Wd.qR fu fq) * (Wd.qR ic ib), (Wd.qR fu fq) * (Wd.qR gy gu)]) g) (Cj (jd ((Wd.qR fe eu) * (Wd.qR ic ib)) [(Wd.qR fe eu) * (Wd.qR gy gu), (Wd.qR fu fq) * (Wd.qR ic ib), (Wd.qR fu fq) * (Wd.qR gy gu)]) g)
 else if kd = 3 then (if (Wd.qR ic ib) ≤ Rat.divInt 0 1 ∧ Rat.divInt 0 1 ≤ (Wd.qR gy gu) then ⟨0, 0, 0, 0, 4⟩ else Cx (wz (ko ((Wd.qR fe eu) * (Wd.qR gy gu)⁻¹) [(Wd.qR fe eu) * (Wd.qR ic ib)⁻¹, (Wd.qR fu fq) * (Wd.qR gy gu)⁻¹, (Wd.qR fu fq) * (Wd.qR ic ib)⁻¹]) g) (Cj (jd ((Wd.qR fe eu) * (Wd.qR gy gu)⁻¹) [(Wd.qR fe eu) * (Wd.qR ic ib)⁻¹, (Wd.qR fu fq) * (Wd.qR gy gu)⁻¹, (Wd.qR fu fq) * (Wd.qR ic ib)⁻¹]) g))
 else Cx (wz ((Wd.qR fe eu) + (Wd.qR ic ib)) g) (Cj ((Wd.qR fu fq) + (Wd.qR gy gu)) g)
def Zg (kd fe eu fu fq ic ib gy gu g : Int) : Gj := if wu (ui [⟨fe, eu, fu, fq⟩, ⟨ic, ib, gy, gu⟩]) g = 0 then Vt kd fe eu fu fq ic ib gy gu g else ⟨0, 0, 0, 0, wu (ui [⟨fe, eu, fu, fq⟩, ⟨ic, ib, gy, gu⟩]) g⟩
section
variable {kd fe eu fu fq ic ib gy gu g : Int}
theorem Wy (h : wu (ui [⟨fe, eu, fu, fq⟩, ⟨ic, ib, gy, gu⟩]) g ≠ 0) : Zg kd fe eu fu fq ic ib gy gu g = ⟨0, 0, 0, 0, wu (ui [⟨fe, eu, fu, fq⟩, ⟨ic, ib, gy, gu⟩]) g⟩ := if_neg h
theorem Oz (h : wu (ui [⟨fe, eu, fu, fq⟩, ⟨ic, ib, gy, gu⟩]) g = 0) : Zg kd fe eu fu fq ic ib gy gu g = Vt kd fe eu fu fq ic ib gy gu g := if_pos h
theorem op0 (h1 : ¬ kd = 1) (h2 : ¬ kd = 2) (h3 : ¬ kd = 3) : Vt kd fe eu fu fq ic ib gy gu g = Cx (wz ((Wd.qR fe eu) + (Wd.qR ic ib)) g) (Cj ((Wd.qR fu fq) + (Wd.qR gy gu)) g) := by
 unfold Vt; rw [if_neg h1, if_neg h2, if_neg h3]
theorem op1 : Vt 1 fe eu fu fq ic ib gy gu g = Cx (wz ((Wd.qR fe eu) - (Wd.qR gy gu)) g) (Cj ((Wd.qR fu fq) - (Wd.qR ic ib)) g) := if_pos rfl
theorem op2 : Vt 2 fe eu fu fq ic ib gy gu g = Cx (wz (ko ((Wd.qR fe eu) * (Wd.qR ic ib)) [(Wd.qR fe eu) * (Wd.qR gy gu), (Wd.qR fu fq) * (Wd.qR ic ib), (Wd.qR fu fq) * (Wd.qR gy gu)]) g) (Cj (jd ((Wd.qR fe eu) * (Wd.qR ic ib)) [(Wd.qR fe eu) * (Wd.qR gy gu), (Wd.qR fu fq) * (Wd.qR ic ib), (Wd.qR fu fq) * (Wd.qR gy gu)]) g) := by unfold Vt; rw [if_neg (by decide), if_pos rfl]
theorem bau (h : (Wd.qR ic ib) ≤ Rat.divInt 0 1 ∧ Rat.divInt 0 1 ≤ (Wd.qR gy gu)) : Vt 3 fe eu fu fq ic ib gy gu g = ⟨0, 0, 0, 0, 4⟩ := by unfold Vt; rw [if_neg (by decide), if_neg (by decide), if_pos rfl, if_pos h]
theorem bav (h : ¬ ((Wd.qR ic ib) ≤ Rat.divInt 0 1 ∧ Rat.divInt 0 1 ≤ (Wd.qR gy gu))) : Vt 3 fe eu fu fq ic ib gy gu g = Cx (wz (ko ((Wd.qR fe eu) * (Wd.qR gy gu)⁻¹) [(Wd.qR fe eu) * (Wd.qR ic ib)⁻¹, (Wd.qR fu fq) * (Wd.qR gy gu)⁻¹, (Wd.qR fu fq) * (Wd.qR ic ib)⁻¹]) g) (Cj (jd ((Wd.qR fe eu) * (Wd.qR gy gu)⁻¹) [(Wd.qR fe eu) * (Wd.qR ic ib)⁻¹, (Wd.qR fu fq) * (Wd.qR gy gu)⁻¹, (Wd.qR fu fq) * (Wd.qR ic ib)⁻¹]) g) := by unfold Vt; rw [if_neg (by decide), if_neg (by decide), if_pos rfl, if_neg h]
theorem aoc {x : Rat} {l : List Rat} (k : Sm 2 x ∧ ∀ z ∈ l, Sm 2 z) : Sm (2 + 1) (ko x l) ∧ Sm (2 + 1) (jd x l) := ⟨(Sd k.1 k.2).mono om om, (Md k.1 k.2).mono om om⟩
theorem bcx (h : Ae fe eu fu fq ∧ Ae ic ib gy gu ∧ 1 ≤ g ∧ g ≤ 1000000) : wu (ui [⟨fe, eu, fu, fq⟩, ⟨ic, ib, gy, gu⟩]) g = 0 := by
 rw [avd (s := ⟨fe, eu, fu, fq⟩) (t := ⟨ic, ib, gy, gu⟩) h.1 h.2.1]
 exact if_neg (fun k => by omega)
theorem akf (h : ¬ (Ae fe eu fu fq ∧ Ae ic ib gy gu ∧ 1 ≤ g ∧ g ≤ 1000000)) : wu (ui [⟨fe, eu, fu, fq⟩, ⟨ic, ib, gy, gu⟩]) g = 1 := by
 unfold wu
 by_cases e : ui [⟨fe, eu, fu, fq⟩, ⟨ic, ib, gy, gu⟩] = 0
 ·
  have h2 := azb e
  have h3 : g < 1 ∨ 1000000 < g := by
   by_cases k : 1 ≤ g ∧ g ≤ 1000000
   ·
    exact absurd ⟨h2.1, h2.2, k.1, k.2⟩ h
   ·
    omega
  exact if_pos ⟨e, h3⟩
 ·
  rw [if_neg (fun k => e k.1)]
  unfold ui at e ⊢
  split
  ·
   rename_i k; exact absurd (if_pos k) e
  ·
   rfl
theorem bdh (w : World) (hT : rz w) (u0 : Value) (h0 : ai [iv fe, iv eu, iv fu, iv fq] w u0) (u1 : Value) (h1 : ai [iv ic, iv ib, iv gy, iv gu] w u1) : Calls Tryz.prog 81 #[u0, u1, .int .i64 g] w (jh (Ga (Zg 0 fe eu fu fq ic ib gy gu g)) w) :=
 avs _ w hT u0 h0 u1 h1 (fun W v0 v1 hT h0 h1 => aai 149 _ ((Wd.qR fe eu) + (Wd.qR ic ib)) ((Wd.qR fu fq) + (Wd.qR gy gu)) _ W hT v0 h0 v1 h1 ⟨Tryz.func149, by kernel_rfl⟩
  (fun W v0 v1 hT hq h0 h1 => bdi (yh hq.1.1) (yh hq.1.2.1) (yh hq.2.1.1) (yh hq.2.1.2.1) W hT v0 h0 v1 h1) (fun hq => ⟨Sm.add (K := 1) (yh hq.1.1) (yh hq.2.1.1) om W hT, Sm.add (K := 1) (yh hq.1.2.1) (yh hq.2.1.2.1) om W hT⟩) Xz
  ⟨Wy, fun h => (Oz h).trans (op0 (by decide) (by decide) (by decide))⟩)
theorem bdf (w : World) (hT : rz w) (u0 : Value) (h0 : ai [iv fe, iv eu, iv fu, iv fq] w u0) (u1 : Value) (h1 : ai [iv ic, iv ib, iv gy, iv gu] w u1) : Calls Tryz.prog 82 #[u0, u1, .int .i64 g] w (jh (Ga (Zg 1 fe eu fu fq ic ib gy gu g)) w) :=
 asu _ w hT u0 h0 u1 h1 (fun W v0 v1 hT h0 h1 => aai 150 _ ((Wd.qR fe eu) - (Wd.qR gy gu)) ((Wd.qR fu fq) - (Wd.qR ic ib)) _ W hT v0 h0 v1 h1 ⟨Tryz.func150, by kernel_rfl⟩
  (fun W v0 v1 hT hq h0 h1 => azi (yh hq.1.1) (yh hq.1.2.1) (yh hq.2.1.1) (yh hq.2.1.2.1) W hT v0 h0 v1 h1) (fun hq => ⟨Sm.sub (K := 1) (yh hq.1.1) (yh hq.2.1.2.1) om W hT, Sm.sub (K := 1) (yh hq.1.2.1) (yh hq.2.1.1) om W hT⟩) Xz
  ⟨Wy, fun h => (Oz h).trans (op1)⟩)
theorem akh (w : World) (hT : rz w) (u0 : Value) (h0 : ai [iv fe, iv eu, iv fu, iv fq] w u0) (u1 : Value) (h1 : ai [iv ic, iv ib, iv gy, iv gu] w u1) : Calls Tryz.prog 83 #[u0, u1, .int .i64 g] w (jh (Ga (Zg 2 fe eu fu fq ic ib gy gu g)) w) :=
 atq _ w hT u0 h0 u1 h1 (fun W v0 v1 hT h0 h1 => aai 151 _ (ko ((Wd.qR fe eu) * (Wd.qR ic ib)) [(Wd.qR fe eu) * (Wd.qR gy gu), (Wd.qR fu fq) * (Wd.qR ic ib), (Wd.qR fu fq) * (Wd.qR gy gu)]) (jd ((Wd.qR fe eu) * (Wd.qR ic ib)) [(Wd.qR fe eu) * (Wd.qR gy gu), (Wd.qR fu fq) * (Wd.qR ic ib), (Wd.qR fu fq) * (Wd.qR gy gu)]) _ W hT v0 h0 v1 h1 ⟨Tryz.func151, by kernel_rfl⟩
  (fun W v0 v1 hT hq h0 h1 => akg (yh hq.1.1) (yh hq.1.2.1) (yh hq.2.1.1) (yh hq.2.1.2.1) om W hT v0 h0 v1 h1) (fun hq => aoc (Zo (K := 1) (yh hq.1.1) (yh hq.1.2.1) (yh hq.2.1.1) (yh hq.2.1.2.1) om W hT)) Xz
  ⟨Wy, fun h => (Oz h).trans op2⟩)
theorem bdg (w : World) (hT : rz w) (u0 : Value) (h0 : ai [iv fe, iv eu, iv fu, iv fq] w u0) (u1 : Value) (h1 : ai [iv ic, iv ib, iv gy, iv gu] w u1) : Calls Tryz.prog 84 #[u0, u1, .int .i64 g] w (jh (Ga (Zg 3 fe eu fu fq ic ib gy gu g)) w) :=
 ave _ w hT u0 h0 u1 h1 ⟨Wy, fun h => ⟨fun z => (Oz h).trans (bau z), fun z => (Oz h).trans (bav z)⟩⟩
theorem bfv (w : World) (u1 : Value) (h1 : ai [iv fe, iv eu, iv fu, iv fq] w u1) (u2 : Value) (h2 : ai [iv ic, iv ib, iv gy, iv gu] w u2) : Calls Tryz.prog 27 #[.int .i64 kd, u1, u2, .int .i64 g] w (jh (Ga (Zg kd fe eu fu fq ic ib gy gu g)) w) :=
 ayp _ _ _ _ _ _ _ _ _ _ _ _ _ w u1 h1 u2 h2 ⟨rfl, rfl, rfl, rfl⟩ ⟨⟨rfl, rfl⟩, ⟨rfl, rfl⟩, ⟨rfl, rfl⟩, rfl, rfl⟩ ⟨fun h => by rw [Wy (by rw [akf h]; decide), akf h], fun h => by
  rw [Oz (bcx h)]
  exact ⟨fun e => e ▸ op1, fun e => e ▸ op2, fun e z => e ▸ bau z, fun e z => e ▸ bav z, op0⟩⟩
theorem apu (w : World) (hT : rz w) : Calls Tryz.prog 28 #[] w (jh (Rg.bf (.bool true)) w) :=
 alz w hT (fun W v0 v1 hT h0 h1 => by
  have h := akh (g := 1) W hT v0 h0 v1 h1
  rwa [show Zg 2 (-1) 1 2 1 3 1 4 1 1 = ⟨-4, 1, 8, 1, 0⟩ by decide +kernel] at h)
end
end Sb

end Go.Proofs.YtjdnmdlnaoedoaaGreatDoor
namespace Go.Proofs.YtjdnmdlnaoedoaaGreatDoor
open Go.RowKit

namespace Sb
theorem asy {ρ : Operand → Value} {w : World} {d : Option Tmp} {x y : Operand} {p0 p1 p2 p3 q0 q1 q2 q3 : Int} {b : Bool} {ty : TypeId} {pos : String} {af : Array Edge} {gd : Option (Nat × Bool)} (h : ρ x = .agg #[.int .i64 p0, .int .i64 p1, .int .i64 p2, .int .i64 p3]) (h' : ρ y = .agg #[.int .i64 q0, .int .i64 q1, .int .i64 q2, .int .i64 q3]) (hb : decide (¬ (p0 = q0 ∧ p1 = q1 ∧ p2 = q2 ∧ p3 = q3)) = b) :
  (execOp ρ { dst := d, op := .binOp .neq 41 x y 41, type := ty, pos := pos, after := af, guard := gd }).run Tryz.prog w = .ok (.value (.bool b)) w := by
 subst hb
 simp only [execOp, h, h']
 by_cases k0 : p0 = q0 <;> by_cases k1 : p1 = q1 <;> by_cases k2 : p2 = q2 <;> by_cases k3 : p3 = q3 <;> simp [go_sem, k0, k1, k2, k3]
theorem bak {Q : Exit → Act → World → Prop} {l : List Oper} {n : Nat} {T : Nat → World → Value → Prop} {G : World → Prop} {al : List Nat} {a0 : Act} {k d : Nat} {ty : TypeId} {pos : String} {af : Array Edge} {gd : Option (Nat × Bool)} {x y : Operand} {p0 p1 p2 p3 q0 q1 q2 q3 : Int} {b : Bool}
  (hal : al.contains k = false) (hx : Rg.mo l n T a0 k x (ai [iv p0, iv p1, iv p2, iv p3])) (hy : Rg.mo l n T a0 k y (ai [iv q0, iv q1, iv q2, iv q3])) (hb : decide (¬ (p0 = q0 ∧ p1 = q1 ∧ p2 = q2 ∧ p3 = q3)) = b) (hT : T k = Rg.bf (.bool b)) :
  Rg.Step Tryz.prog Q l n T G ik al a0 k { dst := some d, op := .binOp .neq 41 x y 41, type := ty, pos := pos, after := af, guard := gd } := by
 intro a w hG hO hN
 exact qm (P := Tryz.prog) (asy (Af (hx a w hO hN)) (Af (hy a w hO hN)) hb) ⟨_, rfl, hG, Below.refl _ _, by rw [hT]; rfl, fun h => by rw [hal] at h; cases h⟩
set_option maxHeartbeats 16000000 in
theorem aqs {fe eu fu fq ic ib gy gu : Int} {g kd : Int} (t : Gj) (w : World) (hT : rz w) (u1 : Value) (h1 : ai [iv fe, iv eu, iv fu, iv fq] w u1) (u2 : Value) (h2 : ai [iv ic, iv ib, iv gy, iv gu] w u2)
  (ha : kd = 0 → ∀ (W : World) (v0 v1 : Value), rz W → ai [iv fe, iv eu, iv fu, iv fq] W v0 → ai [iv ic, iv ib, iv gy, iv gu] W v1 → Calls Tryz.prog 81 #[v0, v1, .int .i64 g] W (jh (Ga t) W))
  (hb : kd = 1 → ∀ (W : World) (v0 v1 : Value), rz W → ai [iv fe, iv eu, iv fu, iv fq] W v0 → ai [iv ic, iv ib, iv gy, iv gu] W v1 → Calls Tryz.prog 82 #[v0, v1, .int .i64 g] W (jh (Ga t) W))
  (hc : kd = 2 → ∀ (W : World) (v0 v1 : Value), rz W → ai [iv fe, iv eu, iv fu, iv fq] W v0 → ai [iv ic, iv ib, iv gy, iv gu] W v1 → Calls Tryz.prog 83 #[v0, v1, .int .i64 g] W (jh (Ga t) W))
  (hd : ¬ kd = 0 → ¬ kd = 1 → ¬ kd = 2 → ∀ (W : World) (v0 v1 : Value), rz W → ai [iv fe, iv eu, iv fu, iv fq] W v0 → ai [iv ic, iv ib, iv gy, iv gu] W v1 → Calls Tryz.prog 84 #[v0, v1, .int .i64 g] W (jh (Ga t) W)) :
  Calls Tryz.prog 26 #[.int .i64 kd, u1, u2, .int .i64 g] w (jh (Ga t) w) := by
 have HA := hide ha
 have HB := hide hb
 have HC := hide hc
 have HD := hide hd
 have HT := hide hT
 clear ha hb hc hd hT
 have hu1 := Af h1
 subst hu1
 have hu2 := Af h2
 subst hu2
 go_enter Tryz.func26, Tryz.ntmps26
 go_upto_region 1 with fail
 have hO := (Own.push (T := 41) (ls := zS) (cs := [.int .i64 0, .int .i64 0, .int .i64 0, .int .i64 0]) (Own.push (T := 41) (ls := [iv ic, iv ib, iv gy, iv gu]) (cs := [.int .i64 ic, .int .i64 ib, .int .i64 gy, .int .i64 gu]) (Own.push (T := 41) (ls := [iv fe, iv eu, iv fu, iv fq]) (cs := [.int .i64 fe, .int .i64 eu, .int .i64 fu, .int .i64 fq]) (Own.nil w) (ek.v (kg _) (ek.v (kg _) (ek.v (kg _) (ek.v (kg _) rfl)))) (w.heap.size) rfl) (((ek.v (kg _) (ek.v (kg _) (ek.v (kg _) (ek.v (kg _) rfl)))) : ek w [iv ic, iv ib, iv gy, iv gu] [.int .i64 ic, .int .i64 ib, .int .i64 gy, .int .i64 gu]).below (by repeat (first | exact Below.refl _ _ | refine ja ?_ _))) (w.heap.size + 1) (by simp only [World.size_alloc])) (((ek.vs w [.int .i64 0, .int .i64 0, .int .i64 0, .int .i64 0] rfl) : ek w zS [.int .i64 0, .int .i64 0, .int .i64 0, .int .i64 0]).below (by repeat (first | exact Below.refl _ _ | refine ja ?_ _))) (w.heap.size + 2) (by simp only [World.size_alloc]))
 generalize ((w.alloc (.cells #[.int .i64 fe, .int .i64 eu, .int .i64 fu, .int .i64 fq] 41)).alloc (.cells #[.int .i64 ic, .int .i64 ib, .int .i64 gy, .int .i64 gu] 41)).alloc (.cells #[.int .i64 0, .int .i64 0, .int .i64 0, .int .i64 0] 41) = W0 at *
 have HO := hide hO
 clear hO
 go_upto_region 1 with fail
 refine Rg.fw 1 41 (Rg.pick [Rg.bf (.int .i64 kd)]) (ay w [(w.heap.size + 2, 41, zS), (w.heap.size + 1, 41, [iv ic, iv ib, iv gy, iv gu]), (w.heap.size, 41, [iv fe, iv eu, iv fu, iv fq])] W0) ik [] kr rfl (Rg.gm.pick ⟨Rg.ag _, trivial⟩) (ay.begin (aa HO))
  (ae (ig rfl (Rg.cz kr rfl))
  Rg.cu) ?_
 intro v1 V1 hG1 hv1 hne1
 simp only [Rg.puts, jr, jq, jo, jm, Act.put, jl, jk, ji]
 have e0 : v1 0 = .int .i64 kd := hv1 0 (by decide)
 simp only [e0]
 have hO := hG1.1
 clear HO
 have HO := hide hO
 clear hO hG1 hv1 hne1
 try clear e0
 by_cases q0 : kd = 0
 ·
  have t0 : (kd == 0) = true := beq_iff_eq.2 q0
  go_upto_region 2 with fail
  refine Rg.fw 2 41 (Rg.pick [Rg.bf (.bool true), Rg.bf (.bool true)]) (ay w [(w.heap.size + 2, 41, zS), (w.heap.size + 1, 41, [iv ic, iv ib, iv gy, iv gu]), (w.heap.size, 41, [iv fe, iv eu, iv fu, iv fq])] V1) ik [] kr rfl (Rg.gm.pick ⟨Rg.ag _, Rg.ag _, trivial⟩) (ay.begin (aa HO))
   (ae (Gf rfl (Rg.cz kr rfl) (Rg.mh _) rfl t0)
   (ae (og rfl (Rg.ax 0 kr))
   Rg.cu)) ?_
  intro v2 V2 hG2 hv2 hne2
  simp only [Rg.puts, jr, jq, jo, jm, Act.put, jl, jk, ji]
  have e0 : v2 0 = .bool true := hv2 0 (by decide)
  have e1 : v2 1 = .bool true := hv2 1 (by decide)
  simp only [e0, e1]
  have hO := hG2.1
  clear HO
  have HO := hide hO
  clear hO hG2 hv2 hne2
  try clear e0 e1
  go_upto_region 3 with fail
  refine Rg.fw 6 41 (Rg.pick [ai [iv fe, iv eu, iv fu, iv fq], ai [iv ic, iv ib, iv gy, iv gu], Rg.bf (.int .i64 g), tq [ai [iv t.a, iv t.b, iv t.c, iv t.d], Rg.bf (.int .i64 t.e)], ai [iv t.a, iv t.b, iv t.c, iv t.d], Rg.bf (.int .i64 t.e)]) (ay w [(w.heap.size + 2, 41, zS), (w.heap.size + 1, 41, [iv ic, iv ib, iv gy, iv gu]), (w.heap.size, 41, [iv fe, iv eu, iv fu, iv fq])] V2) ik [] kr rfl (Rg.gm.pick ⟨au _, au _, Rg.ag _, oz ⟨(au _), (Rg.ag _), trivial⟩, au _, Rg.ag _, trivial⟩) (ay.begin (aa HO))
   (ae (fo qp qo (Rg.cz kr rfl) [] [iv fe, iv eu, iv fu, iv fq] [])
   (ae (fo qp nu (Rg.cz kr rfl) [] [iv ic, iv ib, iv gy, iv gu] [])
   (ae (ig rfl (Rg.cz kr rfl))
   (ae (Rv Tryz.func81 kr rfl ay.step (Rg.ax 0 kr) (Rg.ax 1 kr) (Rg.ax 2 kr) (fun W v0 v1 v2 hG h0 h1 h2 => by cases h2; exact aa HA q0 W v0 v1 ((aa HT).below hG.bel) h0 h1))
   (ae (oo (ts := [ai [iv t.a, iv t.b, iv t.c, iv t.d], Rg.bf (.int .i64 t.e)]) rfl (Rg.ax 3 kr) (of_decide_eq_true rfl) rfl)
   (ae (oo (ts := [ai [iv t.a, iv t.b, iv t.c, iv t.d], Rg.bf (.int .i64 t.e)]) rfl (Rg.ax 3 kr) (of_decide_eq_true rfl) rfl)
   Rg.cu)))))) ?_
  intro v3 V3 hG3 hv3 qh
  simp only [Rg.puts, jr, jq, jo, jm, Act.put, jl, jk, ji]
  have e5 : v3 5 = .int .i64 t.e := hv3 5 (by decide)
  simp only [e5]
  have hO := hG3.1
  refine ky hO 0 [] zS [iv t.a, iv t.b, iv t.c, iv t.d] [] rfl uj rfl (show ai [iv t.a, iv t.b, iv t.c, iv t.d] V3 (v3 4) from hv3 4 (by decide)) rfl rfl rfl ?_
  intro Ea iy hk0
  replace hO := iy
  clear iy
  clear HO
  have HO := hide hO
  clear hO hG3 hv3 qh hk0
  try clear e5
  go_wp2_with fail
  exact yx Tryz.results26 xg rfl rfl (aa HO) me0 rfl rfl
 ·
  have t0 : (kd == 0) = false := beq_eq_false_iff_ne.2 q0
  go_upto_region 2 with fail
  refine Rg.fw 2 41 (Rg.pick [Rg.bf (.bool false), Rg.bf (.bool false)]) (ay w [(w.heap.size + 2, 41, zS), (w.heap.size + 1, 41, [iv ic, iv ib, iv gy, iv gu]), (w.heap.size, 41, [iv fe, iv eu, iv fu, iv fq])] V1) ik [] kr rfl (Rg.gm.pick ⟨Rg.ag _, Rg.ag _, trivial⟩) (ay.begin (aa HO))
   (ae (Gf rfl (Rg.cz kr rfl) (Rg.mh _) rfl t0)
   (ae (og rfl (Rg.ax 0 kr))
   Rg.cu)) ?_
  intro v2 V2 hG2 hv2 hne2
  simp only [Rg.puts, jr, jq, jo, jm, Act.put, jl, jk, ji]
  have e0 : v2 0 = .bool false := hv2 0 (by decide)
  have e1 : v2 1 = .bool false := hv2 1 (by decide)
  simp only [e0, e1]
  have hO := hG2.1
  clear HO
  have HO := hide hO
  clear hO hG2 hv2 hne2
  try clear e0 e1
  by_cases q1 : kd = 1
  ·
   have t1 : (kd == 1) = true := beq_iff_eq.2 q1
   go_upto_region 4 with fail
   refine Rg.fw 2 41 (Rg.pick [Rg.bf (.bool true), Rg.bf (.bool true)]) (ay w [(w.heap.size + 2, 41, zS), (w.heap.size + 1, 41, [iv ic, iv ib, iv gy, iv gu]), (w.heap.size, 41, [iv fe, iv eu, iv fu, iv fq])] V2) ik [] kr rfl (Rg.gm.pick ⟨Rg.ag _, Rg.ag _, trivial⟩) (ay.begin (aa HO))
    (ae (Gf rfl (Rg.cz kr rfl) (Rg.mh _) rfl t1)
    (ae (og rfl (Rg.ax 0 kr))
    Rg.cu)) ?_
   intro v3 V3 hG3 hv3 qh
   simp only [Rg.puts, jr, jq, jo, jm, Act.put, jl, jk, ji]
   have e0 : v3 0 = .bool true := hv3 0 (by decide)
   have e1 : v3 1 = .bool true := hv3 1 (by decide)
   simp only [e0, e1]
   have hO := hG3.1
   clear HO
   have HO := hide hO
   clear hO hG3 hv3 qh
   try clear e0 e1
   go_upto_region 5 with fail
   refine Rg.fw 6 41 (Rg.pick [ai [iv fe, iv eu, iv fu, iv fq], ai [iv ic, iv ib, iv gy, iv gu], Rg.bf (.int .i64 g), tq [ai [iv t.a, iv t.b, iv t.c, iv t.d], Rg.bf (.int .i64 t.e)], ai [iv t.a, iv t.b, iv t.c, iv t.d], Rg.bf (.int .i64 t.e)]) (ay w [(w.heap.size + 2, 41, zS), (w.heap.size + 1, 41, [iv ic, iv ib, iv gy, iv gu]), (w.heap.size, 41, [iv fe, iv eu, iv fu, iv fq])] V3) ik [] kr rfl (Rg.gm.pick ⟨au _, au _, Rg.ag _, oz ⟨(au _), (Rg.ag _), trivial⟩, au _, Rg.ag _, trivial⟩) (ay.begin (aa HO))
    (ae (fo qp qo (Rg.cz kr rfl) [] [iv fe, iv eu, iv fu, iv fq] [])
    (ae (fo qp nu (Rg.cz kr rfl) [] [iv ic, iv ib, iv gy, iv gu] [])
    (ae (ig rfl (Rg.cz kr rfl))
    (ae (Rv Tryz.func82 kr rfl ay.step (Rg.ax 0 kr) (Rg.ax 1 kr) (Rg.ax 2 kr) (fun W v0 v1 v2 hG h0 h1 h2 => by cases h2; exact aa HB q1 W v0 v1 ((aa HT).below hG.bel) h0 h1))
    (ae (oo (ts := [ai [iv t.a, iv t.b, iv t.c, iv t.d], Rg.bf (.int .i64 t.e)]) rfl (Rg.ax 3 kr) (of_decide_eq_true rfl) rfl)
    (ae (oo (ts := [ai [iv t.a, iv t.b, iv t.c, iv t.d], Rg.bf (.int .i64 t.e)]) rfl (Rg.ax 3 kr) (of_decide_eq_true rfl) rfl)
    Rg.cu)))))) ?_
   intro v4 V4 hG4 hv4 yg
   simp only [Rg.puts, jr, jq, jo, jm, Act.put, jl, jk, ji]
   have e5 : v4 5 = .int .i64 t.e := hv4 5 (by decide)
   simp only [e5]
   have hO := hG4.1
   refine ky hO 0 [] zS [iv t.a, iv t.b, iv t.c, iv t.d] [] rfl uj rfl (show ai [iv t.a, iv t.b, iv t.c, iv t.d] V4 (v4 4) from hv4 4 (by decide)) rfl rfl rfl ?_
   intro Vb iy hk0
   replace hO := iy
   clear iy
   clear HO
   have HO := hide hO
   clear hO hG4 hv4 yg hk0
   try clear e5
   go_wp2_with fail
   exact yx Tryz.results26 xg rfl rfl (aa HO) me0 rfl rfl
  ·
   have t1 : (kd == 1) = false := beq_eq_false_iff_ne.2 q1
   go_upto_region 4 with fail
   refine Rg.fw 2 41 (Rg.pick [Rg.bf (.bool false), Rg.bf (.bool false)]) (ay w [(w.heap.size + 2, 41, zS), (w.heap.size + 1, 41, [iv ic, iv ib, iv gy, iv gu]), (w.heap.size, 41, [iv fe, iv eu, iv fu, iv fq])] V2) ik [] kr rfl (Rg.gm.pick ⟨Rg.ag _, Rg.ag _, trivial⟩) (ay.begin (aa HO))
    (ae (Gf rfl (Rg.cz kr rfl) (Rg.mh _) rfl t1)
    (ae (og rfl (Rg.ax 0 kr))
    Rg.cu)) ?_
   intro v3 V3 hG3 hv3 qh
   simp only [Rg.puts, jr, jq, jo, jm, Act.put, jl, jk, ji]
   have e0 : v3 0 = .bool false := hv3 0 (by decide)
   have e1 : v3 1 = .bool false := hv3 1 (by decide)
   simp only [e0, e1]
   have hO := hG3.1
   clear HO
   have HO := hide hO
   clear hO hG3 hv3 qh
   try clear e0 e1
   by_cases q2 : kd = 2
   ·
    have t2 : (kd == 2) = true := beq_iff_eq.2 q2
    go_upto_region 6 with fail
    refine Rg.fw 2 41 (Rg.pick [Rg.bf (.bool true), Rg.bf (.bool true)]) (ay w [(w.heap.size + 2, 41, zS), (w.heap.size + 1, 41, [iv ic, iv ib, iv gy, iv gu]), (w.heap.size, 41, [iv fe, iv eu, iv fu, iv fq])] V3) ik [] kr rfl (Rg.gm.pick ⟨Rg.ag _, Rg.ag _, trivial⟩) (ay.begin (aa HO))
     (ae (Gf rfl (Rg.cz kr rfl) (Rg.mh _) rfl t2)
     (ae (og rfl (Rg.ax 0 kr))
     Rg.cu)) ?_
    intro v4 V4 hG4 hv4 yg
    simp only [Rg.puts, jr, jq, jo, jm, Act.put, jl, jk, ji]
    have e0 : v4 0 = .bool true := hv4 0 (by decide)
    have e1 : v4 1 = .bool true := hv4 1 (by decide)
    simp only [e0, e1]
    have hO := hG4.1
    clear HO
    have HO := hide hO
    clear hO hG4 hv4 yg
    try clear e0 e1
    go_upto_region 7 with fail
    refine Rg.fw 6 41 (Rg.pick [ai [iv fe, iv eu, iv fu, iv fq], ai [iv ic, iv ib, iv gy, iv gu], Rg.bf (.int .i64 g), tq [ai [iv t.a, iv t.b, iv t.c, iv t.d], Rg.bf (.int .i64 t.e)], ai [iv t.a, iv t.b, iv t.c, iv t.d], Rg.bf (.int .i64 t.e)]) (ay w [(w.heap.size + 2, 41, zS), (w.heap.size + 1, 41, [iv ic, iv ib, iv gy, iv gu]), (w.heap.size, 41, [iv fe, iv eu, iv fu, iv fq])] V4) ik [] kr rfl (Rg.gm.pick ⟨au _, au _, Rg.ag _, oz ⟨(au _), (Rg.ag _), trivial⟩, au _, Rg.ag _, trivial⟩) (ay.begin (aa HO))
     (ae (fo qp qo (Rg.cz kr rfl) [] [iv fe, iv eu, iv fu, iv fq] [])
     (ae (fo qp nu (Rg.cz kr rfl) [] [iv ic, iv ib, iv gy, iv gu] [])
     (ae (ig rfl (Rg.cz kr rfl))
     (ae (Rv Tryz.func83 kr rfl ay.step (Rg.ax 0 kr) (Rg.ax 1 kr) (Rg.ax 2 kr) (fun W v0 v1 v2 hG h0 h1 h2 => by cases h2; exact aa HC q2 W v0 v1 ((aa HT).below hG.bel) h0 h1))
     (ae (oo (ts := [ai [iv t.a, iv t.b, iv t.c, iv t.d], Rg.bf (.int .i64 t.e)]) rfl (Rg.ax 3 kr) (of_decide_eq_true rfl) rfl)
     (ae (oo (ts := [ai [iv t.a, iv t.b, iv t.c, iv t.d], Rg.bf (.int .i64 t.e)]) rfl (Rg.ax 3 kr) (of_decide_eq_true rfl) rfl)
     Rg.cu)))))) ?_
    intro v5 V5 Ap hv5 hne5
    simp only [Rg.puts, jr, jq, jo, jm, Act.put, jl, jk, ji]
    have e5 : v5 5 = .int .i64 t.e := hv5 5 (by decide)
    simp only [e5]
    have hO := Ap.1
    refine ky hO 0 [] zS [iv t.a, iv t.b, iv t.c, iv t.d] [] rfl uj rfl (show ai [iv t.a, iv t.b, iv t.c, iv t.d] V5 (v5 4) from hv5 4 (by decide)) rfl rfl rfl ?_
    intro Ro iy hk0
    replace hO := iy
    clear iy
    clear HO
    have HO := hide hO
    clear hO Ap hv5 hne5 hk0
    try clear e5
    go_wp2_with fail
    exact yx Tryz.results26 xg rfl rfl (aa HO) me0 rfl rfl
   ·
    have t2 : (kd == 2) = false := beq_eq_false_iff_ne.2 q2
    go_upto_region 6 with fail
    refine Rg.fw 2 41 (Rg.pick [Rg.bf (.bool false), Rg.bf (.bool false)]) (ay w [(w.heap.size + 2, 41, zS), (w.heap.size + 1, 41, [iv ic, iv ib, iv gy, iv gu]), (w.heap.size, 41, [iv fe, iv eu, iv fu, iv fq])] V3) ik [] kr rfl (Rg.gm.pick ⟨Rg.ag _, Rg.ag _, trivial⟩) (ay.begin (aa HO))
     (ae (Gf rfl (Rg.cz kr rfl) (Rg.mh _) rfl t2)
     (ae (og rfl (Rg.ax 0 kr))
     Rg.cu)) ?_
    intro v4 V4 hG4 hv4 yg
    simp only [Rg.puts, jr, jq, jo, jm, Act.put, jl, jk, ji]
    have e0 : v4 0 = .bool false := hv4 0 (by decide)
    have e1 : v4 1 = .bool false := hv4 1 (by decide)
    simp only [e0, e1]
    have hO := hG4.1
    clear HO
    have HO := hide hO
    clear hO hG4 hv4 yg
    try clear e0 e1
    go_upto_region 8 with fail
    refine Rg.fw 6 41 (Rg.pick [ai [iv fe, iv eu, iv fu, iv fq], ai [iv ic, iv ib, iv gy, iv gu], Rg.bf (.int .i64 g), tq [ai [iv t.a, iv t.b, iv t.c, iv t.d], Rg.bf (.int .i64 t.e)], ai [iv t.a, iv t.b, iv t.c, iv t.d], Rg.bf (.int .i64 t.e)]) (ay w [(w.heap.size + 2, 41, zS), (w.heap.size + 1, 41, [iv ic, iv ib, iv gy, iv gu]), (w.heap.size, 41, [iv fe, iv eu, iv fu, iv fq])] V4) ik [] kr rfl (Rg.gm.pick ⟨au _, au _, Rg.ag _, oz ⟨(au _), (Rg.ag _), trivial⟩, au _, Rg.ag _, trivial⟩) (ay.begin (aa HO))
     (ae (fo qp qo (Rg.cz kr rfl) [] [iv fe, iv eu, iv fu, iv fq] [])
     (ae (fo qp nu (Rg.cz kr rfl) [] [iv ic, iv ib, iv gy, iv gu] [])
     (ae (ig rfl (Rg.cz kr rfl))
     (ae (Rv Tryz.func84 kr rfl ay.step (Rg.ax 0 kr) (Rg.ax 1 kr) (Rg.ax 2 kr) (fun W v0 v1 v2 hG h0 h1 h2 => by cases h2; exact aa HD q0 q1 q2 W v0 v1 ((aa HT).below hG.bel) h0 h1))
     (ae (oo (ts := [ai [iv t.a, iv t.b, iv t.c, iv t.d], Rg.bf (.int .i64 t.e)]) rfl (Rg.ax 3 kr) (of_decide_eq_true rfl) rfl)
     (ae (oo (ts := [ai [iv t.a, iv t.b, iv t.c, iv t.d], Rg.bf (.int .i64 t.e)]) rfl (Rg.ax 3 kr) (of_decide_eq_true rfl) rfl)
     Rg.cu)))))) ?_
    intro v5 V5 Ap hv5 hne5
    simp only [Rg.puts, jr, jq, jo, jm, Act.put, jl, jk, ji]
    have e5 : v5 5 = .int .i64 t.e := hv5 5 (by decide)
    simp only [e5]
    have hO := Ap.1
    refine ky hO 0 [] zS [iv t.a, iv t.b, iv t.c, iv t.d] [] rfl uj rfl (show ai [iv t.a, iv t.b, iv t.c, iv t.d] V5 (v5 4) from hv5 4 (by decide)) rfl rfl rfl ?_
    intro Ro iy hk0
    replace hO := iy
    clear iy
    clear HO
    have HO := hide hO
    clear hO Ap hv5 hne5 hk0
    try clear e5
    go_wp2_with fail
    exact yx Tryz.results26 xg rfl rfl (aa HO) me0 rfl rfl
theorem bdq {fe eu fu fq ic ib gy gu : Int} {g kd : Int} (k0 : 0 ≤ kd) (k3 : kd ≤ 3) (w : World) (hT : rz w) (u1 : Value) (h1 : ai [iv fe, iv eu, iv fu, iv fq] w u1) (u2 : Value) (h2 : ai [iv ic, iv ib, iv gy, iv gu] w u2) : Calls Tryz.prog 26 #[.int .i64 kd, u1, u2, .int .i64 g] w (jh (Ga (Zg kd fe eu fu fq ic ib gy gu g)) w) :=
 aqs _ w hT u1 h1 u2 h2 (fun e W v0 v1 hT h0 h1 => e ▸ bdh W hT v0 h0 v1 h1) (fun e W v0 v1 hT h0 h1 => e ▸ bdf W hT v0 h0 v1 h1) (fun e W v0 v1 hT h0 h1 => e ▸ akh W hT v0 h0 v1 h1)
  (fun e0 e1 e2 W v0 v1 hT h0 h1 => (show kd = 3 by omega) ▸ bdg W hT v0 h0 v1 h1)
set_option maxHeartbeats 16000000 in
theorem apt {fe eu fu fq ic ib gy gu : Int} {g : Int} (w : World) (hT : rz w) (u0 : Value) (h0 : ai [iv fe, iv eu, iv fu, iv fq] w u0) (u1 : Value) (h1 : ai [iv ic, iv ib, iv gy, iv gu] w u1) :
  Calls Tryz.prog 6 #[u0, u1, .int .i64 g] w (jh (Rg.bf (.bool true)) w) := by
 have HT := hide hT
 clear hT
 have hu0 := Af h0
 subst hu0
 have hu1 := Af h1
 subst hu1
 go_enter Tryz.func6, Tryz.ntmps6
 go_upto_region 1 with fail
 have hO := (Own.push (T := 41) (ls := [iv ic, iv ib, iv gy, iv gu]) (cs := [.int .i64 ic, .int .i64 ib, .int .i64 gy, .int .i64 gu]) (Own.push (T := 41) (ls := [iv fe, iv eu, iv fu, iv fq]) (cs := [.int .i64 fe, .int .i64 eu, .int .i64 fu, .int .i64 fq]) (Own.nil w) (ek.v (kg _) (ek.v (kg _) (ek.v (kg _) (ek.v (kg _) rfl)))) (w.heap.size) rfl) (((ek.v (kg _) (ek.v (kg _) (ek.v (kg _) (ek.v (kg _) rfl)))) : ek w [iv ic, iv ib, iv gy, iv gu] [.int .i64 ic, .int .i64 ib, .int .i64 gy, .int .i64 gu]).below (by repeat (first | exact Below.refl _ _ | refine ja ?_ _))) (w.heap.size + 1) (by simp only [World.size_alloc]))
 generalize (w.alloc (.cells #[.int .i64 fe, .int .i64 eu, .int .i64 fu, .int .i64 fq] 41)).alloc (.cells #[.int .i64 ic, .int .i64 ib, .int .i64 gy, .int .i64 gu] 41) = W0 at *
 have HO := hide hO
 clear hO
 go_wp2_with fail
 go_loopw [7] (fun vk wr => ∃ k : Nat, k ≤ 4 ∧ vk = .int .i64 ((k : Nat) : Int) ∧ Hid (Own w [(w.heap.size + 1, 41, [iv ic, iv ib, iv gy, iv gu]), (w.heap.size, 41, [iv fe, iv eu, iv fu, iv fq])] wr)) (fun vk _ => 4 - (intOf vk).toNat)
 case atStart => exact ⟨0, by omega, rfl, HO⟩
 case round =>
  obtain ⟨k, hk, rfl, HO⟩ := hrel
  have HK := hide hk
  clear hk
  by_cases g1 : (k : Int) ≤ 3
  ·
   have d1 : decide ((k : Int) ≤ 3) = true := decide_eq_true g1
   have yc := hide (show k < 4 by omega)
   obtain ⟨t, ht⟩ : ∃ t, t = Zg (k : Int) fe eu fu fq ic ib gy gu g := ⟨_, rfl⟩
   have HD := hide ht
   clear ht
   go_upto_region 2 with fail
   refine Rg.fw 2 41 (Rg.pick [Rg.bf (.int .i64 (k : Int)), Rg.bf (.bool true)]) (ay w [(w.heap.size + 1, 41, [iv ic, iv ib, iv gy, iv gu]), (w.heap.size, 41, [iv fe, iv eu, iv fu, iv fq])] wr) ik [] kr rfl (Rg.gm.pick ⟨Rg.ag _, Rg.ag _, trivial⟩) (ay.begin (aa HO))
    (ae (ig rfl (Rg.cz kr rfl))
    (ae (Jg rfl (Rg.ax 0 kr) (Rg.mh _) rfl d1)
    Rg.cu)) ?_
   intro v1 V1 hG1 hv1 hne1
   simp only [Rg.puts, jr, jq, jo, jm, Act.put, jl, jk, ji]
   have e1 : v1 1 = .bool true := hv1 1 (by decide)
   simp only [e1]
   have hO := hG1.1
   clear HO
   have HO := hide hO
   clear hO hG1 hv1 hne1
   try clear e1
   clear d1 g1
   go_upto_region 4 with fail
   refine Rg.fw 9 41 (Rg.pick [Rg.bf (.int .i64 (k : Int)), ai [iv fe, iv eu, iv fu, iv fq], ai [iv ic, iv ib, iv gy, iv gu], Rg.bf (.int .i64 g), tq [ai [iv t.a, iv t.b, iv t.c, iv t.d], Rg.bf (.int .i64 t.e)], tq [ai [iv t.a, iv t.b, iv t.c, iv t.d], Rg.bf (.int .i64 t.e)], ai [iv t.a, iv t.b, iv t.c, iv t.d], Rg.bf (.int .i64 t.e), tu 41 zS V1.heap.size]) (ay w [(w.heap.size + 1, 41, [iv ic, iv ib, iv gy, iv gu]), (w.heap.size, 41, [iv fe, iv eu, iv fu, iv fq])] V1) ik [8] kr rfl (Rg.gm.pick ⟨Rg.ag _, au _, au _, Rg.ag _, oz ⟨(au _), (Rg.ag _), trivial⟩, oz ⟨(au _), (Rg.ag _), trivial⟩, au _, Rg.ag _, uq _ _ _, trivial⟩) (ay.begin (aa HO))
    (ae (ig rfl (Rg.cz kr rfl))
    (ae (fo qp nu (Rg.cz kr rfl) [] [iv fe, iv eu, iv fu, iv fq] [])
    (ae (fo qp me0 (Rg.cz kr rfl) [] [iv ic, iv ib, iv gy, iv gu] [])
    (ae (ig rfl (Rg.cz kr rfl))
    (ae (Ru Tryz.func26 kr rfl ay.step (Rg.ax 0 kr) (Rg.ax 1 kr) (Rg.ax 2 kr) (Rg.ax 3 kr) (fun W v0 v1 v2 v3 hG h0 h1 h2 h3 => by cases h0; cases h3; exact Qw (aa HD) (bdq om (by have := aa yc; omega) W ((aa HT).below hG.bel) _ h1 _ h2)))
    (ae (ig rfl (Rg.ax 4 kr))
    (ae (oo (ts := [ai [iv t.a, iv t.b, iv t.c, iv t.d], Rg.bf (.int .i64 t.e)]) rfl (Rg.ax 5 kr) (of_decide_eq_true rfl) rfl)
    (ae (oo (ts := [ai [iv t.a, iv t.b, iv t.c, iv t.d], Rg.bf (.int .i64 t.e)]) rfl (Rg.ax 5 kr) (of_decide_eq_true rfl) rfl)
    (ae (xc aba rfl ay.step ay.size rfl (ym (by intro j hj; simp at hj; (repeat' (first | (rcases hj with rfl | hj))) <;> first | (subst hj; exact ⟨_, _, _, rfl⟩) | exact ⟨_, _, _, rfl⟩)))
    Rg.cu))))))))) ?_
   intro v2 V2 hG2 hv2 hne2
   simp only [Rg.puts, jr, jq, jo, jm, Act.put, jl, jk, ji]
   have e7 : v2 7 = .int .i64 t.e := hv2 7 (by decide)
   obtain ⟨Wz, e8, Qc, Wi⟩ := (show tu 41 zS V1.heap.size V2 (v2 8) from hv2 8 (by decide))
   simp only [e7, e8]
   have hO := hG2.1
   replace hO := Own.add (aa HO) hG2.2 Qc Wi
   clear Qc Wi
   refine ky hO 0 [] zS [iv t.a, iv t.b, iv t.c, iv t.d] [] rfl uj rfl (show ai [iv t.a, iv t.b, iv t.c, iv t.d] V2 (v2 6) from hv2 6 (by decide)) rfl rfl rfl ?_
   intro Dl iy hk0
   replace hO := iy
   clear iy
   clear HO
   have HO := hide hO
   clear hO hG2 hv2 hne2 hk0
   try clear e7 e8
   go_upto_region 5 with fail
   refine Rg.fw 9 41 (Rg.pick [Rg.bf (.int .i64 (k : Int)), ai [iv fe, iv eu, iv fu, iv fq], ai [iv ic, iv ib, iv gy, iv gu], Rg.bf (.int .i64 g), tq [ai [iv t.a, iv t.b, iv t.c, iv t.d], Rg.bf (.int .i64 t.e)], tq [ai [iv t.a, iv t.b, iv t.c, iv t.d], Rg.bf (.int .i64 t.e)], ai [iv t.a, iv t.b, iv t.c, iv t.d], Rg.bf (.int .i64 t.e), tu 41 zS Dl.heap.size]) (ay w [(Wz, 41, [iv t.a, iv t.b, iv t.c, iv t.d]), (w.heap.size + 1, 41, [iv ic, iv ib, iv gy, iv gu]), (w.heap.size, 41, [iv fe, iv eu, iv fu, iv fq])] Dl) ik [8] kr rfl (Rg.gm.pick ⟨Rg.ag _, au _, au _, Rg.ag _, oz ⟨(au _), (Rg.ag _), trivial⟩, oz ⟨(au _), (Rg.ag _), trivial⟩, au _, Rg.ag _, uq _ _ _, trivial⟩) (ay.begin (aa HO))
    (ae (ig rfl (Rg.cz kr rfl))
    (ae (fo qp qo (Rg.cz kr rfl) [] [iv fe, iv eu, iv fu, iv fq] [])
    (ae (fo qp nu (Rg.cz kr rfl) [] [iv ic, iv ib, iv gy, iv gu] [])
    (ae (ig rfl (Rg.cz kr rfl))
    (ae (Ru Tryz.func27 kr rfl ay.step (Rg.ax 0 kr) (Rg.ax 1 kr) (Rg.ax 2 kr) (Rg.ax 3 kr) (fun W v0 v1 v2 v3 hG h0 h1 h2 h3 => by cases h0; cases h3; exact Qw (aa HD) (bfv W _ h1 _ h2)))
    (ae (ig rfl (Rg.ax 4 kr))
    (ae (oo (ts := [ai [iv t.a, iv t.b, iv t.c, iv t.d], Rg.bf (.int .i64 t.e)]) rfl (Rg.ax 5 kr) (of_decide_eq_true rfl) rfl)
    (ae (oo (ts := [ai [iv t.a, iv t.b, iv t.c, iv t.d], Rg.bf (.int .i64 t.e)]) rfl (Rg.ax 5 kr) (of_decide_eq_true rfl) rfl)
    (ae (xc aba rfl ay.step ay.size rfl (ym (by intro j hj; simp at hj; (repeat' (first | (rcases hj with rfl | hj))) <;> first | (subst hj; exact ⟨_, _, _, rfl⟩) | exact ⟨_, _, _, rfl⟩)))
    Rg.cu))))))))) ?_
   intro v3 V3 hG3 hv3 qh
   simp only [Rg.puts, jr, jq, jo, jm, Act.put, jl, jk, ji]
   have e7 : v3 7 = .int .i64 t.e := hv3 7 (by decide)
   obtain ⟨bkp, e8, Qc, Wi⟩ := (show tu 41 zS Dl.heap.size V3 (v3 8) from hv3 8 (by decide))
   simp only [e7, e8]
   have hO := hG3.1
   replace hO := Own.add (aa HO) hG3.2 Qc Wi
   clear Qc Wi
   refine ky hO 0 [] zS [iv t.a, iv t.b, iv t.c, iv t.d] [] rfl uj rfl (show ai [iv t.a, iv t.b, iv t.c, iv t.d] V3 (v3 6) from hv3 6 (by decide)) rfl rfl rfl ?_
   intro Ea iy hk0
   replace hO := iy
   clear iy
   clear HO
   have HO := hide hO
   clear hO hG3 hv3 qh hk0
   try clear e7 e8
   go_upto_region 6 with fail
   refine Rg.fw 8 41 (Rg.pick [ai [iv t.a, iv t.b, iv t.c, iv t.d], ai [iv t.a, iv t.b, iv t.c, iv t.d], Rg.bf (.bool false), Rg.bf (.bool false), Rg.bf (.int .i64 t.e), Rg.bf (.int .i64 t.e), Rg.bf (.bool false), Rg.bf (.bool false)]) (ay w [(bkp, 41, [iv t.a, iv t.b, iv t.c, iv t.d]), (Wz, 41, [iv t.a, iv t.b, iv t.c, iv t.d]), (w.heap.size + 1, 41, [iv ic, iv ib, iv gy, iv gu]), (w.heap.size, 41, [iv fe, iv eu, iv fu, iv fq])] Ea) ik [] kr rfl (Rg.gm.pick ⟨au _, au _, Rg.ag _, Rg.ag _, Rg.ag _, Rg.ag _, Rg.ag _, Rg.ag _, trivial⟩) (ay.begin (aa HO))
    (ae (fo qp nu (Rg.cz kr rfl) [] [iv t.a, iv t.b, iv t.c, iv t.d] [])
    (ae (fo qp me0 (Rg.cz kr rfl) [] [iv t.a, iv t.b, iv t.c, iv t.d] [])
    (ae (bak rfl (Rg.ax 0 kr) (Rg.ax 1 kr) (decide_eq_false (fun h => h ⟨rfl, rfl, rfl, rfl⟩)) rfl)
    (ae (ig rfl (Rg.ax 2 kr))
    (Rg.bg (Rg.il (d := 35) rfl kr rfl (ig rfl (Rg.cz kr rfl)))
    (Rg.bg (Rg.il (d := 35) rfl kr rfl (ig rfl (Rg.cz kr rfl)))
    (Rg.bg (Rg.il (d := 35) rfl kr rfl (Hg rfl (Rg.ax 4 kr) (Rg.ax 5 kr) rfl (bne_self_eq_false t.e)))
    (ae (zf rfl (Rg.ax 3 kr) (Rg.ax 6 kr))
    Rg.cu)))))))) ?_
   intro v4 V4 hG4 hv4 yg
   simp only [Rg.puts, jr, jq, jo, jm, Act.put, jl, jk, ji]
   have e7 : v4 7 = .bool false := hv4 7 (by decide)
   simp only [e7]
   have hO := hG4.1
   clear HO
   have HO := hide hO
   clear hO hG4 hv4 yg
   try clear e7
   go_wp2_with fail
   go_roundw
   case rel =>
    exact ⟨k + 1, by have := aa yc; omega, Xj (aa yc) om, hide (aa HO).drop.drop⟩
   case measure =>
    have h1 := aa yc
    clear HO
    rw [Tq h1 om]
    exact measS h1
  ·
   have d1 : decide ((k : Int) ≤ 3) = false := decide_eq_false g1
   go_upto_region 2 with fail
   refine Rg.fw 2 41 (Rg.pick [Rg.bf (.int .i64 (k : Int)), Rg.bf (.bool false)]) (ay w [(w.heap.size + 1, 41, [iv ic, iv ib, iv gy, iv gu]), (w.heap.size, 41, [iv fe, iv eu, iv fu, iv fq])] wr) ik [] kr rfl (Rg.gm.pick ⟨Rg.ag _, Rg.ag _, trivial⟩) (ay.begin (aa HO))
    (ae (ig rfl (Rg.cz kr rfl))
    (ae (Jg rfl (Rg.ax 0 kr) (Rg.mh _) rfl d1)
    Rg.cu)) ?_
   intro v1 V1 hG1 hv1 hne1
   simp only [Rg.puts, jr, jq, jo, jm, Act.put, jl, jk, ji]
   have e1 : v1 1 = .bool false := hv1 1 (by decide)
   simp only [e1]
   have hO := hG1.1
   clear HO
   have HO := hide hO
   clear hO hG1 hv1 hne1
   try clear e1
   clear d1 g1
   go_upto_region 8 with fail
   refine Rg.fw 2 41 (Rg.pick [Rg.bf (.bool true), Rg.bf (.bool true)]) (ay w [(w.heap.size + 1, 41, [iv ic, iv ib, iv gy, iv gu]), (w.heap.size, 41, [iv fe, iv eu, iv fu, iv fq])] V1) ik [] kr rfl (Rg.gm.pick ⟨Rg.ag _, Rg.ag _, trivial⟩) (ay.begin (aa HO))
    (ae (ajr Tryz.func28 kr rfl ay.step  (fun W  hG  => apu W ((aa HT).below hG.bel)))
    (ae (og rfl (Rg.ax 0 kr))
    Rg.cu)) ?_
   intro v2 V2 hG2 hv2 hne2
   simp only [Rg.puts, jr, jq, jo, jm, Act.put, jl, jk, ji]
   have e0 : v2 0 = .bool true := hv2 0 (by decide)
   have e1 : v2 1 = .bool true := hv2 1 (by decide)
   simp only [e0, e1]
   have hO := hG2.1
   clear HO
   have HO := hide hO
   clear hO hG2 hv2 hne2
   try clear e0 e1
   go_wp2_with fail
   exact Co Tryz.results6 rfl (aa HO).bel rfl
theorem arj (s t : Sp) (g : Int) (w : World) (hT : rz w) (u0 u1 : Value) (h0 : ai (lv4 s) w u0) (h1 : ai (lv4 t) w u1) : Calls Tryz.prog 6 #[u0, u1, .int .i64 g] w (jh (Rg.bf (.bool true)) w) :=
 apt w hT u0 h0 u1 h1
end Sb

end Go.Proofs.YtjdnmdlnaoedoaaGreatDoor
namespace Go.Proofs.YtjdnmdlnaoedoaaGreatDoor
open Go.Joins Go.ChangeShapes Go.WideShapes Go.ChangeAt Go.RowKit

theorem own : ownKnob Tryz.prog.godebug = none := by kernel_rfl
def abf {H : Type} : List (String × DataW H) := [("math/bits.deBruijn64tab", Rows.laid_math_bits_deBruijn64tab)]
theorem ast : (Rows.laid_math_bits_deBruijn64tab : DataW Unit) = .agg (Lib.deBruijn64tab.map fun (n : Nat) => .lit (.int .u8 (n : Int))) := by kernel_rfl
theorem bac {W : World} (h : laidMetH Tryz.prog abf W) : rz W := by
 rw [MakeChecks.laidMetH_plain _ _ _ kr] at h
 obtain ⟨ps, ⟨g, t, cs, fuel, p, q, hg, ht, hv, hd, _, _⟩, _, _⟩ := h
 obtain rfl := Option.some.inj ((show Tryz.prog.globalNamed "math/bits.deBruijn64tab" = some 0 by kernel_rfl).symm.trans hg)
 obtain rfl := Option.some.inj ((show (Tryz.prog.globals[0]?).map (·.type) = some 180 by kernel_rfl).symm.trans ht)
 obtain ⟨xs, m, _, ex, hcl, hl, hel⟩ := DataW.trod_array Tryz.underlying180 hd
 have c5 : Tryz.prog.cellsOf 5 = 1 := by kernel_rfl
 have hlen : Lib.deBruijn64tab.length = 64 := by kernel_rfl
 rw [ast] at ex
 have e3 : (xs.map (·.1)) = Lib.deBruijn64tab.map fun (n : Nat) => .lit (.int .u8 (n : Int)) := (DataW.agg.inj (Prod.mk.inj ex).1).symm
 have cell : ∀ r : Nat, r < 64 → W.cell? ⟨0, r, none⟩ = some (.int .u8 (Lib.deBruijn64tab.getD r 0)) := fun r hr => by
  have hE := hel r hr
  rw [c5, Nat.mul_one, List.getElem?_eq_getElem om] at hE
  obtain ⟨z, e1, e2, _⟩ := DataW.trod_int Tryz.underlying5 hE
  have e4 : (xs.map (·.1))[r]? = (Lib.deBruijn64tab.map fun (n : Nat) => (DataW.lit (.int .u8 (n : Int)) : DataW Unit))[r]? := by rw [e3]
  rw [List.getElem?_map, List.getElem?_map, List.getElem?_eq_getElem (by omega : r < xs.length), List.getElem?_eq_getElem (by omega : r < Lib.deBruijn64tab.length), e2] at e4
  have hz : z = (Lib.deBruijn64tab.getD r 0 : Nat) := by
   simp only [Option.map_some, Option.some.injEq, DataW.lit.injEq, Lit.int.injEq, true_and] at e4
   rw [e4, List.getD, List.getElem?_eq_getElem (by omega : r < Lib.deBruijn64tab.length)]; rfl
  rw [World.var?_cell hg hv r, ← hz]
  have : cs.toList[r]? = some (.int .u8 z) := by
   have h0 : ((cs.toList.drop r).take 1)[0]? = some (.int .u8 z) := by rw [e1]; rfl
   simpa using h0
  simpa using this
 refine ⟨fun j hj => cell j om, ?_⟩
 have h0 := cell 0 om
 rcases Nat.lt_or_ge 0 W.heap.size with hlt | hge
 ·
  exact hlt
 ·
  simp [World.cell?, Array.getElem?_eq_none hge] at h0

theorem alq {H : Type} {enc : TypeId × Value → H} {P : Program} {f : Func} {s : ChangeSpec} {apart : Bool} {W W' : World} {args : Array Value} {v : Value} {ds gs : List (DataW H)}
  (hW : DataW.Whole enc P f.params.toList s.vars apart W args.toList ds gs [])
  (hres : DataW.TrodAll enc P W' W.heap.size (fun _ => false) false f.resultTypes.toList (v.resultList f.resultTypes.size) (s.fn H (ds ++ gs)).results [])
  (hargs : DataW.TrodAll enc P W' 0 (fun b => decide (b < W.heap.size)) true f.params.toList args.toList (s.fn H (ds ++ gs)).args [])
  (hvars : DataW.TrodVars enc P W' (fun b => decide (b < W.heap.size)) s.vars (s.fn H (ds ++ gs)).vars []) (hb : Below W.heap.size W W') :
  s.post enc P f apart true false false W args v W' :=
 ⟨ds, gs, [], [], [], [], hW, hres, hargs, hvars, hb.frame _, fun h => by cases h⟩
end Go.Proofs.YtjdnmdlnaoedoaaGreatDoor
namespace Go.Proofs.YtjdnmdlnaoedoaaGreatDoor
open Go.Joins Go.ChangeShapes Go.WideShapes Go.ChangeAt Go.RowKit

theorem ady {H : Type} {enc : TypeId × Value → H} {w : World} {base : Nat} {spare : Nat → Bool} {held : Bool} {r : Reach} {b0 : Nat} {v : Value} {d : DataW H} {p : List MemPlace}
  (hv : Value.okWide Tryz.prog w r b0 41 v) (h : DataW.Trod enc Tryz.prog w base spare held 41 v d p) :
  ∃ a b c e : Int, v = .agg #[.int .i64 a, .int .i64 b, .int .i64 c, .int .i64 e] ∧ d = .agg [.agg [.lit (.int .i64 a), .lit (.int .i64 b)], .agg [.lit (.int .i64 c), .lit (.int .i64 e)]] ∧ p = [] ∧
   (Lit.int .i64 a).wf = true ∧ (Lit.int .i64 b).wf = true ∧ (Lit.int .i64 c).wf = true ∧ (Lit.int .i64 e).wf = true := by
 obtain ⟨cs, rfl, hsz⟩ := okWide_struct Tryz.underlying41 hv
 obtain ⟨c0, c1, c2, c3, rfl⟩ := array4 (hsz.trans (show Tryz.prog.cellsOf 41 = 4 by kernel_rfl))
 obtain ⟨fuel, hf⟩ := h
 obtain ⟨y0, y1, n, hx, _, h0, h1⟩ := trod_struct2 Tryz.underlying41 hf
 have k2 : Tryz.prog.cellsOf 23 = 2 := by kernel_rfl
 have k1 : Tryz.prog.cellsOf 3 = 1 := by kernel_rfl
 have h0' : DataW.trod enc Tryz.prog w base spare held n 23 [c0, c1] = some y0 := by simpa [Value.cells, k2] using h0
 have h1' : DataW.trod enc Tryz.prog w base spare held n 23 [c2, c3] = some y1 := by simpa [Value.cells, k2] using h1
 obtain ⟨z0, z1, m, hy, _, g0, g1⟩ := trod_struct2 Tryz.underlying23 h0'
 obtain ⟨z2, z3, m', hy', _, g2, g3⟩ := trod_struct2 Tryz.underlying23 h1'
 have g0' : DataW.trod enc Tryz.prog w base spare held m 3 [c0] = some z0 := by simpa [k1] using g0
 have g1' : DataW.trod enc Tryz.prog w base spare held m 3 [c1] = some z1 := by simpa [k1] using g1
 have g2' : DataW.trod enc Tryz.prog w base spare held m' 3 [c2] = some z2 := by simpa [k1] using g2
 have g3' : DataW.trod enc Tryz.prog w base spare held m' 3 [c3] = some z3 := by simpa [k1] using g3
 obtain ⟨a, e0, rfl, w0⟩ := DataW.trod_int Tryz.underlying3 g0'
 obtain ⟨b, e1, rfl, w1⟩ := DataW.trod_int Tryz.underlying3 g1'
 obtain ⟨c, e2, rfl, w2⟩ := DataW.trod_int Tryz.underlying3 g2'
 obtain ⟨e, e3, rfl, w3⟩ := DataW.trod_int Tryz.underlying3 g3'
 simp only [List.cons.injEq, and_true] at e0 e1 e2 e3
 subst e0 e1 e2 e3 hy hy'
 simp only [Prod.mk.injEq] at hx
 exact ⟨a, b, c, e, rfl, hx.1, by simpa using hx.2, w0, w1, w2, w3⟩
theorem adw {H : Type} {enc : TypeId × Value → H} {w : World} {base : Nat} {spare : Nat → Bool} {held : Bool} {a b c e : Int} (w0 : (Lit.int .i64 a).wf = true) (w1 : (Lit.int .i64 b).wf = true) (w2 : (Lit.int .i64 c).wf = true) (w3 : (Lit.int .i64 e).wf = true) :
  DataW.Trod enc Tryz.prog w base spare held 41 (.agg #[.int .i64 a, .int .i64 b, .int .i64 c, .int .i64 e]) (.agg [.agg [.lit (.int .i64 a), .lit (.int .i64 b)], .agg [.lit (.int .i64 c), .lit (.int .i64 e)]]) [] := by
 have k4 : Tryz.prog.cellsOf 41 = 4 := by kernel_rfl
 have k2 : Tryz.prog.cellsOf 23 = 2 := by kernel_rfl
 have k1 : Tryz.prog.cellsOf 3 = 1 := by kernel_rfl
 have i0 : ∀ k : Int, (Lit.int .i64 k).wf = true → DataW.trod enc Tryz.prog w base spare held 1 3 [.int .i64 k] = some (.lit (.int .i64 k), []) := fun k hk => trod_int_mk 0 Tryz.underlying3 hk
 have r1 := trod_struct2_mk (enc := enc) (P := Tryz.prog) (w := w) (base := base) (spare := spare) (held := held) (n := 1) (cs := [.int .i64 a, .int .i64 b]) (y0 := (.lit (.int .i64 a), [])) (y1 := (.lit (.int .i64 b), [])) Tryz.underlying23 (by simp [k2])
  (by simpa [k1] using i0 a w0) (by simpa [k1] using i0 b w1)
 have r2 := trod_struct2_mk (enc := enc) (P := Tryz.prog) (w := w) (base := base) (spare := spare) (held := held) (n := 1) (cs := [.int .i64 c, .int .i64 e]) (y0 := (.lit (.int .i64 c), [])) (y1 := (.lit (.int .i64 e), [])) Tryz.underlying23 (by simp [k2])
  (by simpa [k1] using i0 c w2) (by simpa [k1] using i0 e w3)
 have r3 := trod_struct2_mk (enc := enc) (P := Tryz.prog) (w := w) (base := base) (spare := spare) (held := held) (n := 2) (cs := [.int .i64 a, .int .i64 b, .int .i64 c, .int .i64 e]) Tryz.underlying41 (by simp [k4])
  (by simpa [k2] using r1) (by simpa [k2] using r2)
 exact ⟨3, by simpa [Value.cells] using r3⟩
end Go.Proofs.YtjdnmdlnaoedoaaGreatDoor
