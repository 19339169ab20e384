/- Texts beneath a law of layer 1. -/
import Derived.Test.YtjdnmdlnaoedoaaGreatDoorCs12
set_option maxRecDepth 100000
namespace Go.Proofs.YtjdnmdlnaoedoaaGreatDoor
open Go.RowKit

namespace Sb
set_option maxHeartbeats 16000000 in
theorem atq {fe eu fu fq ic ib gy gu : Int} {g : Int} (t : Gj) (w : World) (hT : rz w) (u0 : Value) (h0 : ai [iv fe, iv eu, iv fu, iv fq] w u0) (u1 : Value) (h1 : ai [iv ic, iv ib, iv gy, iv gu] w u1)
  (hc : ∀ (W : World) (v0 v1 : Value), rz W → ai [iv fe, iv eu, iv fu, iv fq] W v0 → ai [iv ic, iv ib, iv gy, iv gu] W v1 → Calls Tryz.prog 148 #[v0, v1, .int .i64 g, .func (.func 151) #[] #[]] W (jh (Ga t) W)) :
  Calls Tryz.prog 83 #[u0, u1, .int .i64 g] w (jh (Ga t) w) := by
 have HC := hide hc
 have HT := hide hT
 clear hc hT
 have hu0 := Af h0
 subst hu0
 have hu1 := Af h1
 subst hu1
 go_enter Tryz.func83, Tryz.ntmps83
 go_upto_region 1 with fail
 have hO := (Own.push (T := 41) (ls := zS) (cs := [.int .i64 0, .int .i64 0, .int .i64 0, .int .i64 0]) (Own.push (T := 41) (ls := [iv ic, iv ib, iv gy, iv gu]) (cs := [.int .i64 ic, .int .i64 ib, .int .i64 gy, .int .i64 gu]) (Own.push (T := 41) (ls := [iv fe, iv eu, iv fu, iv fq]) (cs := [.int .i64 fe, .int .i64 eu, .int .i64 fu, .int .i64 fq]) (Own.nil w) (ek.v (kg _) (ek.v (kg _) (ek.v (kg _) (ek.v (kg _) rfl)))) (w.heap.size) rfl) (((ek.v (kg _) (ek.v (kg _) (ek.v (kg _) (ek.v (kg _) rfl)))) : ek w [iv ic, iv ib, iv gy, iv gu] [.int .i64 ic, .int .i64 ib, .int .i64 gy, .int .i64 gu]).below (by repeat (first | exact Below.refl _ _ | refine ja ?_ _))) (w.heap.size + 1) (by simp only [World.size_alloc])) (((ek.vs w [.int .i64 0, .int .i64 0, .int .i64 0, .int .i64 0] rfl) : ek w zS [.int .i64 0, .int .i64 0, .int .i64 0, .int .i64 0]).below (by repeat (first | exact Below.refl _ _ | refine ja ?_ _))) (w.heap.size + 2) (by simp only [World.size_alloc]))
 generalize ((w.alloc (.cells #[.int .i64 fe, .int .i64 eu, .int .i64 fu, .int .i64 fq] 41)).alloc (.cells #[.int .i64 ic, .int .i64 ib, .int .i64 gy, .int .i64 gu] 41)).alloc (.cells #[.int .i64 0, .int .i64 0, .int .i64 0, .int .i64 0] 41) = W0 at *
 have HO := hide hO
 clear hO
 go_upto_region 1 with fail
 refine Rg.fw 6 14 (Rg.pick [ai [iv fe, iv eu, iv fu, iv fq], ai [iv ic, iv ib, iv gy, iv gu], Rg.bf (.int .i64 g), tq [ai [iv t.a, iv t.b, iv t.c, iv t.d], Rg.bf (.int .i64 t.e)], ai [iv t.a, iv t.b, iv t.c, iv t.d], Rg.bf (.int .i64 t.e)]) (ay w [(w.heap.size + 2, 41, zS), (w.heap.size + 1, 41, [iv ic, iv ib, iv gy, iv gu]), (w.heap.size, 41, [iv fe, iv eu, iv fu, iv fq])] W0) ik [] kr rfl (Rg.gm.pick ⟨au _, au _, Rg.ag _, oz ⟨(au _), (Rg.ag _), trivial⟩, au _, Rg.ag _, trivial⟩) (ay.begin (aa HO))
  (ae (fo qp qo (Rg.cz kr rfl) [] [iv fe, iv eu, iv fu, iv fq] [])
  (ae (fo qp nu (Rg.cz kr rfl) [] [iv ic, iv ib, iv gy, iv gu] [])
  (ae (ig rfl (Rg.cz kr rfl))
  (ae (Ru Tryz.func148 kr rfl ay.step (Rg.ax 0 kr) (Rg.ax 1 kr) (Rg.ax 2 kr) (ana _) (fun W v0 v1 v2 v3 hG h0 h1 h2 h3 => by cases h2; cases h3; exact aa HC W v0 v1 ((aa HT).below hG.bel) h0 h1))
  (ae (oo (ts := [ai [iv t.a, iv t.b, iv t.c, iv t.d], Rg.bf (.int .i64 t.e)]) rfl (Rg.ax 3 kr) (of_decide_eq_true rfl) rfl)
  (ae (oo (ts := [ai [iv t.a, iv t.b, iv t.c, iv t.d], Rg.bf (.int .i64 t.e)]) rfl (Rg.ax 3 kr) (of_decide_eq_true rfl) rfl)
  Rg.cu)))))) ?_
 intro v1 V1 hG1 hv1 hne1
 simp only [Rg.puts, jr, jq, jo, jm, Act.put, jl, jk, ji]
 have e5 : v1 5 = .int .i64 t.e := hv1 5 (by decide)
 simp only [e5]
 have hO := hG1.1
 refine ky hO 0 [] zS [iv t.a, iv t.b, iv t.c, iv t.d] [] rfl uj rfl (show ai [iv t.a, iv t.b, iv t.c, iv t.d] V1 (v1 4) from hv1 4 (by decide)) rfl rfl rfl ?_
 intro uy iy hk0
 replace hO := iy
 clear iy
 clear HO
 have HO := hide hO
 clear hO hG1 hv1 hne1 hk0
 try clear e5
 go_wp2_with fail
 exact yx Tryz.results83 xg rfl rfl (aa HO) me0 rfl rfl
end Sb

end Go.Proofs.YtjdnmdlnaoedoaaGreatDoor
namespace Go.Proofs.YtjdnmdlnaoedoaaGreatDoor
open Go.RowKit

namespace Sb
theorem azb {fe eu fu fq ic ib gy gu : Int} (h : ui [⟨fe, eu, fu, fq⟩, ⟨ic, ib, gy, gu⟩] = 0) : Ae fe eu fu fq ∧ Ae ic ib gy gu := by
 unfold ui at h
 split at h
 ·
  rename_i h2; exact ⟨h2 ⟨fe, eu, fu, fq⟩ (by simp), h2 ⟨ic, ib, gy, gu⟩ (by simp)⟩
 ·
  omega
end Sb

end Go.Proofs.YtjdnmdlnaoedoaaGreatDoor
namespace Go.Proofs.YtjdnmdlnaoedoaaGreatDoor
open Go.RowKit

namespace Sb
end Sb

end Go.Proofs.YtjdnmdlnaoedoaaGreatDoor
namespace Go.Proofs.YtjdnmdlnaoedoaaGreatDoor
open Go.RowKit

namespace Sb
instance : DecidableEq Gj := fun s t => decidable_of_iff (s.a = t.a ∧ s.b = t.b ∧ s.c = t.c ∧ s.d = t.d ∧ s.e = t.e) ⟨fun h => by cases s; cases t; obtain ⟨rfl, rfl, rfl, rfl, rfl⟩ := h; rfl, fun h => by subst h; exact ⟨rfl, rfl, rfl, rfl, rfl⟩⟩
theorem alm {ρ : Operand → Value} {w : World} {d : Option Tmp} {x y : Operand} {p q : Int} {ty : TypeId} {pos : String} {af : Array Edge} {gd : Option (Nat × Bool)} (h1 : ρ x = .int .i64 p) (h2 : ρ y = .int .i64 q) :
  (execOp ρ { dst := d, op := .build 23 #[(0, x), (1, y)], type := ty, pos := pos, after := af, guard := gd }).run Tryz.prog w = .ok (.value (.agg #[.int .i64 p, .int .i64 q])) w := by
 simp only [execOp]
 simp [go_sem, h1, h2]
 try rfl
theorem Ma {Q : Exit → Act → World → Prop} {l : List Oper} {n : Nat} {T : Nat → World → Value → Prop} {G : World → Prop} {al : List Nat} {a0 : Act} {k d : Nat} {ty : TypeId} {pos : String} {af : Array Edge} {gd : Option (Nat × Bool)} {x y : Operand} {p q : Int} (hal : al.contains k = false) (hx : Rg.mo l n T a0 k x (Rg.bf (.int .i64 p))) (hy : Rg.mo l n T a0 k y (Rg.bf (.int .i64 q))) (hT : T k = ai [.v (.int .i64 p), .v (.int .i64 q)]) :
  Rg.Step Tryz.prog Q l n T G ik al a0 k { dst := some d, op := .build 23 #[(0, x), (1, y)], type := ty, pos := pos, after := af, guard := gd } := by
 intro a w hG hO hN
 exact qm (P := Tryz.prog) (alm (hx a w hO hN) (hy a w hO hN)) ⟨_, rfl, hG, Below.refl _ _, by rw [hT]; exact Va _ _ _, fun h => by rw [hal] at h; cases h⟩
theorem ata {ρ : Operand → Value} {w : World} {d : Option Tmp} {x y : Operand} {p0 p1 p2 p3 q0 q1 q2 q3 : Int} {b : Bool} {ty : TypeId} {pos : String} {af : Array Edge} {gd : Option (Nat × Bool)} (h : ρ x = .agg #[.int .i64 p0, .int .i64 p1, .int .i64 p2, .int .i64 p3]) (h' : ρ y = .agg #[.int .i64 q0, .int .i64 q1, .int .i64 q2, .int .i64 q3]) (hb : decide (p0 = q0 ∧ p1 = q1 ∧ p2 = q2 ∧ p3 = q3) = b) :
  (execOp ρ { dst := d, op := .binOp .eql 41 x y 41, type := ty, pos := pos, after := af, guard := gd }).run Tryz.prog w = .ok (.value (.bool b)) w := by
 subst hb
 simp only [execOp, h, h']
 by_cases k0 : p0 = q0 <;> by_cases k1 : p1 = q1 <;> by_cases k2 : p2 = q2 <;> by_cases k3 : p3 = q3 <;> simp [go_sem, k0, k1, k2, k3]
theorem ban {Q : Exit → Act → World → Prop} {l : List Oper} {n : Nat} {T : Nat → World → Value → Prop} {G : World → Prop} {al : List Nat} {a0 : Act} {k d : Nat} {ty : TypeId} {pos : String} {af : Array Edge} {gd : Option (Nat × Bool)} {x y : Operand} {p0 p1 p2 p3 q0 q1 q2 q3 : Int} {b : Bool}
  (hal : al.contains k = false) (hx : Rg.mo l n T a0 k x (ai [iv p0, iv p1, iv p2, iv p3])) (hy : Rg.mo l n T a0 k y (ai [iv q0, iv q1, iv q2, iv q3])) (hb : decide (p0 = q0 ∧ p1 = q1 ∧ p2 = q2 ∧ p3 = q3) = b) (hT : T k = Rg.bf (.bool b)) :
  Rg.Step Tryz.prog Q l n T G ik al a0 k { dst := some d, op := .binOp .eql 41 x y 41, type := ty, pos := pos, after := af, guard := gd } := by
 intro a w hG hO hN
 exact qm (P := Tryz.prog) (ata (Af (hx a w hO hN)) (Af (hy a w hO hN)) hb) ⟨_, rfl, hG, Below.refl _ _, by rw [hT]; rfl, fun h => by rw [hal] at h; cases h⟩
set_option maxHeartbeats 16000000 in
theorem alz (w : World) (hT : rz w)
  (hc : ∀ (W : World) (v0 v1 : Value), rz W → ai [iv (-1), iv 1, iv 2, iv 1] W v0 → ai [iv 3, iv 1, iv 4, iv 1] W v1 → Calls Tryz.prog 83 #[v0, v1, .int .i64 1] W (jh (tq [ai [iv (-4), iv 1, iv 8, iv 1], Rg.bf (.int .i64 0)]) W)) :
  Calls Tryz.prog 28 #[] w (jh (Rg.bf (.bool true)) w) := by
 have HC := hide hc
 have HT := hide hT
 clear hc hT
 go_enter Tryz.func28, Tryz.ntmps28
 go_upto_region 1 with fail
 have hO := (Own.nil w)
 have HO := hide hO
 clear hO
 go_upto_region 1 with fail
 refine Rg.fw 4 24 (Rg.pick [ai [iv (-1), iv 1], ai [iv 2, iv 1], ai [iv (-1), iv 1, iv 2, iv 1], tu 41 zS w.heap.size]) (ay w [] w) ik [3] kr rfl (Rg.gm.pick ⟨au _, au _, au _, uq _ _ _, trivial⟩) (ay.begin (aa HO))
  (ae (Ma rfl (Rg.mh _) (Rg.mh _) rfl)
  (ae (Ma rfl (Rg.mh _) (Rg.mh _) rfl)
  (ae (yf Sw rfl (Rg.ax 0 kr) (Rg.ax 1 kr) rfl rfl rfl)
  (ae (xc aba rfl ay.step ay.size rfl (ym (by intro j hj; simp at hj; (repeat' (first | (rcases hj with rfl | hj))) <;> first | (subst hj; exact ⟨_, _, _, rfl⟩) | exact ⟨_, _, _, rfl⟩)))
  Rg.cu)))) ?_
 intro v1 V1 hG1 hv1 hne1
 simp only [Rg.puts, jr, jq, jo, jm, Act.put, jl, jk, ji]
 obtain ⟨aaj, e3, Qd, hz3⟩ := (show tu 41 zS w.heap.size V1 (v1 3) from hv1 3 (by decide))
 simp only [e3]
 have hO := hG1.1
 replace hO := Own.add (aa HO) hG1.2 Qd hz3
 clear Qd hz3
 refine ky hO 0 [] zS [iv (-1), iv 1, iv 2, iv 1] [] rfl uj rfl (show ai [iv (-1), iv 1, iv 2, iv 1] V1 (v1 2) from hv1 2 (by decide)) rfl rfl rfl ?_
 intro uy iy hk0
 replace hO := iy
 clear iy
 clear HO
 have HO := hide hO
 clear hO hG1 hv1 hne1 hk0
 try clear e3
 go_upto_region 2 with fail
 refine Rg.fw 9 24 (Rg.pick [ai [iv (-1), iv 1, iv 2, iv 1], ai [iv 3, iv 1], ai [iv 4, iv 1], ai [iv 3, iv 1, iv 4, iv 1], tq [ai [iv (-4), iv 1, iv 8, iv 1], Rg.bf (.int .i64 0)], tq [ai [iv (-4), iv 1, iv 8, iv 1], Rg.bf (.int .i64 0)], ai [iv (-4), iv 1, iv 8, iv 1], Rg.bf (.int .i64 0), tu 41 zS uy.heap.size]) (ay w [(aaj, 41, [iv (-1), iv 1, iv 2, iv 1])] uy) ik [8] kr rfl (Rg.gm.pick ⟨au _, au _, au _, au _, oz ⟨(au _), (Rg.ag _), trivial⟩, oz ⟨(au _), (Rg.ag _), trivial⟩, au _, Rg.ag _, uq _ _ _, trivial⟩) (ay.begin (aa HO))
  (ae (fo qp me0 (Rg.cz kr rfl) [] [iv (-1), iv 1, iv 2, iv 1] [])
  (ae (Ma rfl (Rg.mh _) (Rg.mh _) rfl)
  (ae (Ma rfl (Rg.mh _) (Rg.mh _) rfl)
  (ae (yf Sw rfl (Rg.ax 1 kr) (Rg.ax 2 kr) rfl rfl rfl)
  (ae (Rv Tryz.func83 kr rfl ay.step (Rg.ax 0 kr) (Rg.ax 3 kr) (Rg.mh _) (fun W v0 v1 v2 hG h0 h1 h2 => by cases h2; exact aa HC W v0 v1 ((aa HT).below hG.bel) h0 h1))
  (ae (ig rfl (Rg.ax 4 kr))
  (ae (oo (ts := [ai [iv (-4), iv 1, iv 8, iv 1], Rg.bf (.int .i64 0)]) rfl (Rg.ax 5 kr) (of_decide_eq_true rfl) rfl)
  (ae (oo (ts := [ai [iv (-4), iv 1, iv 8, iv 1], Rg.bf (.int .i64 0)]) rfl (Rg.ax 5 kr) (of_decide_eq_true rfl) rfl)
  (ae (xc aba rfl ay.step ay.size rfl (ym (by intro j hj; simp at hj; (repeat' (first | (rcases hj with rfl | hj))) <;> first | (subst hj; exact ⟨_, _, _, rfl⟩) | exact ⟨_, _, _, rfl⟩)))
  Rg.cu))))))))) ?_
 intro v2 V2 hG2 hv2 hne2
 simp only [Rg.puts, jr, jq, jo, jm, Act.put, jl, jk, ji]
 have e7 : v2 7 = .int .i64 0 := hv2 7 (by decide)
 obtain ⟨Wz, e8, Qc, Wi⟩ := (show tu 41 zS uy.heap.size V2 (v2 8) from hv2 8 (by decide))
 simp only [e7, e8]
 have hO := hG2.1
 replace hO := Own.add (aa HO) hG2.2 Qc Wi
 clear Qc Wi
 refine ky hO 0 [] zS [iv (-4), iv 1, iv 8, iv 1] [] rfl uj rfl (show ai [iv (-4), iv 1, iv 8, iv 1] V2 (v2 6) from hv2 6 (by decide)) rfl rfl rfl ?_
 intro Dl iy hk0
 replace hO := iy
 clear iy
 clear HO
 have HO := hide hO
 clear hO hG2 hv2 hne2 hk0
 try clear e7 e8
 go_upto_region 3 with fail
 refine Rg.fw 10 24 (Rg.pick [ai [iv (-4), iv 1, iv 8, iv 1], ai [iv (-4), iv 1], ai [iv 8, iv 1], ai [iv (-4), iv 1, iv 8, iv 1], Rg.bf (.bool true), Rg.bf (.bool true), Rg.bf (.int .i64 0), Rg.bf (.bool true), Rg.bf (.bool true), Rg.bf (.bool true)]) (ay w [(Wz, 41, [iv (-4), iv 1, iv 8, iv 1]), (aaj, 41, [iv (-1), iv 1, iv 2, iv 1])] Dl) ik [] kr rfl (Rg.gm.pick ⟨au _, au _, au _, au _, Rg.ag _, Rg.ag _, Rg.ag _, Rg.ag _, Rg.ag _, Rg.ag _, trivial⟩) (ay.begin (aa HO))
  (ae (fo qp me0 (Rg.cz kr rfl) [] [iv (-4), iv 1, iv 8, iv 1] [])
  (ae (Ma rfl (Rg.mh _) (Rg.mh _) rfl)
  (ae (Ma rfl (Rg.mh _) (Rg.mh _) rfl)
  (ae (yf Sw rfl (Rg.ax 1 kr) (Rg.ax 2 kr) rfl rfl rfl)
  (ae (ban rfl (Rg.ax 0 kr) (Rg.ax 3 kr) rfl rfl)
  (ae (ig rfl (Rg.ax 4 kr))
  (Rg.bg (Rg.il (d := 20) rfl kr rfl (ig rfl (Rg.cz kr rfl)))
  (Rg.bg (Rg.il (d := 20) rfl kr rfl (Mr rfl (Rg.ax 6 kr) (Rg.mh _) rfl rfl))
  (ae (vv rfl (Rg.ax 5 kr) (Rg.ax 7 kr))
  (ae (og rfl (Rg.ax 8 kr))
  Rg.cu)))))))))) ?_
 intro v3 V3 hG3 hv3 qh
 simp only [Rg.puts, jr, jq, jo, jm, Act.put, jl, jk, ji]
 have e8 : v3 8 = .bool true := hv3 8 (by decide)
 have e9 : v3 9 = .bool true := hv3 9 (by decide)
 simp only [e8, e9]
 have hO := hG3.1
 clear HO
 have HO := hide hO
 clear hO hG3 hv3 qh
 try clear e8 e9
 go_wp2_with fail
 exact Co Tryz.results28 rfl (aa HO).bel rfl
theorem bcw {ss : List Sp} {g : Int} (h : wu (ui ss) g = 0) : (∀ s ∈ ss, Vu s) ∧ 1 ≤ g ∧ g ≤ 1000000 := by
 unfold wu at h
 by_cases hs : ∀ s ∈ ss, Vu s
 ·
  have e : ui ss = 0 := if_pos hs
  rw [e] at h
  by_cases hg : g < 1 ∨ 1000000 < g
  ·
   rw [if_pos ⟨rfl, hg⟩] at h; omega
  ·
   exact ⟨hs, by omega, by omega⟩
 ·
  have e : ui ss = 1 := if_neg hs
  rw [e, if_neg (fun k => absurd k.1 (by decide))] at h
  omega
def awo (x y a b : Rat) : Prop := jw ((jd x [a]).num * (ko y [b]).den - (ko y [b]).num * (jd x [a]).den) ≤ 0
instance (x y a b : Rat) : Decidable (awo x y a b) := by unfold awo; infer_instance
end Sb

end Go.Proofs.YtjdnmdlnaoedoaaGreatDoor
namespace Go.Proofs.YtjdnmdlnaoedoaaGreatDoor
open Go.RowKit

namespace Sb
theorem Oe (x y : Rat) : jw (x.num * y.den - y.num * x.den) ≤ 0 ↔ x ≤ y := by
 rw [Rat.le_iff]
 unfold jw; (repeat' split) <;> omega
theorem apm {a b c d : Int} (h : Ae a b c d) : Wd.qR a b ≤ Wd.qR c d := by
 obtain ⟨h1, h2, h3⟩ := h
 obtain ⟨e1, e2⟩ := Wd.Oh h1
 obtain ⟨e3, e4⟩ := Wd.Oh h2
 rw [Rat.le_iff, e1, e2, e3, e4]; omega
theorem baw {a b c d : Int} (h1 : Wd.xz a b) (h2 : Wd.xz c d) (h : Wd.qR a b ≤ Wd.qR c d) : Ae a b c d := by
 obtain ⟨e1, e2⟩ := Wd.Oh h1
 obtain ⟨e3, e4⟩ := Wd.Oh h2
 rw [Rat.le_iff, e1, e2, e3, e4] at h
 exact ⟨h1, h2, by omega⟩
theorem avd {s t : Sp} (h1 : Vu s) (h2 : Vu t) : ui [s, t] = 0 := if_pos (by
 intro u hu
 simp only [List.mem_cons, List.not_mem_nil, or_false] at hu
 rcases hu with rfl | rfl
 ·
  exact h1
 ·
  exact h2)
end Sb

end Go.Proofs.YtjdnmdlnaoedoaaGreatDoor
namespace Go.Proofs.YtjdnmdlnaoedoaaGreatDoor
open Go.RowKit

def Bu (q : Rat) : World → Value → Prop := fun W v => ∃ A1 c1 l1 m1 A2 c2 l2 m2, v = (Value.agg #[.slice A1 (List.length l1) c1, .bool m1, .slice A2 (List.length l2) c2, .bool m2]) ∧ QV W A1 c1 l1 m1 A2 c2 l2 m2 q
theorem Xp (q : Rat) : Rg.Ez ik (Bu q) := by
 rintro w w' v hb ⟨A1, c1, l1, m1, A2, c2, l2, m2, rfl, h⟩
 exact ⟨_, _, _, _, _, _, _, _, rfl, h.below hb⟩
theorem avq {W : World} {b : Nat} (h : W.heap[b]? = some (.cells #[.slice none 0 0, .bool false, .slice none 0 0, .bool false] 63 (0, 0))) : Gn W b 0 :=
 have h0 : je W none 0 [] false 0 := ⟨si.Rl W 0 om, rfl⟩
 ⟨none, 0, [], false, none, 0, [], false, h, h0, 0, h0, .inr ⟨rfl, rfl⟩⟩
theorem Gn.lt {W : World} {b : Nat} {q : Rat} (h : Gn W b q) : b < W.heap.size := by
 obtain ⟨_, _, _, _, _, _, _, _, h, _⟩ := h; exact lt_of_block h
theorem aol {ρ : Operand → Value} {w : World} {d : Option Tmp} {x : Operand} {b : Nat} {u0 u1 u2 u3 : Value} {ty : TypeId} {pos : String} {af : Array Edge} {gd : Option (Nat × Bool)} (h : ρ x = .pointer (some ⟨b, 0, none⟩)) (k0 : w.cell? ⟨b, 0, none⟩ = some u0) (k1 : w.cell? ⟨b, 1, none⟩ = some u1) (k2 : w.cell? ⟨b, 2, none⟩ = some u2) (k3 : w.cell? ⟨b, 3, none⟩ = some u3) :
  (execOp ρ { dst := d, op := .load 63 x, type := ty, pos := pos, after := af, guard := gd }).run Tryz.prog w = .ok (.value (.agg #[u0, u1, u2, u3])) w := by
 simp only [execOp, h]
 simp [go_sem, k0, k1, k2, k3]
theorem aco {Q : Exit → Act → World → Prop} {l : List Oper} {n : Nat} {T : Nat → World → Value → Prop} {G : World → Prop} {al : List Nat} {a0 : Act} {k d b : Nat} {x : Operand} {q : Rat} {ty : TypeId} {pos : String} {af : Array Edge} {gd : Option (Nat × Bool)}
  (hal : al.contains k = false) (hx : Rg.mo l n T a0 k x (Rg.bf (.pointer (some ⟨b, 0, none⟩)))) (hb : ∀ W, G W → Gn W b q) (hT : T k = Bu q) :
  Rg.Step Tryz.prog Q l n T G ik al a0 k { dst := some d, op := .load 63 x, type := ty, pos := pos, after := af, guard := gd } := by
 intro a w hG hO hN
 obtain ⟨A1, c1, l1, m1, A2, c2, l2, m2, hk, hq⟩ := hb w hG
 exact qm (P := Tryz.prog) (aol (hx a w hO hN) (ah hk 0) (ah hk 1) (ah hk 2) (ah hk 3)) ⟨_, rfl, hG, Below.refl _ _, by rw [hT]; exact ⟨A1, c1, l1, m1, A2, c2, l2, m2, rfl, hq⟩, fun h => by rw [hal] at h; cases h⟩
structure Own (w : World) (bs : List (Nat × Rat)) (W : World) : Prop where
 bel : Below w.heap.size w W
 nd : (bs.map Prod.fst).Nodup
 box : ∀ b q, (b, q) ∈ bs → w.heap.size ≤ b ∧ Gn W b q
theorem Own.nil (w : World) : Own w [] w := ⟨Below.refl _ _, List.nodup_nil, fun b q h => by cases h⟩
theorem Own.step {w : World} {bs : List (Nat × Rat)} : ∀ W W', Own w bs W → ik W W' → Own w bs W' := fun W W' h hb => ⟨bz h.bel hb, h.nd, fun b q hm => ⟨(h.box b q hm).1, (h.box b q hm).2.below hb⟩⟩
theorem Own.lt {w W : World} {bs : List (Nat × Rat)} {b : Nat} {q : Rat} (h : Own w bs W) (hm : (b, q) ∈ bs) : b < W.heap.size := (h.box b q hm).2.lt
theorem Own.add {w W V : World} {bs : List (Nat × Rat)} {b : Nat} {q : Rat} (h : Own w bs V) (Wu : ik V W) (hb : V.heap.size ≤ b) (hq : Gn W b q) : Own w ((b, q) :: bs) W :=
 ⟨bz h.bel Wu, List.nodup_cons.2 ⟨fun hm => by
  obtain ⟨p, hp, he⟩ := List.mem_map.1 hm
  have := h.lt (b := p.1) (q := p.2) hp
  omega, h.nd⟩, fun b' q' hm => by
  rcases List.mem_cons.1 hm with e | hm
  ·
   cases e; exact ⟨Nat.le_trans h.bel.size hb, hq⟩
  ·
   exact ((Own.step V W h Wu).box b' q' hm)⟩
theorem Own.push {w W : World} {bs : List (Nat × Rat)} {q : Rat} {A1 : Option Addr} {c1 : Nat} {l1 : List Nat} {m1 : Bool} {A2 : Option Addr} {c2 : Nat} {l2 : List Nat} {m2 : Bool} (h : Own w bs W) (hv : QV W A1 c1 l1 m1 A2 c2 l2 m2 q) (b : Nat) (hb : b = W.heap.size) : Own w ((b, q) :: bs) (W.alloc (.cells #[.slice A1 l1.length c1, .bool m1, .slice A2 l2.length c2, .bool m2] 63)) := by
 subst hb
 exact h.add ((Below.refl _ _).alloc (Nat.le_refl _) _) (Nat.le_refl _) ⟨_, _, _, _, _, _, _, _, heap_alloc_new W _, hv.below ((Below.refl _ _).alloc (Nat.le_refl _) _)⟩
theorem Own.bfj {w W : World} {bs : List (Nat × Rat)} (h : Own w bs W) (b : Nat) (hb : b = W.heap.size) : Own w ((b, 0) :: bs) (W.alloc (.cells #[.slice none 0 0, .bool false, .slice none 0 0, .bool false] 63)) := by
 subst hb
 exact h.add ((Below.refl _ _).alloc (Nat.le_refl _) _) (Nat.le_refl _) (avq (heap_alloc_new W _))
theorem Own.other {w W : World} {bs : List (Nat × Rat)} (o : Obj) (h : Own w bs W) : Own w bs (W.alloc o) := Own.step _ _ h ((Below.refl _ _).alloc (Nat.le_refl _) _)
def bai (W : World) (b : Nat) (v0 v1 v2 v3 : Value) : World := (((W.setCell ⟨b, 0, none⟩ v0).setCell ⟨b, 1, none⟩ v1).setCell ⟨b, 2, none⟩ v2).setCell ⟨b, 3, none⟩ v3
theorem Own.set {w W : World} {xs ys : List (Nat × Rat)} {b : Nat} {q0 q : Rat} {A1 : Option Addr} {c1 : Nat} {l1 : List Nat} {m1 : Bool} {A2 : Option Addr} {c2 : Nat} {l2 : List Nat} {m2 : Bool} (h : Own w (xs ++ (b, q0) :: ys) W) (hv : QV W A1 c1 l1 m1 A2 c2 l2 m2 q) :
  Own w (xs ++ (b, q) :: ys) (bai W b (.slice A1 l1.length c1) (.bool m1) (.slice A2 l2.length c2) (.bool m2)) := by
 obtain ⟨hge, hb⟩ := h.box b q0 (List.mem_append_right _ List.mem_cons_self)
 obtain ⟨A, c, l, m, A', c', l', m', h1, h2⟩ := hb
 have hg := qg W b (.slice A1 l1.length c1) (.bool m1) (.slice A2 l2.length c2) (.bool m2)
 have hnd := h.nd
 rw [List.map_append, List.map_cons] at hnd
 have hn : ∀ b' q', (b', q') ∈ xs ++ ys → b' ≠ b := fun b' q' hm e => by
  subst e
  obtain ⟨_, h4, h5⟩ := List.nodup_append.1 hnd
  rcases List.mem_append.1 hm with hm | hm
  ·
   exact h5 b' (List.mem_map.2 ⟨_, hm, rfl⟩) b' List.mem_cons_self rfl
  ·
   exact (List.nodup_cons.1 h4).1 (List.mem_map.2 ⟨_, hm, rfl⟩)
 refine ⟨h.bel.grown hg h.bel.size (fun k hk => by injection hk with hk; omega), by rw [List.map_append, List.map_cons]; exact hnd, fun b' q' hm => ?_⟩
 rcases List.mem_append.1 hm with hm | hm
 rotate_left
 rcases List.mem_cons.1 hm with e | hm
 ·
  cases e
  exact ⟨hge, ⟨_, _, _, _, _, _, _, _, ali h1, hv.upto h1 (Bt _ _ _ _ _ _ _ _) hg⟩⟩
 all_goals
  have hne := hn b' q' (by first | exact List.mem_append_right _ hm | exact List.mem_append_left _ hm)
  obtain ⟨hge', B, d, r, p, B', d', r', p', g1, g2⟩ := h.box b' q' (by first | exact List.mem_append_right _ (List.mem_cons_of_mem _ hm) | exact List.mem_append_left _ hm)
  exact ⟨hge', B, d, r, p, B', d', r', p', (hg.block b' (lt_of_block g1) (fun e => hne (by first | exact Option.some.inj e | exact (Option.some.inj e).symm))).trans g1, g2.upto h1 (Bt _ _ _ _ _ _ _ _) hg⟩
theorem Own.Xb {w W V : World} {bs : List (Nat × Rat)} {b b' : Nat} {q q' : Rat} (h : Own w bs V) (Wu : ik V W) (hb : V.heap.size ≤ b) (hq : Gn W b q) (hb' : V.heap.size ≤ b') (hq' : Gn W b' q') (hne : b' ≠ b) : Own w ((b', q') :: (b, q) :: bs) W := by
 have h1 := Own.add h Wu hb hq
 have h2 := Own.add h Wu hb' hq'
 refine ⟨h1.bel, List.nodup_cons.2 ⟨fun hm => ?_, h1.nd⟩, fun c p hm => ?_⟩
 ·
  rw [List.map_cons] at hm
  rcases List.mem_cons.1 hm with e | hm
  ·
   exact hne e
  ·
   exact (List.nodup_cons.1 h2.nd).1 hm
 ·
  rcases List.mem_cons.1 hm with e | hm
  ·
   cases e; exact h2.box _ _ List.mem_cons_self
  ·
   exact h1.box _ _ hm
def ay (w : World) (bs : List (Nat × Rat)) (V : World) : World → Prop := fun W => Own w bs W ∧ ik V W
theorem ay.step {w V : World} {bs : List (Nat × Rat)} : ∀ W W', ay w bs V W → ik W W' → ay w bs V W' := fun W W' h hb => ⟨Own.step W W' h.1 hb, bz h.2 hb⟩
theorem ay.size {w V : World} {bs : List (Nat × Rat)} : ∀ W, ay w bs V W → V.heap.size ≤ W.heap.size := fun _ h => h.2.size
theorem ay.start {w V : World} {bs : List (Nat × Rat)} (h : Own w bs V) : ay w bs V V.drew := ⟨Own.step _ _ h (ik.drew V), ik.drew V⟩
theorem ay.begin {w V : World} {bs : List (Nat × Rat)} (h : Own w bs V) : ay w bs V V := ⟨h, Below.refl _ _⟩
theorem ay.box {w V W : World} {bs : List (Nat × Rat)} {b : Nat} {q : Rat} (hm : (b, q) ∈ bs) (h : ay w bs V W) : Gn W b q := (h.1.box b q hm).2
theorem Iy {w w' : World} {q : Rat} {e : Ending} (h : QR w q e w') : jh (Bu q) w e w' := by
 obtain ⟨A1, c1, l1, m1, A2, c2, l2, m2, rfl, h1, h2, hb⟩ := h
 exact ⟨_, rfl, hb, _, _, _, _, _, _, _, _, rfl, QV.of h1 h2⟩
def Dr (z : Int) : World → Value → Prop := fun W v => ∃ A c l m, v = .agg #[.slice A (List.length l) c, .bool m] ∧ je W A c l m z
theorem Jq (z : Int) : Rg.Ez ik (Dr z) := by
 rintro w w' v hb ⟨A, c, l, m, rfl, h⟩
 exact ⟨_, _, _, _, rfl, h.below hb⟩
theorem aom {ρ : Operand → Value} {w : World} {d : Option Tmp} {x : Operand} {b : Nat} {ty : TypeId} {pos : String} {af : Array Edge} {gd : Option (Nat × Bool)} (h : ρ x = .pointer (some ⟨b, 0, none⟩)) :
  (execOp ρ { dst := d, op := .fieldAddr 63 x 0, type := ty, pos := pos, after := af, guard := gd }).run Tryz.prog w = .ok (.value (.pointer (some ⟨b, 0, none⟩))) w := by
 simp only [execOp, h]
 simp [go_sem]
theorem ajq {Q : Exit → Act → World → Prop} {l : List Oper} {n : Nat} {T : Nat → World → Value → Prop} {G : World → Prop} {al : List Nat} {a0 : Act} {k d b : Nat} {x : Operand} {ty : TypeId} {pos : String} {af : Array Edge} {gd : Option (Nat × Bool)}
  (hal : al.contains k = false) (hx : Rg.mo l n T a0 k x (Rg.bf (.pointer (some ⟨b, 0, none⟩)))) (hT : T k = Rg.bf (.pointer (some ⟨b, 0, none⟩))) :
  Rg.Step Tryz.prog Q l n T G ik al a0 k { dst := some d, op := .fieldAddr 63 x 0, type := ty, pos := pos, after := af, guard := gd } := by
 intro a w hG hO hN
 exact qm (P := Tryz.prog) (aom (hx a w hO hN)) ⟨_, rfl, hG, Below.refl _ _, by rw [hT]; rfl, fun h => by rw [hal] at h; cases h⟩
theorem aok {ρ : Operand → Value} {w : World} {d : Option Tmp} {x : Operand} {b : Nat} {u0 u1 : Value} {ty : TypeId} {pos : String} {af : Array Edge} {gd : Option (Nat × Bool)} (h : ρ x = .pointer (some ⟨b, 0, none⟩)) (k0 : w.cell? ⟨b, 0, none⟩ = some u0) (k1 : w.cell? ⟨b, 1, none⟩ = some u1) :
  (execOp ρ { dst := d, op := .load 61 x, type := ty, pos := pos, after := af, guard := gd }).run Tryz.prog w = .ok (.value (.agg #[u0, u1])) w := by
 simp only [execOp, h]
 simp [go_sem, k0, k1]
theorem ajp {Q : Exit → Act → World → Prop} {l : List Oper} {n : Nat} {T : Nat → World → Value → Prop} {G : World → Prop} {al : List Nat} {a0 : Act} {k d b : Nat} {x : Operand} {q : Rat} {ty : TypeId} {pos : String} {af : Array Edge} {gd : Option (Nat × Bool)}
  (hal : al.contains k = false) (hx : Rg.mo l n T a0 k x (Rg.bf (.pointer (some ⟨b, 0, none⟩)))) (hb : ∀ W, G W → Gn W b q) (hT : T k = Dr q.num) :
  Rg.Step Tryz.prog Q l n T G ik al a0 k { dst := some d, op := .load 61 x, type := ty, pos := pos, after := af, guard := gd } := by
 intro a w hG hO hN
 obtain ⟨A1, c1, l1, m1, A2, c2, l2, m2, hk, hq⟩ := hb w hG
 exact qm (P := Tryz.prog) (aok (hx a w hO hN) (ah hk 0) (ah hk 1)) ⟨_, rfl, hG, Below.refl _ _, by rw [hT]; exact ⟨A1, c1, l1, m1, rfl, hq.num⟩, fun h => by rw [hal] at h; cases h⟩
theorem aln {ρ : Operand → Value} {w : World} {d : Option Tmp} {x y : Operand} {u0 u1 u2 u3 : Value} {ty : TypeId} {pos : String} {af : Array Edge} {gd : Option (Nat × Bool)} (h : ρ x = .agg #[u0, u1]) (h' : ρ y = .agg #[u2, u3]) :
  (execOp ρ { dst := d, op := .build 63 #[(0, x), (1, y)], type := ty, pos := pos, after := af, guard := gd }).run Tryz.prog w = .ok (.value (.agg #[u0, u1, u2, u3])) w := by
 simp [execOp, h, h', go_sem]
theorem asx {Q : Exit → Act → World → Prop} {l : List Oper} {n : Nat} {T : Nat → World → Value → Prop} {G : World → Prop} {al : List Nat} {a0 : Act} {k d : Nat} {x y : Operand} {a b : Int} {q : Rat} {ty : TypeId} {pos : String} {af : Array Edge} {gd : Option (Nat × Bool)}
  (hal : al.contains k = false) (hx : Rg.mo l n T a0 k x (Dr a)) (hy : Rg.mo l n T a0 k y (Dr b)) (ha : a = q.num) (hb : b = (q.den : Int)) (hT : T k = Bu q) :
  Rg.Step Tryz.prog Q l n T G ik al a0 k { dst := some d, op := .build 63 #[(0, x), (1, y)], type := ty, pos := pos, after := af, guard := gd } := by
 intro s w hG hO hN
 obtain ⟨A1, c1, l1, m1, e1, h1⟩ := hx s w hO hN
 obtain ⟨A2, c2, l2, m2, e2, h2⟩ := hy s w hO hN
 subst ha; subst hb
 exact qm (P := Tryz.prog) (aln e1 e2) ⟨_, rfl, hG, Below.refl _ _, by rw [hT]; exact ⟨A1, c1, l1, m1, A2, c2, l2, m2, rfl, QV.of h1 h2⟩, fun h => by rw [hal] at h; cases h⟩
theorem Vk {w w' : World} {z : Int} {e : Ending} (h : Bl w z e w') : jh (Dr z) w e w' := by
 obtain ⟨A, c, l, m, rfl, h1, hb⟩ := h
 exact ⟨_, rfl, hb, _, _, _, _, rfl, h1⟩
def beg (w : World) (bs : List (Nat × Rat)) (r s : Nat) : World → Prop := fun W => ∃ p q, Own w ((r, p) :: (s, q) :: bs) W
theorem beg.box {w W : World} {bs : List (Nat × Rat)} {r s b : Nat} {x : Rat} (hm : (b, x) ∈ bs) (h : beg w bs r s W) : Gn W b x := by
 obtain ⟨p, q, h⟩ := h
 exact (h.box b x (List.mem_cons_of_mem _ (List.mem_cons_of_mem _ hm))).2
end Go.Proofs.YtjdnmdlnaoedoaaGreatDoor
namespace Go.Proofs.YtjdnmdlnaoedoaaGreatDoor
open Go.RowKit

namespace Sb
def wK (n : Int) : Kind where
 size := 2
 ok := fun W c => ∃ A cap l m, c = [.slice A (List.length l) cap, .bool m] ∧ je W A cap l m n
 noW := by
  rintro W c ⟨A, cap, l, m, rfl, h⟩ u hu
  simp only [List.mem_cons, List.not_mem_nil, or_false] at hu
  rcases hu with rfl | rfl
  ·
   exact Vv _ _ _
  ·
   exact Vw _
 below := fun hb ⟨A, cap, l, m, e, h⟩ => ⟨A, cap, l, m, e, h.below hb⟩
 upto := fun hg hn hgr ⟨A, cap, l, m, e, h⟩ => ⟨A, cap, l, m, e, h.upto hg hn.bdt hgr⟩
 len := by rintro W c ⟨A, cap, l, m, rfl, h⟩; rfl
theorem ek.w {W : World} {n : Int} {A1 : Option Addr} {c1 : Nat} {l1 : List Nat} {m1 : Bool} {ls : List Leaf} {cs : List Value} (h1 : je W A1 c1 l1 m1 n) (h : ek W ls cs) : ek W (.k (wK n) :: ls) (.slice A1 l1.length c1 :: .bool m1 :: cs) := ⟨[_, _], cs, rfl, ⟨_, _, _, _, rfl, h1⟩, h⟩
theorem ek.ala {W : World} {n : Int} {ls : List Leaf} {cs : List Value} (h : ek W (.k (wK n) :: ls) cs) : ∃ A1 c1 l1 m1 r, cs = .slice A1 (List.length l1) c1 :: .bool m1 :: r ∧ je W A1 c1 l1 m1 n ∧ ek W ls r := by
 obtain ⟨c, r, rfl, ⟨A1, c1, l1, m1, rfl, h1⟩, h⟩ := h
 exact ⟨A1, c1, l1, m1, r, rfl, h1, h⟩
theorem Yi {W : World} {n : Int} {v : Value} (h : ai [.k (wK n)] W v) : ∃ A1 c1 l1 m1, v = .agg #[.slice A1 (List.length l1) c1, .bool m1] ∧ je W A1 c1 l1 m1 n := by
 obtain ⟨cs, rfl, h⟩ := h
 obtain ⟨A1, c1, l1, m1, r, rfl, h1, h⟩ := h.ala
 cases h
 exact ⟨_, _, _, _, rfl, h1⟩
theorem Eu {W : World} {n d : Int} {v : Value} (h : ai [.k (wK n), .k (wK d)] W v) : ∃ A1 c1 l1 m1 A2 c2 l2 m2, v = .agg #[.slice A1 (List.length l1) c1, .bool m1, .slice A2 (List.length l2) c2, .bool m2] ∧ je W A1 c1 l1 m1 n ∧ je W A2 c2 l2 m2 d := by
 obtain ⟨cs, rfl, h⟩ := h
 obtain ⟨A1, c1, l1, m1, r, rfl, h1, h⟩ := h.ala
 obtain ⟨A2, c2, l2, m2, r, rfl, h2, h⟩ := h.ala
 cases h
 exact ⟨_, _, _, _, _, _, _, _, rfl, h1, h2⟩
def C1 (w : World) (F : Nat) (ls ks : List Leaf) : Prop := ∀ W v0, Below w.heap.size w W → ai ls W v0 → Calls Tryz.prog F #[v0] W (jh (ai ks) W)
def C2 (w : World) (F : Nat) (ls ms ks : List Leaf) : Prop := ∀ W v0 v1, Below w.heap.size w W → ai ls W v0 → ai ms W v1 → Calls Tryz.prog F #[v0, v1] W (jh (ai ks) W)
def CB (w : World) (F : Nat) (ls : List Leaf) (b : Bool) : Prop := ∀ W v0, Below w.heap.size w W → ai ls W v0 → Calls Tryz.prog F #[v0] W (jh (Rg.bf (.bool b)) W)
theorem akz {w w' : World} {z : Int} {e : Ending} (h : Bl w z e w') : jh (ai [.k (wK z)]) w e w' := by
 obtain ⟨A, cap, l, m, rfl, h1, hb⟩ := h
 exact ⟨_, rfl, hb, _, rfl, ek.w h1 rfl⟩
theorem afl {w w' : World} {q : Rat} {e : Ending} (h : QR w q e w') : jh (ai [.k (wK q.num), .k (wK (q.den : Int))]) w e w' := by
 obtain ⟨A1, c1, l1, m1, A2, c2, l2, m2, rfl, h1, h2, hb⟩ := h
 exact ⟨_, rfl, hb, _, rfl, ek.w h1 (ek.w h2 rfl)⟩
theorem Vs {w w' : World} {q : Rat} {e : Ending} (h : jh (ai [.k (wK q.num), .k (wK (q.den : Int))]) w e w') : QR w q e w' := by
 obtain ⟨u, rfl, hb, h⟩ := h
 obtain ⟨A1, c1, l1, m1, A2, c2, l2, m2, rfl, f1, f2⟩ := Eu h
 exact ⟨_, _, _, _, _, _, _, _, rfl, f1, f2, hb⟩
theorem Nz {w : World} {F : Nat} {a b c : Int} (h : avw w F a b c) : C2 w F [.k (wK a)] [.k (wK b)] [.k (wK c)] := fun W v0 v1 hb h0 h1 => by
 obtain ⟨A1, c1, l1, m1, rfl, f1⟩ := Yi h0
 obtain ⟨A2, c2, l2, m2, rfl, f2⟩ := Yi h1
 exact (h _ _ _ _ _ _ _ _ W hb f1 f2).mono fun e w' h => akz h
theorem cwq {w : World} {F : Nat} {a b : Int} {q : Rat} (h : beh w F a b q) : C2 w F [.k (wK a)] [.k (wK b)] [.k (wK q.num), .k (wK (q.den : Int))] := fun W v0 v1 hb h0 h1 => by
 obtain ⟨A1, c1, l1, m1, rfl, f1⟩ := Yi h0
 obtain ⟨A2, c2, l2, m2, rfl, f2⟩ := Yi h1
 exact (h _ _ _ _ _ _ _ _ W hb f1 f2).mono fun e w' h => afl h
theorem Og {W : World} {A1 : Option Addr} {c1 : Nat} {l1 : List Nat} {m1 : Bool} {A2 : Option Addr} {c2 : Nat} {l2 : List Nat} {m2 : Bool} {x : Rat} (h : QV W A1 c1 l1 m1 A2 c2 l2 m2 x) : ∃ d : Int, (d = (x.den : Int) ∨ (d = 0 ∧ x.den = 1)) ∧ ai [.k (wK x.num), .k (wK d)] W (.agg #[.slice A1 l1.length c1, .bool m1, .slice A2 l2.length c2, .bool m2]) := by
 obtain ⟨d, h2, h3⟩ := h.den
 exact ⟨d, h3, _, rfl, ek.w h.num (ek.w h2 rfl)⟩
theorem Rf (w : World) {x : Rat} {d : Int} (h : d = (x.den : Int) ∨ (d = 0 ∧ x.den = 1)) : C1 w 117 [.k (wK x.num), .k (wK d)] [.k (wK (x.den : Int))] := fun W v0 hb h0 => by
 obtain ⟨A1, c1, l1, m1, A2, c2, l2, m2, rfl, f1, f2⟩ := Eu h0
 exact (Qu A1 c1 l1 m1 A2 c2 l2 m2 x W ⟨f1, d, f2, h⟩).mono fun e w' h => akz h
theorem Yg (w : World) {b : Int} {o : Bool} (h : o = decide (b = 1)) : CB w 118 [.k (wK b)] o := fun W v0 hb h0 => by
 obtain ⟨A1, c1, l1, m1, rfl, f1⟩ := Yi h0
 rw [h]
 exact (aau A1 c1 l1 m1 b W f1).mono fun e w' h => Wx h
theorem bdl (w : World) (b : Int) : C1 w 156 [.k (wK b)] [.k (wK (-b))] := fun W v0 hb h0 => by
 obtain ⟨A1, c1, l1, m1, rfl, f1⟩ := Yi h0
 exact (Zm A1 c1 l1 m1 b W f1).mono fun e w' h => akz h
theorem sw : Jd Tryz.prog 61 2 := by
 intro ρ w d x b off us ty pos af gd hl hc hx
 match us, hl with
 | [u0, u1], _ =>
 have k0 : w.cell? ⟨b, off, none⟩ = some u0 := hc 0 om
 have k1 : w.cell? ⟨b, off + 1, none⟩ = some u1 := hc 1 om
 clear hc
 simp only [execOp, hx]
 simp [go_sem, k0, k1]
theorem Xn : Db Tryz.prog 61 2 := by
 intro ρ w d p x b off cs TB us ty pos af gd hl hu hb ho hp hx
 match us, hl with
 | [u0, u1], _ =>
 have o0 := hu u0 (by simp)
 have o1 := hu u1 (by simp)
 have f0 : w.frozen? ⟨b, off, none⟩ = false := az hb _
 have f1 : w.frozen? ⟨b, off + 1, none⟩ = false := az hb _
 obtain ⟨c0, k0⟩ : ∃ c, w.cell? ⟨b, off, none⟩ = some c := ny hb om
 obtain ⟨c1, k1⟩ : ∃ c, w.cell? ⟨b, off + 1, none⟩ = some c := ny hb om
 have hlt := lt_of_block hb
 clear hb ho hu
 simp only [execOp, hp, hx, setM]
 simp [go_sem, hlt, run_store _ _ _ _ _ o0, o0, run_store _ _ _ _ _ o1, o1, k0, k1, f0, f1]
theorem afe : Le Tryz.prog 61 [.slice none 0 0, .bool false] := by
 intro ρ w d ty pos af gd
 simp only [execOp]
 simp [go_sem]
theorem mq : Jd Tryz.prog 63 4 := by
 intro ρ w d x b off us ty pos af gd hl hc hx
 match us, hl with
 | [u0, u1, u2, u3], _ =>
 have k0 : w.cell? ⟨b, off, none⟩ = some u0 := hc 0 om
 have k1 : w.cell? ⟨b, off + 1, none⟩ = some u1 := hc 1 om
 have k2 : w.cell? ⟨b, off + 2, none⟩ = some u2 := hc 2 om
 have k3 : w.cell? ⟨b, off + 3, none⟩ = some u3 := hc 3 om
 clear hc
 simp only [execOp, hx]
 simp [go_sem, k0, k1, k2, k3]
theorem Dw : Db Tryz.prog 63 4 := by
 intro ρ w d p x b off cs TB us ty pos af gd hl hu hb ho hp hx
 match us, hl with
 | [u0, u1, u2, u3], _ =>
 have o0 := hu u0 (by simp)
 have o1 := hu u1 (by simp)
 have o2 := hu u2 (by simp)
 have o3 := hu u3 (by simp)
 have f0 : w.frozen? ⟨b, off, none⟩ = false := az hb _
 have f1 : w.frozen? ⟨b, off + 1, none⟩ = false := az hb _
 have f2 : w.frozen? ⟨b, off + 2, none⟩ = false := az hb _
 have f3 : w.frozen? ⟨b, off + 3, none⟩ = false := az hb _
 obtain ⟨c0, k0⟩ : ∃ c, w.cell? ⟨b, off, none⟩ = some c := ny hb om
 obtain ⟨c1, k1⟩ : ∃ c, w.cell? ⟨b, off + 1, none⟩ = some c := ny hb om
 obtain ⟨c2, k2⟩ : ∃ c, w.cell? ⟨b, off + 2, none⟩ = some c := ny hb om
 obtain ⟨c3, k3⟩ : ∃ c, w.cell? ⟨b, off + 3, none⟩ = some c := ny hb om
 have hlt := lt_of_block hb
 clear hb ho hu
 simp only [execOp, hp, hx, setM]
 simp [go_sem, hlt, run_store _ _ _ _ _ o0, o0, run_store _ _ _ _ _ o1, o1, run_store _ _ _ _ _ o2, o2, run_store _ _ _ _ _ o3, o3, k0, k1, k2, k3, f0, f1, f2, f3]
theorem bfm : Le Tryz.prog 63 [.slice none 0 0, .bool false, .slice none 0 0, .bool false] := by
 intro ρ w d ty pos af gd
 simp only [execOp]
 simp [go_sem]
theorem Ii : Lg Tryz.prog 63 4 := by
 intro w b off us hl hc
 match us, hl with
 | [u0, u1, u2, u3], _ =>
 have k0 : w.cell? ⟨b, off, none⟩ = some u0 := hc 0 om
 have k1 : w.cell? ⟨b, off + 1, none⟩ = some u1 := hc 1 om
 have k2 : w.cell? ⟨b, off + 2, none⟩ = some u2 := hc 2 om
 have k3 : w.cell? ⟨b, off + 3, none⟩ = some u3 := hc 3 om
 clear hc
 simp [go_sem, k0, k1, k2, k3]
theorem adg : Tk Tryz.prog 63 2 2 := by
 intro ρ w d x y us vs ty pos af gd h1 h2 e1 e2
 match us, h1, vs, h2 with
 | [u0, u1], _, [v0, v1], _ =>
 simp only [execOp]
 simp [go_sem, e1, e2]
 try rfl
theorem azn : Jf Tryz.prog (fun x => .fieldAddr 63 x 0) 0 := by
 intro a w d x b off ty pos af gd hx
 have hc : ∀ v, a.eval (.const v) = v := fun _ => rfl
 simp only [execOp, hx, hc]
 simp [go_sem]
theorem Ai {Q : Exit → Act → World → Prop} {l : List Oper} {n : Nat} {T : Nat → World → Value → Prop} {G : World → Prop} {al : List Nat} {a0 : Act} {k d : Nat} {ty : TypeId} {pos : String} {af : Array Edge} {gd : Option (Nat × Bool)} {b off off' : Nat} {x : Operand} (hal : al.contains k = false) (hx : Rg.mo l n T a0 k x (Rg.bf (.pointer (some ⟨b, off, none⟩)))) (ho : off + 0 = off') (hT : T k = Rg.bf (.pointer (some ⟨b, off', none⟩))) :
  Rg.Step Tryz.prog Q l n T G ik al a0 k { dst := some d, op := .fieldAddr 63 x 0, type := ty, pos := pos, after := af, guard := gd } := by
 exact Kv (P := Tryz.prog) (o := fun x => .fieldAddr 63 x 0) azn hal hx ho hT
end Sb

end Go.Proofs.YtjdnmdlnaoedoaaGreatDoor
namespace Go.Proofs.YtjdnmdlnaoedoaaGreatDoor
open Go.RowKit

namespace Sb
set_option maxHeartbeats 16000000 in
theorem apc {xn xe xd c : Int} (w : World) (u0 : Value) (h0 : ai [.k (wK xn), .k (wK xe)] w u0)
  (hd1 : C1 w 117 [.k (wK xn), .k (wK xe)] [.k (wK xd)])
  (hn : C1 w 156 [.k (wK xn)] [.k (wK c)]) :
  Calls Tryz.prog 121 #[u0] w (jh (ai [.k (wK c), .k (wK xd)]) w) := by
 have HD1 := hide hd1
 have HN := hide hn
 clear hd1 hn
 obtain ⟨ry, c0a, rq, Ct, uh, c0b, ug, Cs, rfl, f0a, zq⟩ := Eu h0
 go_enter Tryz.func121, Tryz.ntmps121
 go_upto_region 1 with fail
 have hO := (Own.push (T := 63) (ls := zX) (cs := [.slice none 0 0, .bool false, .slice none 0 0, .bool false]) (Own.push (T := 63) (ls := [.k (wK xn), .k (wK xe)]) (cs := [.slice ry (List.length rq) c0a, .bool Ct, .slice uh (List.length ug) c0b, .bool Cs]) (Own.nil w) (ek.w f0a (ek.w zq rfl)) (w.heap.size) rfl) (((ek.vs w [.slice none 0 0, .bool false, .slice none 0 0, .bool false] rfl) : ek w zX [.slice none 0 0, .bool false, .slice none 0 0, .bool false]).below (by repeat (first | exact Below.refl _ _ | refine ja ?_ _))) (w.heap.size + 1) (by simp only [World.size_alloc]))
 generalize (w.alloc (.cells #[.slice ry (List.length rq) c0a, .bool Ct, .slice uh (List.length ug) c0b, .bool Cs] 63)).alloc (.cells #[.slice none 0 0, .bool false, .slice none 0 0, .bool false] 63) = W0 at *
 have HO := hide hO
 clear hO
 go_upto_region 1 with fail
 refine Rg.region 6 9 (Rg.pick [Rg.bf (.pointer (some ⟨w.heap.size, 0, none⟩)), ai [.k (wK xn)], ai [.k (wK c)], ai [.k (wK xn), .k (wK xe)], ai [.k (wK xd)], ai [.k (wK c), .k (wK xd)]]) (ay w [(w.heap.size + 1, 63, zX), (w.heap.size, 63, [.k (wK xn), .k (wK xe)])] W0) ik [] kr kr rfl (Rg.gm.pick ⟨Rg.ag _, au _, au _, au _, au _, au _, trivial⟩) (ay.start (aa HO))
  (ae (Ai (b := w.heap.size) (off := 0) rfl (Rg.cz kr rfl) rfl rfl)
  (ae (fo sw nu (Rg.ax 0 kr) [] [.k (wK xn)] [.k (wK xe)])
  (ae (jf Tryz.func156 kr rfl ay.step (Rg.ax 1 kr) (fun W v0 hG h0 => aa HN W v0 hG.bel h0))
  (ae (fo mq nu (Rg.cz kr rfl) [] [.k (wK xn), .k (wK xe)] [])
  (ae (jf Tryz.func117 kr rfl ay.step (Rg.ax 3 kr) (fun W v0 hG h0 => aa HD1 W v0 hG.bel h0))
  (ae (yf adg rfl (Rg.ax 2 kr) (Rg.ax 4 kr) rfl rfl rfl)
  Rg.cu)))))) ?_
 intro v1 V1 hG1 hv1 hne1
 simp only [Rg.puts, jr, jq, jo, jm, Act.put, jl, jk, ji]
 have hO := hG1.1
 refine ky hO 0 [] zX [.k (wK c), .k (wK xd)] [] rfl Dw rfl (show ai [.k (wK c), .k (wK xd)] V1 (v1 5) from hv1 5 (by decide)) rfl rfl rfl ?_
 intro uy iy hk0
 replace hO := iy
 clear iy
 clear HO
 have HO := hide hO
 clear hO hG1 hv1 hne1 hk0
 go_wp2_with fail
 exact zh Tryz.results121 Ii rfl (aa HO) me0 rfl rfl
set_option maxHeartbeats 16000000 in
theorem apb {xn xe yn ye zn ze a b : Int} (w : World) (u0 : Value) (h0 : ai [.k (wK xn), .k (wK xe)] w u0) (u1 : Value) (h1 : ai [.k (wK yn), .k (wK ye)] w u1)
  (hn : C1 w 121 [.k (wK yn), .k (wK ye)] [.k (wK zn), .k (wK ze)])
  (ha : C2 w 50 [.k (wK xn), .k (wK xe)] [.k (wK zn), .k (wK ze)] [.k (wK a), .k (wK b)]) :
  Calls Tryz.prog 51 #[u0, u1] w (jh (ai [.k (wK a), .k (wK b)]) w) := by
 have HN := hide hn
 have HA := hide ha
 clear hn ha
 obtain ⟨ry, c0a, rq, Ct, uh, c0b, ug, Cs, rfl, f0a, zq⟩ := Eu h0
 obtain ⟨qf, c1a, qd, Bg, qz, qy, qw, Bv, rfl, f1a, Di⟩ := Eu h1
 go_enter Tryz.func51, Tryz.ntmps51
 go_upto_region 1 with fail
 have hO := (Own.push (T := 63) (ls := zX) (cs := [.slice none 0 0, .bool false, .slice none 0 0, .bool false]) (Own.push (T := 63) (ls := [.k (wK yn), .k (wK ye)]) (cs := [.slice qf (List.length qd) c1a, .bool Bg, .slice qz (List.length qw) qy, .bool Bv]) (Own.push (T := 63) (ls := [.k (wK xn), .k (wK xe)]) (cs := [.slice ry (List.length rq) c0a, .bool Ct, .slice uh (List.length ug) c0b, .bool Cs]) (Own.nil w) (ek.w f0a (ek.w zq rfl)) (w.heap.size) rfl) (((ek.w f1a (ek.w Di rfl)) : ek w [.k (wK yn), .k (wK ye)] [.slice qf (List.length qd) c1a, .bool Bg, .slice qz (List.length qw) qy, .bool Bv]).below (by repeat (first | exact Below.refl _ _ | refine ja ?_ _))) (w.heap.size + 1) (by simp only [World.size_alloc])) (((ek.vs w [.slice none 0 0, .bool false, .slice none 0 0, .bool false] rfl) : ek w zX [.slice none 0 0, .bool false, .slice none 0 0, .bool false]).below (by repeat (first | exact Below.refl _ _ | refine ja ?_ _))) (w.heap.size + 2) (by simp only [World.size_alloc]))
 generalize ((w.alloc (.cells #[.slice ry (List.length rq) c0a, .bool Ct, .slice uh (List.length ug) c0b, .bool Cs] 63)).alloc (.cells #[.slice qf (List.length qd) c1a, .bool Bg, .slice qz (List.length qw) qy, .bool Bv] 63)).alloc (.cells #[.slice none 0 0, .bool false, .slice none 0 0, .bool false] 63) = W0 at *
 have HO := hide hO
 clear hO
 go_upto_region 1 with fail
 refine Rg.region 4 9 (Rg.pick [ai [.k (wK xn), .k (wK xe)], ai [.k (wK yn), .k (wK ye)], ai [.k (wK zn), .k (wK ze)], ai [.k (wK a), .k (wK b)]]) (ay w [(w.heap.size + 2, 63, zX), (w.heap.size + 1, 63, [.k (wK yn), .k (wK ye)]), (w.heap.size, 63, [.k (wK xn), .k (wK xe)])] W0) ik [] kr kr rfl (Rg.gm.pick ⟨au _, au _, au _, au _, trivial⟩) (ay.start (aa HO))
  (ae (fo mq qo (Rg.cz kr rfl) [] [.k (wK xn), .k (wK xe)] [])
  (ae (fo mq nu (Rg.cz kr rfl) [] [.k (wK yn), .k (wK ye)] [])
  (ae (jf Tryz.func121 kr rfl ay.step (Rg.ax 1 kr) (fun W v0 hG h0 => aa HN W v0 hG.bel h0))
  (ae (iw Tryz.func50 kr rfl ay.step (Rg.ax 0 kr) (Rg.ax 2 kr) (fun W v0 v1 hG h0 h1 => aa HA W v0 v1 hG.bel h0 h1))
  Rg.cu)))) ?_
 intro v1 V1 hG1 hv1 hne1
 simp only [Rg.puts, jr, jq, jo, jm, Act.put, jl, jk, ji]
 have hO := hG1.1
 refine ky hO 0 [] zX [.k (wK a), .k (wK b)] [] rfl Dw rfl (show ai [.k (wK a), .k (wK b)] V1 (v1 3) from hv1 3 (by decide)) rfl rfl rfl ?_
 intro uy iy hk0
 replace hO := iy
 clear iy
 clear HO
 have HO := hide hO
 clear hO hG1 hv1 hne1 hk0
 go_wp2_with fail
 exact zh Tryz.results51 Ii rfl (aa HO) me0 rfl rfl
set_option maxHeartbeats 16000000 in
theorem apf {xn xe yn ye xd yd m1 m2 a b : Int} (w : World) (u0 : Value) (h0 : ai [.k (wK xn), .k (wK xe)] w u0) (u1 : Value) (h1 : ai [.k (wK yn), .k (wK ye)] w u1)
  (hd1 : C1 w 117 [.k (wK xn), .k (wK xe)] [.k (wK xd)])
  (hd2 : C1 w 117 [.k (wK yn), .k (wK ye)] [.k (wK yd)])
  (hm1 : C2 w 120 [.k (wK xn)] [.k (wK yd)] [.k (wK m1)])
  (hm2 : C2 w 120 [.k (wK xd)] [.k (wK yn)] [.k (wK m2)])
  (hr : C2 w 115 [.k (wK m1)] [.k (wK m2)] [.k (wK a), .k (wK b)]) :
  Calls Tryz.prog 54 #[u0, u1] w (jh (ai [.k (wK a), .k (wK b)]) w) := by
 have HD1 := hide hd1
 have HD2 := hide hd2
 have HM1 := hide hm1
 have HM2 := hide hm2
 have HR := hide hr
 clear hd1 hd2 hm1 hm2 hr
 obtain ⟨ry, c0a, rq, Ct, uh, c0b, ug, Cs, rfl, f0a, zq⟩ := Eu h0
 obtain ⟨qf, c1a, qd, Bg, qz, qy, qw, Bv, rfl, f1a, Di⟩ := Eu h1
 go_enter Tryz.func54, Tryz.ntmps54
 go_upto_region 1 with fail
 have hO := (Own.push (T := 63) (ls := zX) (cs := [.slice none 0 0, .bool false, .slice none 0 0, .bool false]) (Own.push (T := 63) (ls := [.k (wK yn), .k (wK ye)]) (cs := [.slice qf (List.length qd) c1a, .bool Bg, .slice qz (List.length qw) qy, .bool Bv]) (Own.push (T := 63) (ls := [.k (wK xn), .k (wK xe)]) (cs := [.slice ry (List.length rq) c0a, .bool Ct, .slice uh (List.length ug) c0b, .bool Cs]) (Own.nil w) (ek.w f0a (ek.w zq rfl)) (w.heap.size) rfl) (((ek.w f1a (ek.w Di rfl)) : ek w [.k (wK yn), .k (wK ye)] [.slice qf (List.length qd) c1a, .bool Bg, .slice qz (List.length qw) qy, .bool Bv]).below (by repeat (first | exact Below.refl _ _ | refine ja ?_ _))) (w.heap.size + 1) (by simp only [World.size_alloc])) (((ek.vs w [.slice none 0 0, .bool false, .slice none 0 0, .bool false] rfl) : ek w zX [.slice none 0 0, .bool false, .slice none 0 0, .bool false]).below (by repeat (first | exact Below.refl _ _ | refine ja ?_ _))) (w.heap.size + 2) (by simp only [World.size_alloc]))
 generalize ((w.alloc (.cells #[.slice ry (List.length rq) c0a, .bool Ct, .slice uh (List.length ug) c0b, .bool Cs] 63)).alloc (.cells #[.slice qf (List.length qd) c1a, .bool Bg, .slice qz (List.length qw) qy, .bool Bv] 63)).alloc (.cells #[.slice none 0 0, .bool false, .slice none 0 0, .bool false] 63) = W0 at *
 have HO := hide hO
 clear hO
 go_upto_region 1 with fail
 refine Rg.region 11 16 (Rg.pick [Rg.bf (.pointer (some ⟨w.heap.size, 0, none⟩)), ai [.k (wK xn)], ai [.k (wK yn), .k (wK ye)], ai [.k (wK yd)], ai [.k (wK m1)], ai [.k (wK xn), .k (wK xe)], ai [.k (wK xd)], Rg.bf (.pointer (some ⟨w.heap.size + 1, 0, none⟩)), ai [.k (wK yn)], ai [.k (wK m2)], ai [.k (wK a), .k (wK b)]]) (ay w [(w.heap.size + 2, 63, zX), (w.heap.size + 1, 63, [.k (wK yn), .k (wK ye)]), (w.heap.size, 63, [.k (wK xn), .k (wK xe)])] W0) ik [] kr kr rfl (Rg.gm.pick ⟨Rg.ag _, au _, au _, au _, au _, au _, au _, Rg.ag _, au _, au _, au _, trivial⟩) (ay.start (aa HO))
  (ae (Ai (b := w.heap.size) (off := 0) rfl (Rg.cz kr rfl) rfl rfl)
  (ae (fo sw qo (Rg.ax 0 kr) [] [.k (wK xn)] [.k (wK xe)])
  (ae (fo mq nu (Rg.cz kr rfl) [] [.k (wK yn), .k (wK ye)] [])
  (ae (jf Tryz.func117 kr rfl ay.step (Rg.ax 2 kr) (fun W v0 hG h0 => aa HD2 W v0 hG.bel h0))
  (ae (iw Tryz.func120 kr rfl ay.step (Rg.ax 1 kr) (Rg.ax 3 kr) (fun W v0 v1 hG h0 h1 => aa HM1 W v0 v1 hG.bel h0 h1))
  (ae (fo mq qo (Rg.cz kr rfl) [] [.k (wK xn), .k (wK xe)] [])
  (ae (jf Tryz.func117 kr rfl ay.step (Rg.ax 5 kr) (fun W v0 hG h0 => aa HD1 W v0 hG.bel h0))
  (ae (Ai (b := w.heap.size + 1) (off := 0) rfl (Rg.cz kr rfl) rfl rfl)
  (ae (fo sw nu (Rg.ax 7 kr) [] [.k (wK yn)] [.k (wK ye)])
  (ae (iw Tryz.func120 kr rfl ay.step (Rg.ax 6 kr) (Rg.ax 8 kr) (fun W v0 v1 hG h0 h1 => aa HM2 W v0 v1 hG.bel h0 h1))
  (ae (iw Tryz.func115 kr rfl ay.step (Rg.ax 4 kr) (Rg.ax 9 kr) (fun W v0 v1 hG h0 h1 => aa HR W v0 v1 hG.bel h0 h1))
  Rg.cu))))))))))) ?_
 intro v1 V1 hG1 hv1 hne1
 simp only [Rg.puts, jr, jq, jo, jm, Act.put, jl, jk, ji]
 have hO := hG1.1
 refine ky hO 0 [] zX [.k (wK a), .k (wK b)] [] rfl Dw rfl (show ai [.k (wK a), .k (wK b)] V1 (v1 10) from hv1 10 (by decide)) rfl rfl rfl ?_
 intro uy iy hk0
 replace hO := iy
 clear iy
 clear HO
 have HO := hide hO
 clear hO hG1 hv1 hne1 hk0
 go_wp2_with fail
 exact zh Tryz.results54 Ii rfl (aa HO) me0 rfl rfl
set_option maxHeartbeats 16000000 in
theorem apd {xn xe yn ye xd yd s m3 a b : Int} {o1 o2 : Bool} (w : World) (u0 : Value) (h0 : ai [.k (wK xn), .k (wK xe)] w u0) (u1 : Value) (h1 : ai [.k (wK yn), .k (wK ye)] w u1)
  (hd1 : C1 w 117 [.k (wK xn), .k (wK xe)] [.k (wK xd)])
  (hd2 : C1 w 117 [.k (wK yn), .k (wK ye)] [.k (wK yd)])
  (ho1 : CB w 118 [.k (wK xd)] o1)
  (ho2 : CB w 118 [.k (wK yd)] o2)
  (hc : (o1 = true ∧ o2 = true ∧ xd = b ∧ C2 w 120 [.k (wK xn)] [.k (wK yn)] [.k (wK a)]) ∨ ((o1 = false ∨ o1 = true ∧ o2 = false) ∧ C2 w 120 [.k (wK xn)] [.k (wK yn)] [.k (wK s)] ∧ C2 w 120 [.k (wK xd)] [.k (wK yd)] [.k (wK m3)] ∧ C2 w 115 [.k (wK s)] [.k (wK m3)] [.k (wK a), .k (wK b)])) :
  Calls Tryz.prog 52 #[u0, u1] w (jh (ai [.k (wK a), .k (wK b)]) w) := by
 have HD1 := hide hd1
 have HD2 := hide hd2
 have Xh := hide ho1
 have HO2 := hide ho2
 have HC := hide hc
 clear hd1 hd2 ho1 ho2 hc
 obtain ⟨ry, c0a, rq, Ct, uh, c0b, ug, Cs, rfl, f0a, zq⟩ := Eu h0
 obtain ⟨qf, c1a, qd, Bg, qz, qy, qw, Bv, rfl, f1a, Di⟩ := Eu h1
 go_enter Tryz.func52, Tryz.ntmps52
 go_upto_region 1 with fail
 have hO := (Own.push (T := 63) (ls := zX) (cs := [.slice none 0 0, .bool false, .slice none 0 0, .bool false]) (Own.push (T := 63) (ls := [.k (wK yn), .k (wK ye)]) (cs := [.slice qf (List.length qd) c1a, .bool Bg, .slice qz (List.length qw) qy, .bool Bv]) (Own.push (T := 63) (ls := [.k (wK xn), .k (wK xe)]) (cs := [.slice ry (List.length rq) c0a, .bool Ct, .slice uh (List.length ug) c0b, .bool Cs]) (Own.nil w) (ek.w f0a (ek.w zq rfl)) (w.heap.size) rfl) (((ek.w f1a (ek.w Di rfl)) : ek w [.k (wK yn), .k (wK ye)] [.slice qf (List.length qd) c1a, .bool Bg, .slice qz (List.length qw) qy, .bool Bv]).below (by repeat (first | exact Below.refl _ _ | refine ja ?_ _))) (w.heap.size + 1) (by simp only [World.size_alloc])) (((ek.vs w [.slice none 0 0, .bool false, .slice none 0 0, .bool false] rfl) : ek w zX [.slice none 0 0, .bool false, .slice none 0 0, .bool false]).below (by repeat (first | exact Below.refl _ _ | refine ja ?_ _))) (w.heap.size + 2) (by simp only [World.size_alloc]))
 generalize ((w.alloc (.cells #[.slice ry (List.length rq) c0a, .bool Ct, .slice uh (List.length ug) c0b, .bool Cs] 63)).alloc (.cells #[.slice qf (List.length qd) c1a, .bool Bg, .slice qz (List.length qw) qy, .bool Bv] 63)).alloc (.cells #[.slice none 0 0, .bool false, .slice none 0 0, .bool false] 63) = W0 at *
 have HO := hide hO
 clear hO
 go_upto_region 1 with fail
 go_upto_region 1 with fail
 refine Rg.Xq 8 33 (fun k => if k = 6 then 5 else 6) (Rg.pick [ai [.k (wK xn), .k (wK xe)], ai [.k (wK xd)], ai [.k (wK yn), .k (wK ye)], ai [.k (wK yd)], fun _ _ => True, fun _ _ => True, fun _ _ => True, fun _ _ => True]) (ay w [(w.heap.size + 2, 63, zX), (w.heap.size + 1, 63, [.k (wK yn), .k (wK ye)]), (w.heap.size, 63, [.k (wK xn), .k (wK xe)])] W0) (EX W0.heap.size 61) (J2 61 2 W0.heap.size 4 5 6 7 [.k (wK xd)] [.k (wK yd)]) kr kr kr rfl (Rg.gm.pick ⟨(xm _), (xm _), (xm _), (xm _), (zw), (zw), (zw), (zw), trivial⟩) (ay.start (aa HO)) (fun _ => J2.start) (fun _ _ _ _ h => J2.congr (n := 8) (by decide) h)
  (Rg.kz (Cq (fo mq qo (Rg.cz kr rfl) [] [.k (wK xn), .k (wK xe)] []))
   (Rg.kz (Cq (jf Tryz.func117 kr rfl ay.step (Rg.ax 0 kr) (fun W v0 hG h0 => aa HD1 W v0 hG.bel h0)))
   (Rg.kz (Cq (fo mq nu (Rg.cz kr rfl) [] [.k (wK yn), .k (wK ye)] []))
   (Rg.kz (Cq (jf Tryz.func117 kr rfl ay.step (Rg.ax 2 kr) (fun W v0 hG h0 => aa HD2 W v0 hG.bel h0)))
   (Rg.kz (Rs afe rfl rfl rfl)
   (Rg.kz (Tn afe rfl rfl rfl)
   (Rg.kz (Rq (aa HO) Xn kr (Rg.ax 1 kr) rfl rfl rfl)
   (Rg.kz (Tm (aa HO) Xn kr (Rg.ax 3 kr) rfl rfl rfl)
   Rg.Od)))))))) ?_
 intro v1 V1 hG1 hJ1 hv1 hne1
 simp only [Rg.puts, jr, jq, jo, jm, Act.put, jl, jk, ji]
 obtain ⟨_, _, hd1, hf1, hg1⟩ := hJ1
 obtain ⟨Gw, e4, hge4, Wj⟩ := (hf1 trivial).2
 obtain ⟨Dz, e5, Lc, Rb⟩ := (hg1 trivial).2
 simp only [e4, e5]
 have hO := Own.Xb (aa HO) hG1.2 hge4 Wj Lc Rb (fun h => hd1 trivial trivial (by rw [e4, e5, h]))
 clear hge4 Wj Lc Rb hd1 hf1 hg1
 clear HO
 have HO := hide hO
 clear hO hG1 hv1 hne1
 try clear e4 e5
 rcases aa HC with ⟨rfl, rfl, rfl, hp⟩ | ⟨ho, hp⟩
 ·
  have HOP := hide hp
  clear hp HC
  go_upto_region 2 with fail
  refine Rg.fw 6 33 (Rg.pick [ai [.k (wK xd)], Rg.bf (.bool true), Rg.bf (.bool true), ai [.k (wK yd)], Rg.bf (.bool true), Rg.bf (.bool true)]) (ay w [(Dz, 61, [.k (wK yd)]), (Gw, 61, [.k (wK xd)]), (w.heap.size + 2, 63, zX), (w.heap.size + 1, 63, [.k (wK yn), .k (wK ye)]), (w.heap.size, 63, [.k (wK xn), .k (wK xe)])] V1) ik [] kr rfl (Rg.gm.pick ⟨au _, Rg.ag _, Rg.ag _, au _, Rg.ag _, Rg.ag _, trivial⟩) (ay.begin (aa HO))
   (ae (fo sw nu (Rg.cz kr rfl) [] [.k (wK xd)] [])
   (ae (jf Tryz.func118 kr rfl ay.step (Rg.ax 0 kr) (fun W v0 hG h0 => aa Xh W v0 hG.bel h0))
   (ae (ig rfl (Rg.ax 1 kr))
   (Rg.bg (Rg.il (d := 13) rfl kr rfl (fo sw me0 (Rg.cz kr rfl) [] [.k (wK yd)] []))
   (Rg.bg (Rg.il (d := 13) rfl kr rfl (jf Tryz.func118 kr rfl ay.step (Rg.ax 3 kr) (fun W v0 hG h0 => aa HO2 W v0 hG.bel h0)))
   (ae (vv rfl (Rg.ax 2 kr) (Rg.ax 4 kr))
   Rg.cu)))))) ?_
  intro v2 V2 hG2 hv2 hne2
  simp only [Rg.puts, jr, jq, jo, jm, Act.put, jl, jk, ji]
  have e5 : v2 5 = .bool true := hv2 5 (by decide)
  simp only [e5]
  have hO := hG2.1
  clear HO
  have HO := hide hO
  clear hO hG2 hv2 hne2
  try clear e5
  go_upto_region 3 with fail
  refine Rg.region 7 33 (Rg.pick [Rg.bf (.pointer (some ⟨w.heap.size, 0, none⟩)), ai [.k (wK xn)], Rg.bf (.pointer (some ⟨w.heap.size + 1, 0, none⟩)), ai [.k (wK yn)], ai [.k (wK a)], ai [.k (wK xd)], ai [.k (wK a), .k (wK xd)]]) (ay w [(Dz, 61, [.k (wK yd)]), (Gw, 61, [.k (wK xd)]), (w.heap.size + 2, 63, zX), (w.heap.size + 1, 63, [.k (wK yn), .k (wK ye)]), (w.heap.size, 63, [.k (wK xn), .k (wK xe)])] V2) ik [] kr kr rfl (Rg.gm.pick ⟨Rg.ag _, au _, Rg.ag _, au _, au _, au _, au _, trivial⟩) (ay.start (aa HO))
   (ae (Ai (b := w.heap.size) (off := 0) rfl (Rg.cz kr rfl) rfl rfl)
   (ae (fo sw Zb (Rg.ax 0 kr) [] [.k (wK xn)] [.k (wK xe)])
   (ae (Ai (b := w.heap.size + 1) (off := 0) rfl (Rg.cz kr rfl) rfl rfl)
   (ae (fo sw Iq (Rg.ax 2 kr) [] [.k (wK yn)] [.k (wK ye)])
   (ae (iw Tryz.func120 kr rfl ay.step (Rg.ax 1 kr) (Rg.ax 3 kr) (fun W v0 v1 hG h0 h1 => aa HOP W v0 v1 hG.bel h0 h1))
   (ae (fo sw nu (Rg.cz kr rfl) [] [.k (wK xd)] [])
   (ae (yf adg rfl (Rg.ax 4 kr) (Rg.ax 5 kr) rfl rfl rfl)
   Rg.cu))))))) ?_
  intro v3 V3 hG3 hv3 qh
  simp only [Rg.puts, jr, jq, jo, jm, Act.put, jl, jk, ji]
  have hO := hG3.1
  refine ky hO 2 [] zX [.k (wK a), .k (wK xd)] [] rfl Dw rfl (show ai [.k (wK a), .k (wK xd)] V3 (v3 6) from hv3 6 (by decide)) rfl rfl rfl ?_
  intro Ea iy hk0
  replace hO := iy
  clear iy
  clear HO
  have HO := hide hO
  clear hO hG3 hv3 qh hk0
  go_wp2_with fail
  exact zh Tryz.results52 Ii rfl (aa HO) qo rfl rfl
 ·
  obtain ⟨h0, h1, h2⟩ := hp
  have HS := hide h0
  have HM3 := hide h1
  have HR := hide h2
  clear h0 h1 h2 HC
  rcases ho with rfl | ⟨rfl, rfl⟩
  ·
   go_upto_region 2 with fail
   refine Rg.fw 6 33 (Rg.pick [ai [.k (wK xd)], Rg.bf (.bool false), Rg.bf (.bool false), Rg.bf undef, Rg.bf undef, Rg.bf (.bool false)]) (ay w [(Dz, 61, [.k (wK yd)]), (Gw, 61, [.k (wK xd)]), (w.heap.size + 2, 63, zX), (w.heap.size + 1, 63, [.k (wK yn), .k (wK ye)]), (w.heap.size, 63, [.k (wK xn), .k (wK xe)])] V1) ik [] kr rfl (Rg.gm.pick ⟨au _, Rg.ag _, Rg.ag _, Rg.ag _, Rg.ag _, Rg.ag _, trivial⟩) (ay.begin (aa HO))
    (ae (fo sw nu (Rg.cz kr rfl) [] [.k (wK xd)] [])
    (ae (jf Tryz.func118 kr rfl ay.step (Rg.ax 0 kr) (fun W v0 hG h0 => aa Xh W v0 hG.bel h0))
    (ae (ig rfl (Rg.ax 1 kr))
    (Rg.bg (Rg.mg (d := 13) rfl kr rfl rfl lh rfl rfl)
    (Rg.bg (Rg.mg (d := 13) rfl kr rfl rfl lh rfl rfl)
    (ae (zf rfl (Rg.ax 2 kr) (Rg.mh _))
    Rg.cu)))))) ?_
   intro v2 V2 hG2 hv2 hne2
   simp only [Rg.puts, jr, jq, jo, jm, Act.put, jl, jk, ji]
   have e5 : v2 5 = .bool false := hv2 5 (by decide)
   simp only [e5]
   have hO := hG2.1
   clear HO
   have HO := hide hO
   clear hO hG2 hv2 hne2
   try clear e5
   go_upto_region 4 with fail
   refine Rg.region 9 33 (Rg.pick [Rg.bf (.pointer (some ⟨w.heap.size, 0, none⟩)), ai [.k (wK xn)], Rg.bf (.pointer (some ⟨w.heap.size + 1, 0, none⟩)), ai [.k (wK yn)], ai [.k (wK s)], ai [.k (wK xd)], ai [.k (wK yd)], ai [.k (wK m3)], ai [.k (wK a), .k (wK b)]]) (ay w [(Dz, 61, [.k (wK yd)]), (Gw, 61, [.k (wK xd)]), (w.heap.size + 2, 63, zX), (w.heap.size + 1, 63, [.k (wK yn), .k (wK ye)]), (w.heap.size, 63, [.k (wK xn), .k (wK xe)])] V2) ik [] kr kr rfl (Rg.gm.pick ⟨Rg.ag _, au _, Rg.ag _, au _, au _, au _, au _, au _, au _, trivial⟩) (ay.start (aa HO))
    (ae (Ai (b := w.heap.size) (off := 0) rfl (Rg.cz kr rfl) rfl rfl)
    (ae (fo sw Zb (Rg.ax 0 kr) [] [.k (wK xn)] [.k (wK xe)])
    (ae (Ai (b := w.heap.size + 1) (off := 0) rfl (Rg.cz kr rfl) rfl rfl)
    (ae (fo sw Iq (Rg.ax 2 kr) [] [.k (wK yn)] [.k (wK ye)])
    (ae (iw Tryz.func120 kr rfl ay.step (Rg.ax 1 kr) (Rg.ax 3 kr) (fun W v0 v1 hG h0 h1 => aa HS W v0 v1 hG.bel h0 h1))
    (ae (fo sw nu (Rg.cz kr rfl) [] [.k (wK xd)] [])
    (ae (fo sw me0 (Rg.cz kr rfl) [] [.k (wK yd)] [])
    (ae (iw Tryz.func120 kr rfl ay.step (Rg.ax 5 kr) (Rg.ax 6 kr) (fun W v0 v1 hG h0 h1 => aa HM3 W v0 v1 hG.bel h0 h1))
    (ae (iw Tryz.func115 kr rfl ay.step (Rg.ax 4 kr) (Rg.ax 7 kr) (fun W v0 v1 hG h0 h1 => aa HR W v0 v1 hG.bel h0 h1))
    Rg.cu))))))))) ?_
   intro v3 V3 hG3 hv3 qh
   simp only [Rg.puts, jr, jq, jo, jm, Act.put, jl, jk, ji]
   have hO := hG3.1
   refine ky hO 2 [] zX [.k (wK a), .k (wK b)] [] rfl Dw rfl (show ai [.k (wK a), .k (wK b)] V3 (v3 8) from hv3 8 (by decide)) rfl rfl rfl ?_
   intro Ea iy hk0
   replace hO := iy
   clear iy
   clear HO
   have HO := hide hO
   clear hO hG3 hv3 qh hk0
   go_wp2_with fail
   exact zh Tryz.results52 Ii rfl (aa HO) qo rfl rfl
  ·
   go_upto_region 2 with fail
   refine Rg.fw 6 33 (Rg.pick [ai [.k (wK xd)], Rg.bf (.bool true), Rg.bf (.bool true), ai [.k (wK yd)], Rg.bf (.bool false), Rg.bf (.bool false)]) (ay w [(Dz, 61, [.k (wK yd)]), (Gw, 61, [.k (wK xd)]), (w.heap.size + 2, 63, zX), (w.heap.size + 1, 63, [.k (wK yn), .k (wK ye)]), (w.heap.size, 63, [.k (wK xn), .k (wK xe)])] V1) ik [] kr rfl (Rg.gm.pick ⟨au _, Rg.ag _, Rg.ag _, au _, Rg.ag _, Rg.ag _, trivial⟩) (ay.begin (aa HO))
    (ae (fo sw nu (Rg.cz kr rfl) [] [.k (wK xd)] [])
    (ae (jf Tryz.func118 kr rfl ay.step (Rg.ax 0 kr) (fun W v0 hG h0 => aa Xh W v0 hG.bel h0))
    (ae (ig rfl (Rg.ax 1 kr))
    (Rg.bg (Rg.il (d := 13) rfl kr rfl (fo sw me0 (Rg.cz kr rfl) [] [.k (wK yd)] []))
    (Rg.bg (Rg.il (d := 13) rfl kr rfl (jf Tryz.func118 kr rfl ay.step (Rg.ax 3 kr) (fun W v0 hG h0 => aa HO2 W v0 hG.bel h0)))
    (ae (vv rfl (Rg.ax 2 kr) (Rg.ax 4 kr))
    Rg.cu)))))) ?_
   intro v2 V2 hG2 hv2 hne2
   simp only [Rg.puts, jr, jq, jo, jm, Act.put, jl, jk, ji]
   have e5 : v2 5 = .bool false := hv2 5 (by decide)
   simp only [e5]
   have hO := hG2.1
   clear HO
   have HO := hide hO
   clear hO hG2 hv2 hne2
   try clear e5
   go_upto_region 4 with fail
   refine Rg.region 9 33 (Rg.pick [Rg.bf (.pointer (some ⟨w.heap.size, 0, none⟩)), ai [.k (wK xn)], Rg.bf (.pointer (some ⟨w.heap.size + 1, 0, none⟩)), ai [.k (wK yn)], ai [.k (wK s)], ai [.k (wK xd)], ai [.k (wK yd)], ai [.k (wK m3)], ai [.k (wK a), .k (wK b)]]) (ay w [(Dz, 61, [.k (wK yd)]), (Gw, 61, [.k (wK xd)]), (w.heap.size + 2, 63, zX), (w.heap.size + 1, 63, [.k (wK yn), .k (wK ye)]), (w.heap.size, 63, [.k (wK xn), .k (wK xe)])] V2) ik [] kr kr rfl (Rg.gm.pick ⟨Rg.ag _, au _, Rg.ag _, au _, au _, au _, au _, au _, au _, trivial⟩) (ay.start (aa HO))
    (ae (Ai (b := w.heap.size) (off := 0) rfl (Rg.cz kr rfl) rfl rfl)
    (ae (fo sw Zb (Rg.ax 0 kr) [] [.k (wK xn)] [.k (wK xe)])
    (ae (Ai (b := w.heap.size + 1) (off := 0) rfl (Rg.cz kr rfl) rfl rfl)
    (ae (fo sw Iq (Rg.ax 2 kr) [] [.k (wK yn)] [.k (wK ye)])
    (ae (iw Tryz.func120 kr rfl ay.step (Rg.ax 1 kr) (Rg.ax 3 kr) (fun W v0 v1 hG h0 h1 => aa HS W v0 v1 hG.bel h0 h1))
    (ae (fo sw nu (Rg.cz kr rfl) [] [.k (wK xd)] [])
    (ae (fo sw me0 (Rg.cz kr rfl) [] [.k (wK yd)] [])
    (ae (iw Tryz.func120 kr rfl ay.step (Rg.ax 5 kr) (Rg.ax 6 kr) (fun W v0 v1 hG h0 h1 => aa HM3 W v0 v1 hG.bel h0 h1))
    (ae (iw Tryz.func115 kr rfl ay.step (Rg.ax 4 kr) (Rg.ax 7 kr) (fun W v0 v1 hG h0 h1 => aa HR W v0 v1 hG.bel h0 h1))
    Rg.cu))))))))) ?_
   intro v3 V3 hG3 hv3 qh
   simp only [Rg.puts, jr, jq, jo, jm, Act.put, jl, jk, ji]
   have hO := hG3.1
   refine ky hO 2 [] zX [.k (wK a), .k (wK b)] [] rfl Dw rfl (show ai [.k (wK a), .k (wK b)] V3 (v3 8) from hv3 8 (by decide)) rfl rfl rfl ?_
   intro Ea iy hk0
   replace hO := iy
   clear iy
   clear HO
   have HO := hide hO
   clear hO hG3 hv3 qh hk0
   go_wp2_with fail
   exact zh Tryz.results52 Ii rfl (aa HO) qo rfl rfl
set_option maxHeartbeats 16000000 in
theorem apg {xn xe yn ye xd yd m1 m2 s m3 a b : Int} {o1 o2 : Bool} (w : World) (u0 : Value) (h0 : ai [.k (wK xn), .k (wK xe)] w u0) (u1 : Value) (h1 : ai [.k (wK yn), .k (wK ye)] w u1)
  (hd1 : C1 w 117 [.k (wK xn), .k (wK xe)] [.k (wK xd)])
  (hd2 : C1 w 117 [.k (wK yn), .k (wK ye)] [.k (wK yd)])
  (ho1 : CB w 118 [.k (wK xd)] o1)
  (ho2 : CB w 118 [.k (wK yd)] o2)
  (hc : (o1 = true ∧ o2 = true ∧ xd = b ∧ C2 w 119 [.k (wK xn)] [.k (wK yn)] [.k (wK a)]) ∨ ((o1 = false ∨ o1 = true ∧ o2 = false) ∧ C2 w 120 [.k (wK xn)] [.k (wK yd)] [.k (wK m1)] ∧ C2 w 120 [.k (wK yn)] [.k (wK xd)] [.k (wK m2)] ∧ C2 w 119 [.k (wK m1)] [.k (wK m2)] [.k (wK s)] ∧ C2 w 120 [.k (wK xd)] [.k (wK yd)] [.k (wK m3)] ∧ C2 w 115 [.k (wK s)] [.k (wK m3)] [.k (wK a), .k (wK b)])) :
  Calls Tryz.prog 50 #[u0, u1] w (jh (ai [.k (wK a), .k (wK b)]) w) := by
 have HD1 := hide hd1
 have HD2 := hide hd2
 have Xh := hide ho1
 have HO2 := hide ho2
 have HC := hide hc
 clear hd1 hd2 ho1 ho2 hc
 obtain ⟨ry, c0a, rq, Ct, uh, c0b, ug, Cs, rfl, f0a, zq⟩ := Eu h0
 obtain ⟨qf, c1a, qd, Bg, qz, qy, qw, Bv, rfl, f1a, Di⟩ := Eu h1
 go_enter Tryz.func50, Tryz.ntmps50
 go_upto_region 1 with fail
 have hO := (Own.push (T := 63) (ls := zX) (cs := [.slice none 0 0, .bool false, .slice none 0 0, .bool false]) (Own.push (T := 63) (ls := [.k (wK yn), .k (wK ye)]) (cs := [.slice qf (List.length qd) c1a, .bool Bg, .slice qz (List.length qw) qy, .bool Bv]) (Own.push (T := 63) (ls := [.k (wK xn), .k (wK xe)]) (cs := [.slice ry (List.length rq) c0a, .bool Ct, .slice uh (List.length ug) c0b, .bool Cs]) (Own.nil w) (ek.w f0a (ek.w zq rfl)) (w.heap.size) rfl) (((ek.w f1a (ek.w Di rfl)) : ek w [.k (wK yn), .k (wK ye)] [.slice qf (List.length qd) c1a, .bool Bg, .slice qz (List.length qw) qy, .bool Bv]).below (by repeat (first | exact Below.refl _ _ | refine ja ?_ _))) (w.heap.size + 1) (by simp only [World.size_alloc])) (((ek.vs w [.slice none 0 0, .bool false, .slice none 0 0, .bool false] rfl) : ek w zX [.slice none 0 0, .bool false, .slice none 0 0, .bool false]).below (by repeat (first | exact Below.refl _ _ | refine ja ?_ _))) (w.heap.size + 2) (by simp only [World.size_alloc]))
 generalize ((w.alloc (.cells #[.slice ry (List.length rq) c0a, .bool Ct, .slice uh (List.length ug) c0b, .bool Cs] 63)).alloc (.cells #[.slice qf (List.length qd) c1a, .bool Bg, .slice qz (List.length qw) qy, .bool Bv] 63)).alloc (.cells #[.slice none 0 0, .bool false, .slice none 0 0, .bool false] 63) = W0 at *
 have HO := hide hO
 clear hO
 go_upto_region 1 with fail
 go_upto_region 1 with fail
 refine Rg.Xq 8 37 (fun k => if k = 6 then 5 else 6) (Rg.pick [ai [.k (wK xn), .k (wK xe)], ai [.k (wK xd)], ai [.k (wK yn), .k (wK ye)], ai [.k (wK yd)], fun _ _ => True, fun _ _ => True, fun _ _ => True, fun _ _ => True]) (ay w [(w.heap.size + 2, 63, zX), (w.heap.size + 1, 63, [.k (wK yn), .k (wK ye)]), (w.heap.size, 63, [.k (wK xn), .k (wK xe)])] W0) (EX W0.heap.size 61) (J2 61 2 W0.heap.size 4 5 6 7 [.k (wK xd)] [.k (wK yd)]) kr kr kr rfl (Rg.gm.pick ⟨(xm _), (xm _), (xm _), (xm _), (zw), (zw), (zw), (zw), trivial⟩) (ay.start (aa HO)) (fun _ => J2.start) (fun _ _ _ _ h => J2.congr (n := 8) (by decide) h)
  (Rg.kz (Cq (fo mq qo (Rg.cz kr rfl) [] [.k (wK xn), .k (wK xe)] []))
   (Rg.kz (Cq (jf Tryz.func117 kr rfl ay.step (Rg.ax 0 kr) (fun W v0 hG h0 => aa HD1 W v0 hG.bel h0)))
   (Rg.kz (Cq (fo mq nu (Rg.cz kr rfl) [] [.k (wK yn), .k (wK ye)] []))
   (Rg.kz (Cq (jf Tryz.func117 kr rfl ay.step (Rg.ax 2 kr) (fun W v0 hG h0 => aa HD2 W v0 hG.bel h0)))
   (Rg.kz (Rs afe rfl rfl rfl)
   (Rg.kz (Tn afe rfl rfl rfl)
   (Rg.kz (Rq (aa HO) Xn kr (Rg.ax 1 kr) rfl rfl rfl)
   (Rg.kz (Tm (aa HO) Xn kr (Rg.ax 3 kr) rfl rfl rfl)
   Rg.Od)))))))) ?_
 intro v1 V1 hG1 hJ1 hv1 hne1
 simp only [Rg.puts, jr, jq, jo, jm, Act.put, jl, jk, ji]
 obtain ⟨_, _, hd1, hf1, hg1⟩ := hJ1
 obtain ⟨Gw, e4, hge4, Wj⟩ := (hf1 trivial).2
 obtain ⟨Dz, e5, Lc, Rb⟩ := (hg1 trivial).2
 simp only [e4, e5]
 have hO := Own.Xb (aa HO) hG1.2 hge4 Wj Lc Rb (fun h => hd1 trivial trivial (by rw [e4, e5, h]))
 clear hge4 Wj Lc Rb hd1 hf1 hg1
 clear HO
 have HO := hide hO
 clear hO hG1 hv1 hne1
 try clear e4 e5
 rcases aa HC with ⟨rfl, rfl, rfl, hp⟩ | ⟨ho, hp⟩
 ·
  have HOP := hide hp
  clear hp HC
  go_upto_region 2 with fail
  refine Rg.fw 6 37 (Rg.pick [ai [.k (wK xd)], Rg.bf (.bool true), Rg.bf (.bool true), ai [.k (wK yd)], Rg.bf (.bool true), Rg.bf (.bool true)]) (ay w [(Dz, 61, [.k (wK yd)]), (Gw, 61, [.k (wK xd)]), (w.heap.size + 2, 63, zX), (w.heap.size + 1, 63, [.k (wK yn), .k (wK ye)]), (w.heap.size, 63, [.k (wK xn), .k (wK xe)])] V1) ik [] kr rfl (Rg.gm.pick ⟨au _, Rg.ag _, Rg.ag _, au _, Rg.ag _, Rg.ag _, trivial⟩) (ay.begin (aa HO))
   (ae (fo sw nu (Rg.cz kr rfl) [] [.k (wK xd)] [])
   (ae (jf Tryz.func118 kr rfl ay.step (Rg.ax 0 kr) (fun W v0 hG h0 => aa Xh W v0 hG.bel h0))
   (ae (ig rfl (Rg.ax 1 kr))
   (Rg.bg (Rg.il (d := 13) rfl kr rfl (fo sw me0 (Rg.cz kr rfl) [] [.k (wK yd)] []))
   (Rg.bg (Rg.il (d := 13) rfl kr rfl (jf Tryz.func118 kr rfl ay.step (Rg.ax 3 kr) (fun W v0 hG h0 => aa HO2 W v0 hG.bel h0)))
   (ae (vv rfl (Rg.ax 2 kr) (Rg.ax 4 kr))
   Rg.cu)))))) ?_
  intro v2 V2 hG2 hv2 hne2
  simp only [Rg.puts, jr, jq, jo, jm, Act.put, jl, jk, ji]
  have e5 : v2 5 = .bool true := hv2 5 (by decide)
  simp only [e5]
  have hO := hG2.1
  clear HO
  have HO := hide hO
  clear hO hG2 hv2 hne2
  try clear e5
  go_upto_region 3 with fail
  refine Rg.region 7 37 (Rg.pick [Rg.bf (.pointer (some ⟨w.heap.size, 0, none⟩)), ai [.k (wK xn)], Rg.bf (.pointer (some ⟨w.heap.size + 1, 0, none⟩)), ai [.k (wK yn)], ai [.k (wK a)], ai [.k (wK xd)], ai [.k (wK a), .k (wK xd)]]) (ay w [(Dz, 61, [.k (wK yd)]), (Gw, 61, [.k (wK xd)]), (w.heap.size + 2, 63, zX), (w.heap.size + 1, 63, [.k (wK yn), .k (wK ye)]), (w.heap.size, 63, [.k (wK xn), .k (wK xe)])] V2) ik [] kr kr rfl (Rg.gm.pick ⟨Rg.ag _, au _, Rg.ag _, au _, au _, au _, au _, trivial⟩) (ay.start (aa HO))
   (ae (Ai (b := w.heap.size) (off := 0) rfl (Rg.cz kr rfl) rfl rfl)
   (ae (fo sw Zb (Rg.ax 0 kr) [] [.k (wK xn)] [.k (wK xe)])
   (ae (Ai (b := w.heap.size + 1) (off := 0) rfl (Rg.cz kr rfl) rfl rfl)
   (ae (fo sw Iq (Rg.ax 2 kr) [] [.k (wK yn)] [.k (wK ye)])
   (ae (iw Tryz.func119 kr rfl ay.step (Rg.ax 1 kr) (Rg.ax 3 kr) (fun W v0 v1 hG h0 h1 => aa HOP W v0 v1 hG.bel h0 h1))
   (ae (fo sw nu (Rg.cz kr rfl) [] [.k (wK xd)] [])
   (ae (yf adg rfl (Rg.ax 4 kr) (Rg.ax 5 kr) rfl rfl rfl)
   Rg.cu))))))) ?_
  intro v3 V3 hG3 hv3 qh
  simp only [Rg.puts, jr, jq, jo, jm, Act.put, jl, jk, ji]
  have hO := hG3.1
  refine ky hO 2 [] zX [.k (wK a), .k (wK xd)] [] rfl Dw rfl (show ai [.k (wK a), .k (wK xd)] V3 (v3 6) from hv3 6 (by decide)) rfl rfl rfl ?_
  intro Ea iy hk0
  replace hO := iy
  clear iy
  clear HO
  have HO := hide hO
  clear hO hG3 hv3 qh hk0
  go_wp2_with fail
  exact zh Tryz.results50 Ii rfl (aa HO) qo rfl rfl
 ·
  obtain ⟨h0, h1, h2, h3, h4⟩ := hp
  have HM1 := hide h0
  have HM2 := hide h1
  have HS := hide h2
  have HM3 := hide h3
  have HR := hide h4
  clear h0 h1 h2 h3 h4 HC
  rcases ho with rfl | ⟨rfl, rfl⟩
  ·
   go_upto_region 2 with fail
   refine Rg.fw 6 37 (Rg.pick [ai [.k (wK xd)], Rg.bf (.bool false), Rg.bf (.bool false), Rg.bf undef, Rg.bf undef, Rg.bf (.bool false)]) (ay w [(Dz, 61, [.k (wK yd)]), (Gw, 61, [.k (wK xd)]), (w.heap.size + 2, 63, zX), (w.heap.size + 1, 63, [.k (wK yn), .k (wK ye)]), (w.heap.size, 63, [.k (wK xn), .k (wK xe)])] V1) ik [] kr rfl (Rg.gm.pick ⟨au _, Rg.ag _, Rg.ag _, Rg.ag _, Rg.ag _, Rg.ag _, trivial⟩) (ay.begin (aa HO))
    (ae (fo sw nu (Rg.cz kr rfl) [] [.k (wK xd)] [])
    (ae (jf Tryz.func118 kr rfl ay.step (Rg.ax 0 kr) (fun W v0 hG h0 => aa Xh W v0 hG.bel h0))
    (ae (ig rfl (Rg.ax 1 kr))
    (Rg.bg (Rg.mg (d := 13) rfl kr rfl rfl lh rfl rfl)
    (Rg.bg (Rg.mg (d := 13) rfl kr rfl rfl lh rfl rfl)
    (ae (zf rfl (Rg.ax 2 kr) (Rg.mh _))
    Rg.cu)))))) ?_
   intro v2 V2 hG2 hv2 hne2
   simp only [Rg.puts, jr, jq, jo, jm, Act.put, jl, jk, ji]
   have e5 : v2 5 = .bool false := hv2 5 (by decide)
   simp only [e5]
   have hO := hG2.1
   clear HO
   have HO := hide hO
   clear hO hG2 hv2 hne2
   try clear e5
   go_upto_region 4 with fail
   refine Rg.region 13 37 (Rg.pick [Rg.bf (.pointer (some ⟨w.heap.size, 0, none⟩)), ai [.k (wK xn)], ai [.k (wK yd)], ai [.k (wK m1)], Rg.bf (.pointer (some ⟨w.heap.size + 1, 0, none⟩)), ai [.k (wK yn)], ai [.k (wK xd)], ai [.k (wK m2)], ai [.k (wK s)], ai [.k (wK xd)], ai [.k (wK yd)], ai [.k (wK m3)], ai [.k (wK a), .k (wK b)]]) (ay w [(Dz, 61, [.k (wK yd)]), (Gw, 61, [.k (wK xd)]), (w.heap.size + 2, 63, zX), (w.heap.size + 1, 63, [.k (wK yn), .k (wK ye)]), (w.heap.size, 63, [.k (wK xn), .k (wK xe)])] V2) ik [] kr kr rfl (Rg.gm.pick ⟨Rg.ag _, au _, au _, au _, Rg.ag _, au _, au _, au _, au _, au _, au _, au _, au _, trivial⟩) (ay.start (aa HO))
    (ae (Ai (b := w.heap.size) (off := 0) rfl (Rg.cz kr rfl) rfl rfl)
    (ae (fo sw Zb (Rg.ax 0 kr) [] [.k (wK xn)] [.k (wK xe)])
    (ae (fo sw me0 (Rg.cz kr rfl) [] [.k (wK yd)] [])
    (ae (iw Tryz.func120 kr rfl ay.step (Rg.ax 1 kr) (Rg.ax 2 kr) (fun W v0 v1 hG h0 h1 => aa HM1 W v0 v1 hG.bel h0 h1))
    (ae (Ai (b := w.heap.size + 1) (off := 0) rfl (Rg.cz kr rfl) rfl rfl)
    (ae (fo sw Iq (Rg.ax 4 kr) [] [.k (wK yn)] [.k (wK ye)])
    (ae (fo sw nu (Rg.cz kr rfl) [] [.k (wK xd)] [])
    (ae (iw Tryz.func120 kr rfl ay.step (Rg.ax 5 kr) (Rg.ax 6 kr) (fun W v0 v1 hG h0 h1 => aa HM2 W v0 v1 hG.bel h0 h1))
    (ae (iw Tryz.func119 kr rfl ay.step (Rg.ax 3 kr) (Rg.ax 7 kr) (fun W v0 v1 hG h0 h1 => aa HS W v0 v1 hG.bel h0 h1))
    (ae (fo sw nu (Rg.cz kr rfl) [] [.k (wK xd)] [])
    (ae (fo sw me0 (Rg.cz kr rfl) [] [.k (wK yd)] [])
    (ae (iw Tryz.func120 kr rfl ay.step (Rg.ax 9 kr) (Rg.ax 10 kr) (fun W v0 v1 hG h0 h1 => aa HM3 W v0 v1 hG.bel h0 h1))
    (ae (iw Tryz.func115 kr rfl ay.step (Rg.ax 8 kr) (Rg.ax 11 kr) (fun W v0 v1 hG h0 h1 => aa HR W v0 v1 hG.bel h0 h1))
    Rg.cu))))))))))))) ?_
   intro v3 V3 hG3 hv3 qh
   simp only [Rg.puts, jr, jq, jo, jm, Act.put, jl, jk, ji]
   have hO := hG3.1
   refine ky hO 2 [] zX [.k (wK a), .k (wK b)] [] rfl Dw rfl (show ai [.k (wK a), .k (wK b)] V3 (v3 12) from hv3 12 (by decide)) rfl rfl rfl ?_
   intro Ea iy hk0
   replace hO := iy
   clear iy
   clear HO
   have HO := hide hO
   clear hO hG3 hv3 qh hk0
   go_wp2_with fail
   exact zh Tryz.results50 Ii rfl (aa HO) qo rfl rfl
  ·
   go_upto_region 2 with fail
   refine Rg.fw 6 37 (Rg.pick [ai [.k (wK xd)], Rg.bf (.bool true), Rg.bf (.bool true), ai [.k (wK yd)], Rg.bf (.bool false), Rg.bf (.bool false)]) (ay w [(Dz, 61, [.k (wK yd)]), (Gw, 61, [.k (wK xd)]), (w.heap.size + 2, 63, zX), (w.heap.size + 1, 63, [.k (wK yn), .k (wK ye)]), (w.heap.size, 63, [.k (wK xn), .k (wK xe)])] V1) ik [] kr rfl (Rg.gm.pick ⟨au _, Rg.ag _, Rg.ag _, au _, Rg.ag _, Rg.ag _, trivial⟩) (ay.begin (aa HO))
    (ae (fo sw nu (Rg.cz kr rfl) [] [.k (wK xd)] [])
    (ae (jf Tryz.func118 kr rfl ay.step (Rg.ax 0 kr) (fun W v0 hG h0 => aa Xh W v0 hG.bel h0))
    (ae (ig rfl (Rg.ax 1 kr))
    (Rg.bg (Rg.il (d := 13) rfl kr rfl (fo sw me0 (Rg.cz kr rfl) [] [.k (wK yd)] []))
    (Rg.bg (Rg.il (d := 13) rfl kr rfl (jf Tryz.func118 kr rfl ay.step (Rg.ax 3 kr) (fun W v0 hG h0 => aa HO2 W v0 hG.bel h0)))
    (ae (vv rfl (Rg.ax 2 kr) (Rg.ax 4 kr))
    Rg.cu)))))) ?_
   intro v2 V2 hG2 hv2 hne2
   simp only [Rg.puts, jr, jq, jo, jm, Act.put, jl, jk, ji]
   have e5 : v2 5 = .bool false := hv2 5 (by decide)
   simp only [e5]
   have hO := hG2.1
   clear HO
   have HO := hide hO
   clear hO hG2 hv2 hne2
   try clear e5
   go_upto_region 4 with fail
   refine Rg.region 13 37 (Rg.pick [Rg.bf (.pointer (some ⟨w.heap.size, 0, none⟩)), ai [.k (wK xn)], ai [.k (wK yd)], ai [.k (wK m1)], Rg.bf (.pointer (some ⟨w.heap.size + 1, 0, none⟩)), ai [.k (wK yn)], ai [.k (wK xd)], ai [.k (wK m2)], ai [.k (wK s)], ai [.k (wK xd)], ai [.k (wK yd)], ai [.k (wK m3)], ai [.k (wK a), .k (wK b)]]) (ay w [(Dz, 61, [.k (wK yd)]), (Gw, 61, [.k (wK xd)]), (w.heap.size + 2, 63, zX), (w.heap.size + 1, 63, [.k (wK yn), .k (wK ye)]), (w.heap.size, 63, [.k (wK xn), .k (wK xe)])] V2) ik [] kr kr rfl (Rg.gm.pick ⟨Rg.ag _, au _, au _, au _, Rg.ag _, au _, au _, au _, au _, au _, au _, au _, au _, trivial⟩) (ay.start (aa HO))
    (ae (Ai (b := w.heap.size) (off := 0) rfl (Rg.cz kr rfl) rfl rfl)
    (ae (fo sw Zb (Rg.ax 0 kr) [] [.k (wK xn)] [.k (wK xe)])
    (ae (fo sw me0 (Rg.cz kr rfl) [] [.k (wK yd)] [])
    (ae (iw Tryz.func120 kr rfl ay.step (Rg.ax 1 kr) (Rg.ax 2 kr) (fun W v0 v1 hG h0 h1 => aa HM1 W v0 v1 hG.bel h0 h1))
    (ae (Ai (b := w.heap.size + 1) (off := 0) rfl (Rg.cz kr rfl) rfl rfl)
    (ae (fo sw Iq (Rg.ax 4 kr) [] [.k (wK yn)] [.k (wK ye)])
    (ae (fo sw nu (Rg.cz kr rfl) [] [.k (wK xd)] [])
    (ae (iw Tryz.func120 kr rfl ay.step (Rg.ax 5 kr) (Rg.ax 6 kr) (fun W v0 v1 hG h0 h1 => aa HM2 W v0 v1 hG.bel h0 h1))
    (ae (iw Tryz.func119 kr rfl ay.step (Rg.ax 3 kr) (Rg.ax 7 kr) (fun W v0 v1 hG h0 h1 => aa HS W v0 v1 hG.bel h0 h1))
    (ae (fo sw nu (Rg.cz kr rfl) [] [.k (wK xd)] [])
    (ae (fo sw me0 (Rg.cz kr rfl) [] [.k (wK yd)] [])
    (ae (iw Tryz.func120 kr rfl ay.step (Rg.ax 9 kr) (Rg.ax 10 kr) (fun W v0 v1 hG h0 h1 => aa HM3 W v0 v1 hG.bel h0 h1))
    (ae (iw Tryz.func115 kr rfl ay.step (Rg.ax 8 kr) (Rg.ax 11 kr) (fun W v0 v1 hG h0 h1 => aa HR W v0 v1 hG.bel h0 h1))
    Rg.cu))))))))))))) ?_
   intro v3 V3 hG3 hv3 qh
   simp only [Rg.puts, jr, jq, jo, jm, Act.put, jl, jk, ji]
   have hO := hG3.1
   refine ky hO 2 [] zX [.k (wK a), .k (wK b)] [] rfl Dw rfl (show ai [.k (wK a), .k (wK b)] V3 (v3 12) from hv3 12 (by decide)) rfl rfl rfl ?_
   intro Ea iy hk0
   replace hO := iy
   clear iy
   clear HO
   have HO := hide hO
   clear hO hG3 hv3 qh hk0
   go_wp2_with fail
   exact zh Tryz.results50 Ii rfl (aa HO) qo rfl rfl
end Sb

end Go.Proofs.YtjdnmdlnaoedoaaGreatDoor
namespace Go.Proofs.YtjdnmdlnaoedoaaGreatDoor
open Go.RowKit Sb

namespace Wd
theorem anb (x y : Rat) : x + y = Rat.divInt (x.num * (y.den : Int) + y.num * (x.den : Int)) ((x.den : Int) * (y.den : Int)) := by
 have hx := x.den_nz; have hy := y.den_nz
 conv => lhs; rw [← Rat.num_divInt_den x, ← Rat.num_divInt_den y]
 exact Rat.divInt_add_divInt _ _ om om
theorem aly (x y : Rat) : x * y = Rat.divInt (x.num * y.num) ((x.den : Int) * (y.den : Int)) := by
 conv => lhs; rw [← Rat.num_divInt_den x, ← Rat.num_divInt_den y]
 exact Rat.divInt_mul_divInt _ _
theorem bft (x y : Rat) : x / y = Rat.divInt (x.num * (y.den : Int)) ((x.den : Int) * y.num) := by
 rw [Rat.div_def]
 conv => lhs; rw [← Rat.num_divInt_den x, Rat.inv_def]
 exact Rat.divInt_mul_divInt _ _
theorem Xy (n : Int) : (Rat.divInt n 1).num = n ∧ (Rat.divInt n 1).den = 1 := by
 have h : Rat.divInt n 1 = (n : Rat) := by
  rw [← Rat.num_divInt_den (n : Rat)]; rfl
 rw [h]
 exact ⟨rfl, rfl⟩
theorem axg {x y : Rat} (hx : (x.den : Int) = 1) (hy : (y.den : Int) = 1) : x.num + y.num = (x + y).num ∧ (x.den : Int) = ((x + y).den : Int) := by
 have h : x + y = Rat.divInt (x.num + y.num) 1 := by
  rw [anb, hx, hy]; simp
 rw [h, (Xy _).1, (Xy _).2]; exact ⟨rfl, hx⟩
theorem awn {x y : Rat} (hx : (x.den : Int) = 1) (hy : (y.den : Int) = 1) : x.num * y.num = (x * y).num ∧ (x.den : Int) = ((x * y).den : Int) := by
 have h : x * y = Rat.divInt (x.num * y.num) 1 := by
  rw [aly, hx, hy]; simp
 rw [h, (Xy _).1, (Xy _).2]; exact ⟨rfl, hx⟩
def za (B K : Nat) (q : Rat) : Prop := Sz B K q.num ∧ Sz B K (q.den : Int)
end Wd

theorem Mt {w : World} {a b c : Int} {K L : Nat} (ha : Wd.Sz dm K a) (hb : Wd.Sz dm L b) (hK : K + L ≤ 35184372088832) (e : c = a * b) : avw w 120 a b c := by
 subst e
 exact fun A1 c1 l1 m1 A2 c2 l2 m2 W _ f g => afo A1 c1 l1 m1 a A2 c2 l2 m2 b W f g (by have := f.len ha; have := g.len hb; omega)
theorem apk {w : World} {a b c : Int} {K L : Nat} (ha : Wd.Sz dm K a) (hb : Wd.Sz dm L b) (hK : K + L + 1 ≤ 35184372088832) (e : c = a + b) : avw w 119 a b c := by
 subst e
 exact fun A1 c1 l1 m1 A2 c2 l2 m2 W _ f g => ass A1 c1 l1 m1 a A2 c2 l2 m2 b W f g (by have := f.len ha; have := g.len hb; omega)
theorem Zt {w : World} {a b : Int} {q : Rat} {K : Nat} (ha : Wd.Sz dm K a) (hb : Wd.Sz dm K b) (h0 : b ≠ 0) (hK : K + 1 ≤ 35184372088832) (e : q = Rat.divInt a b) : beh w 115 a b q := by
 subst e
 exact fun A1 c1 l1 m1 A2 c2 l2 m2 W _ f g => aat A1 c1 l1 m1 a A2 c2 l2 m2 b K W f g h0 ha hb hK
theorem ado (K : Nat) (A1 : Option Addr) (c1 : Nat) (l1 : List Nat) (m1 : Bool) (A2 : Option Addr) (c2 : Nat) (l2 : List Nat) (m2 : Bool) (A3 : Option Addr) (c3 : Nat) (l3 : List Nat) (m3 : Bool) (A4 : Option Addr) (c4 : Nat) (l4 : List Nat) (m4 : Bool) (x y : Rat) (w : World) (h1 : QV w A1 c1 l1 m1 A2 c2 l2 m2 x) (h2 : QV w A3 c3 l3 m3 A4 c4 l4 m4 y) (sx : Wd.za dm K x) (sy : Wd.za dm K y) (hK : 4 * K + 4 ≤ 35184372088832) :
  Calls Tryz.prog 50 #[.agg #[.slice A1 l1.length c1, .bool m1, .slice A2 l2.length c2, .bool m2], .agg #[.slice A3 l3.length c3, .bool m3, .slice A4 l4.length c4, .bool m4]] w fun e w' => QR w (x + y) e w' := by
 obtain ⟨d1, q1, g1⟩ := Og h1
 obtain ⟨d2, q2, g2⟩ := Og h2
 have hx := x.den_nz; have hy := y.den_nz
 have s1 : Wd.Sz dm (2 * K + 1) (x.num * (y.den : Int) + y.num * (x.den : Int)) := by
  have a := sx.1.mul sy.2; have b := sy.1.mul sx.2
  rw [← Nat.two_mul] at a b
  exact a.add Bc b
 have s2 : Wd.Sz dm (2 * K + 1) ((x.den : Int) * (y.den : Int)) := (sx.2.mul sy.2).mono Bc om
 have a1 := Mt (w := w) sx.1 sy.2 om rfl
 have a3 := Mt (w := w) sy.1 sx.2 om rfl
 have an := apk (w := w) (sx.1.mul sy.2) (sy.1.mul sx.2) om rfl
 have am := Mt (w := w) sx.2 sy.2 om rfl
 have ar := Zt (w := w) s1 s2 (Int.mul_ne_zero om om) om (Wd.anb x y)
 refine (apg (m1 := x.num * (y.den : Int)) (m2 := y.num * (x.den : Int)) (s := x.num * (y.den : Int) + y.num * (x.den : Int)) (m3 := (x.den : Int) * (y.den : Int)) (a := (x + y).num) (b := ((x + y).den : Int)) w _ g1 _ g2 (Rf w q1) (Rf w q2) (Yg w rfl) (Yg w rfl) ?_).mono fun e w' h => Vs h
 by_cases e1 : (x.den : Int) = 1
 ·
  by_cases e2 : (y.den : Int) = 1
  ·
   exact .inl ⟨decide_eq_true e1, decide_eq_true e2, (Wd.axg e1 e2).2, Nz (apk sx.1 sy.1 om (Wd.axg e1 e2).1.symm)⟩
  ·
   exact .inr ⟨.inr ⟨decide_eq_true e1, decide_eq_false e2⟩, Nz a1, Nz a3, Nz an, Nz am, cwq ar⟩
 ·
  exact .inr ⟨.inl (decide_eq_false e1), Nz a1, Nz a3, Nz an, Nz am, cwq ar⟩
theorem Qt (A1 : Option Addr) (c1 : Nat) (l1 : List Nat) (m1 : Bool) (A2 : Option Addr) (c2 : Nat) (l2 : List Nat) (m2 : Bool) (x : Rat) (w : World) (h1 : QV w A1 c1 l1 m1 A2 c2 l2 m2 x) :
  Calls Tryz.prog 121 #[.agg #[.slice A1 l1.length c1, .bool m1, .slice A2 l2.length c2, .bool m2]] w fun e w' => QR w (-x) e w' := by
 obtain ⟨d1, q1, g1⟩ := Og h1
 exact (apc w _ g1 (Rf w q1) (bdl w _)).mono fun e w' h => Vs (q := -x) h
theorem anr (K : Nat) (A1 : Option Addr) (c1 : Nat) (l1 : List Nat) (m1 : Bool) (A2 : Option Addr) (c2 : Nat) (l2 : List Nat) (m2 : Bool) (A3 : Option Addr) (c3 : Nat) (l3 : List Nat) (m3 : Bool) (A4 : Option Addr) (c4 : Nat) (l4 : List Nat) (m4 : Bool) (x y : Rat) (w : World) (h1 : QV w A1 c1 l1 m1 A2 c2 l2 m2 x) (h2 : QV w A3 c3 l3 m3 A4 c4 l4 m4 y) (sx : Wd.za dm K x) (sy : Wd.za dm K y) (hK : 4 * K + 4 ≤ 35184372088832) :
  Calls Tryz.prog 51 #[.agg #[.slice A1 l1.length c1, .bool m1, .slice A2 l2.length c2, .bool m2], .agg #[.slice A3 l3.length c3, .bool m3, .slice A4 l4.length c4, .bool m4]] w fun e w' => QR w (x - y) e w' := by
 rw [Rat.sub_eq_add_neg]
 obtain ⟨d1, q1, g1⟩ := Og h1
 obtain ⟨d2, q2, g2⟩ := Og h2
 refine (apb (zn := (-y).num) (ze := ((-y).den : Int)) (a := (x + -y).num) (b := ((x + -y).den : Int)) w _ g1 _ g2 (fun W v0 hb h0 => ?_) (fun W v0 v1 hb h0 h3 => ?_)).mono fun e w' h => Vs h
 ·
  obtain ⟨A5, c5, l5, m5, A6, c6, l6, m6, rfl, f1, f2⟩ := Eu h0
  exact (Qt A5 c5 l5 m5 A6 c6 l6 m6 y W ⟨f1, _, f2, q2⟩).mono fun e w' h => afl h
 ·
  obtain ⟨A5, c5, l5, m5, A6, c6, l6, m6, rfl, f1, f2⟩ := Eu h0
  obtain ⟨A7, c7, l7, m7, A8, c8, l8, m8, rfl, f3, f4⟩ := Eu h3
  exact (ado K A5 c5 l5 m5 A6 c6 l6 m6 A7 c7 l7 m7 A8 c8 l8 m8 x (-y) W ⟨f1, _, f2, q1⟩ (QV.of f3 f4) sx ⟨sy.1.neg, sy.2⟩ hK).mono fun e w' h => afl h
end Go.Proofs.YtjdnmdlnaoedoaaGreatDoor
namespace Go.Proofs.YtjdnmdlnaoedoaaGreatDoor
open Go.RowKit Sb

theorem ant (K : Nat) (A1 : Option Addr) (c1 : Nat) (l1 : List Nat) (m1 : Bool) (A2 : Option Addr) (c2 : Nat) (l2 : List Nat) (m2 : Bool) (A3 : Option Addr) (c3 : Nat) (l3 : List Nat) (m3 : Bool) (A4 : Option Addr) (c4 : Nat) (l4 : List Nat) (m4 : Bool) (x y : Rat) (w : World) (h1 : QV w A1 c1 l1 m1 A2 c2 l2 m2 x) (h2 : QV w A3 c3 l3 m3 A4 c4 l4 m4 y) (sx : Wd.za dm K x) (sy : Wd.za dm K y) (hK : 4 * K + 4 ≤ 35184372088832) :
  Calls Tryz.prog 52 #[.agg #[.slice A1 l1.length c1, .bool m1, .slice A2 l2.length c2, .bool m2], .agg #[.slice A3 l3.length c3, .bool m3, .slice A4 l4.length c4, .bool m4]] w fun e w' => QR w (x * y) e w' := by
 obtain ⟨d1, q1, g1⟩ := Og h1
 obtain ⟨d2, q2, g2⟩ := Og h2
 have hx := x.den_nz; have hy := y.den_nz
 have an := Mt (w := w) sx.1 sy.1 om rfl
 have am := Mt (w := w) sx.2 sy.2 om rfl
 have ar := Zt (w := w) (sx.1.mul sy.1) (sx.2.mul sy.2) (Int.mul_ne_zero om om) om (Wd.aly x y)
 refine (apd (s := x.num * y.num) (m3 := (x.den : Int) * (y.den : Int)) (a := (x * y).num) (b := ((x * y).den : Int)) w _ g1 _ g2 (Rf w q1) (Rf w q2) (Yg w rfl) (Yg w rfl) ?_).mono fun e w' h => Vs h
 by_cases e1 : (x.den : Int) = 1
 ·
  by_cases e2 : (y.den : Int) = 1
  ·
   exact .inl ⟨decide_eq_true e1, decide_eq_true e2, (Wd.awn e1 e2).2, Nz (Mt sx.1 sy.1 om (Wd.awn e1 e2).1.symm)⟩
  ·
   exact .inr ⟨.inr ⟨decide_eq_true e1, decide_eq_false e2⟩, Nz an, Nz am, cwq ar⟩
 ·
  exact .inr ⟨.inl (decide_eq_false e1), Nz an, Nz am, cwq ar⟩
theorem adn (K : Nat) (A1 : Option Addr) (c1 : Nat) (l1 : List Nat) (m1 : Bool) (A2 : Option Addr) (c2 : Nat) (l2 : List Nat) (m2 : Bool) (A3 : Option Addr) (c3 : Nat) (l3 : List Nat) (m3 : Bool) (A4 : Option Addr) (c4 : Nat) (l4 : List Nat) (m4 : Bool) (x y : Rat) (w : World) (h1 : QV w A1 c1 l1 m1 A2 c2 l2 m2 x) (h2 : QV w A3 c3 l3 m3 A4 c4 l4 m4 y) (sx : Wd.za dm K x) (sy : Wd.za dm K y) (hK : 4 * K + 4 ≤ 35184372088832) (h0 : y.num ≠ 0) :
  Calls Tryz.prog 54 #[.agg #[.slice A1 l1.length c1, .bool m1, .slice A2 l2.length c2, .bool m2], .agg #[.slice A3 l3.length c3, .bool m3, .slice A4 l4.length c4, .bool m4]] w fun e w' => QR w (x / y) e w' := by
 have hx := x.den_nz
 obtain ⟨d1, q1, g1⟩ := Og h1
 obtain ⟨d2, q2, g2⟩ := Og h2
 exact (apf (a := (x / y).num) (b := ((x / y).den : Int)) w _ g1 _ g2 (Rf w q1) (Rf w q2) (Nz (Mt sx.1 sy.2 om rfl)) (Nz (Mt sx.2 sy.1 om rfl)) (cwq (Zt (sx.1.mul sy.2) (sx.2.mul sy.1) (Int.mul_ne_zero om h0) om (Wd.bft x y)))).mono fun e w' h => Vs h
end Go.Proofs.YtjdnmdlnaoedoaaGreatDoor
