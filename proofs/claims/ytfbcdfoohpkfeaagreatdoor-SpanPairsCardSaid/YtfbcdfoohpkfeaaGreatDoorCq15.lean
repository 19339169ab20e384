/- Texts beneath a law of layer 1. -/
import Derived.Test.YtfbcdfoohpkfeaaGreatDoorCq14
set_option maxRecDepth 100000
namespace Go.Proofs.YtfbcdfoohpkfeaaGreatDoor
open Go.RowKit

namespace Sb
instance : DecidableEq Gi := fun s t => decidable_of_iff (s.a = t.a ∧ s.b = t.b ∧ s.c = t.c ∧ s.d = t.d ∧ s.e = t.e) ⟨fun h => by cases s; cases t; obtain ⟨rfl, rfl, rfl, rfl, rfl⟩ := h; rfl, fun h => by subst h; exact ⟨rfl, rfl, rfl, rfl, rfl⟩⟩
theorem akt {ρ : Operand → Value} {w : World} {d : Option Tmp} {x y : Operand} {p q : Int} {ty : TypeId} {pos : String} {af : Array Edge} {gd : Option (Nat × Bool)} (h1 : ρ x = .int .i64 p) (h2 : ρ y = .int .i64 q) :
  (execOp ρ { dst := d, op := .build 23 #[(0, x), (1, y)], type := ty, pos := pos, after := af, guard := gd }).run Tryz.prog w = .ok (.value (.agg #[.int .i64 p, .int .i64 q])) w := by
 simp only [execOp]
 simp [go_sem, h1, h2]
 try rfl
theorem Kv {Q : Exit → Act → World → Prop} {l : List Oper} {n : Nat} {T : Nat → World → Value → Prop} {G : World → Prop} {al : List Nat} {a0 : Act} {k d : Nat} {ty : TypeId} {pos : String} {af : Array Edge} {gd : Option (Nat × Bool)} {x y : Operand} {p q : Int} (hal : al.contains k = false) (hx : Rg.ni l n T a0 k x (Rg.cz (.int .i64 p))) (hy : Rg.ni l n T a0 k y (Rg.cz (.int .i64 q))) (hT : T k = bg [.v (.int .i64 p), .v (.int .i64 q)]) :
  Rg.Step Tryz.prog Q l n T G jb al a0 k { dst := some d, op := .build 23 #[(0, x), (1, y)], type := ty, pos := pos, after := af, guard := gd } := by
 intro a w hG hO hN
 exact uh (P := Tryz.prog) (akt (hx a w hO hN) (hy a w hO hN)) ⟨_, rfl, hG, Below.refl _ _, by rw [hT]; exact Ow _ _ _, fun h => by rw [hal] at h; cases h⟩
theorem atl {ρ : Operand → Value} {w : World} {d : Option Tmp} {x y : Operand} {p0 p1 p2 p3 q0 q1 q2 q3 : Int} {b : Bool} {ty : TypeId} {pos : String} {af : Array Edge} {gd : Option (Nat × Bool)} (h : ρ x = .agg #[.int .i64 p0, .int .i64 p1, .int .i64 p2, .int .i64 p3]) (h' : ρ y = .agg #[.int .i64 q0, .int .i64 q1, .int .i64 q2, .int .i64 q3]) (hb : decide (p0 = q0 ∧ p1 = q1 ∧ p2 = q2 ∧ p3 = q3) = b) :
  (execOp ρ { dst := d, op := .binOp .eql 41 x y 41, type := ty, pos := pos, after := af, guard := gd }).run Tryz.prog w = .ok (.value (.bool b)) w := by
 subst hb
 simp only [execOp, h, h']
 by_cases k0 : p0 = q0 <;> by_cases k1 : p1 = q1 <;> by_cases k2 : p2 = q2 <;> by_cases k3 : p3 = q3 <;> simp [go_sem, k0, k1, k2, k3]
theorem bao {Q : Exit → Act → World → Prop} {l : List Oper} {n : Nat} {T : Nat → World → Value → Prop} {G : World → Prop} {al : List Nat} {a0 : Act} {k d : Nat} {ty : TypeId} {pos : String} {af : Array Edge} {gd : Option (Nat × Bool)} {x y : Operand} {p0 p1 p2 p3 q0 q1 q2 q3 : Int} {b : Bool}
  (hal : al.contains k = false) (hx : Rg.ni l n T a0 k x (bg [iv p0, iv p1, iv p2, iv p3])) (hy : Rg.ni l n T a0 k y (bg [iv q0, iv q1, iv q2, iv q3])) (hb : decide (p0 = q0 ∧ p1 = q1 ∧ p2 = q2 ∧ p3 = q3) = b) (hT : T k = Rg.cz (.bool b)) :
  Rg.Step Tryz.prog Q l n T G jb al a0 k { dst := some d, op := .binOp .eql 41 x y 41, type := ty, pos := pos, after := af, guard := gd } := by
 intro a w hG hO hN
 exact uh (P := Tryz.prog) (atl (Ak (hx a w hO hN)) (Ak (hy a w hO hN)) hb) ⟨_, rfl, hG, Below.refl _ _, by rw [hT]; rfl, fun h => by rw [hal] at h; cases h⟩
set_option maxHeartbeats 16000000 in
theorem alg (w : World) (hT : xg w)
  (hc : ∀ (W : World) (v0 v1 : Value), xg W → bg [iv (-1), iv 1, iv 2, iv 1] W v0 → bg [iv 3, iv 1, iv 4, iv 1] W v1 → Calls Tryz.prog 83 #[v0, v1, .int .i64 1] W (nk (qj [bg [iv (-4), iv 1, iv 8, iv 1], Rg.cz (.int .i64 0)]) W)) :
  Calls Tryz.prog 28 #[] w (nk (Rg.cz (.bool true)) w) := by
 have HC := hide hc
 have HT := hide hT
 clear hc hT
 go_enter Tryz.func28, Tryz.ntmps28
 go_upto_region 1 with fail
 have hO := (Own.nil w)
 have HO := hide hO
 clear hO
 go_upto_region 1 with fail
 refine Rg.ik 4 24 (Rg.pick [bg [iv (-1), iv 1], bg [iv 2, iv 1], bg [iv (-1), iv 1, iv 2, iv 1], uf 41 zS w.heap.size]) (dw w [] w) jb [3] kr rfl (Rg.iq.pick ⟨cu _, cu _, cu _, ui _ _ _, trivial⟩) (dw.begin (aa HO))
  (ah (Kv rfl (Rg.lv _) (Rg.lv _) rfl)
  (ah (Kv rfl (Rg.lv _) (Rg.lv _) rfl)
  (ah (Ew Rp rfl (Rg.ai 0 kr) (Rg.ai 1 kr) rfl rfl rfl)
  (ah (vv Sr rfl dw.step dw.size rfl (xx (by intro j hj; simp at hj; (repeat' (first | (rcases hj with rfl | hj))) <;> first | (subst hj; exact ⟨_, _, _, rfl⟩) | exact ⟨_, _, _, rfl⟩)))
  Rg.fq)))) ?_
 intro v1 V1 hG1 hv1 hne1
 simp only [Rg.puts, ko, kg, jy, jw, Act.put, jr, jq, jo]
 obtain ⟨Xw, e3, afy, hz3⟩ := (show uf 41 zS w.heap.size V1 (v1 3) from hv1 3 (by decide))
 simp only [e3]
 have hO := hG1.1
 replace hO := Own.add (aa HO) hG1.2 afy hz3
 clear afy hz3
 refine nz hO 0 [] zS [iv (-1), iv 1, iv 2, iv 1] [] rfl vo rfl (show bg [iv (-1), iv 1, iv 2, iv 1] V1 (v1 2) from hv1 2 (by decide)) rfl rfl rfl ?_
 intro zt ji hk0
 replace hO := ji
 clear ji
 clear HO
 have HO := hide hO
 clear hO hG1 hv1 hne1 hk0
 try clear e3
 go_upto_region 2 with fail
 refine Rg.ik 9 24 (Rg.pick [bg [iv (-1), iv 1, iv 2, iv 1], bg [iv 3, iv 1], bg [iv 4, iv 1], bg [iv 3, iv 1, iv 4, iv 1], qj [bg [iv (-4), iv 1, iv 8, iv 1], Rg.cz (.int .i64 0)], qj [bg [iv (-4), iv 1, iv 8, iv 1], Rg.cz (.int .i64 0)], bg [iv (-4), iv 1, iv 8, iv 1], Rg.cz (.int .i64 0), uf 41 zS zt.heap.size]) (dw w [(Xw, 41, [iv (-1), iv 1, iv 2, iv 1])] zt) jb [8] kr rfl (Rg.iq.pick ⟨cu _, cu _, cu _, cu _, nu ⟨(cu _), (Rg.ag _), trivial⟩, nu ⟨(cu _), (Rg.ag _), trivial⟩, cu _, Rg.ag _, ui _ _ _, trivial⟩) (dw.begin (aa HO))
  (ah (je qi me0 (Rg.gm kr rfl) [] [iv (-1), iv 1, iv 2, iv 1] [])
  (ah (Kv rfl (Rg.lv _) (Rg.lv _) rfl)
  (ah (Kv rfl (Rg.lv _) (Rg.lv _) rfl)
  (ah (Ew Rp rfl (Rg.ai 1 kr) (Rg.ai 2 kr) rfl rfl rfl)
  (ah (aym Tryz.func83 kr rfl dw.step (Rg.ai 0 kr) (Rg.ai 3 kr) (Rg.lv _) (fun W v0 v1 v2 hG h0 h1 h2 => by cases h2; exact aa HC W v0 v1 ((aa HT).below hG.bel) h0 h1))
  (ah (il rfl (Rg.ai 4 kr))
  (ah (oo (ts := [bg [iv (-4), iv 1, iv 8, iv 1], Rg.cz (.int .i64 0)]) rfl (Rg.ai 5 kr) (of_decide_eq_true rfl) rfl)
  (ah (oo (ts := [bg [iv (-4), iv 1, iv 8, iv 1], Rg.cz (.int .i64 0)]) rfl (Rg.ai 5 kr) (of_decide_eq_true rfl) rfl)
  (ah (vv Sr rfl dw.step dw.size rfl (xx (by intro j hj; simp at hj; (repeat' (first | (rcases hj with rfl | hj))) <;> first | (subst hj; exact ⟨_, _, _, rfl⟩) | exact ⟨_, _, _, rfl⟩)))
  Rg.fq))))))))) ?_
 intro v2 V2 hG2 hv2 hne2
 simp only [Rg.puts, ko, kg, jy, jw, Act.put, jr, jq, jo]
 have e7 : v2 7 = .int .i64 0 := hv2 7 (by decide)
 obtain ⟨Xu, e8, Vb, hz8⟩ := (show uf 41 zS zt.heap.size V2 (v2 8) from hv2 8 (by decide))
 simp only [e7, e8]
 have hO := hG2.1
 replace hO := Own.add (aa HO) hG2.2 Vb hz8
 clear Vb hz8
 refine nz hO 0 [] zS [iv (-4), iv 1, iv 8, iv 1] [] rfl vo rfl (show bg [iv (-4), iv 1, iv 8, iv 1] V2 (v2 6) from hv2 6 (by decide)) rfl rfl rfl ?_
 intro Dh ji hk0
 replace hO := ji
 clear ji
 clear HO
 have HO := hide hO
 clear hO hG2 hv2 hne2 hk0
 try clear e7 e8
 go_upto_region 3 with fail
 refine Rg.ik 10 24 (Rg.pick [bg [iv (-4), iv 1, iv 8, iv 1], bg [iv (-4), iv 1], bg [iv 8, iv 1], bg [iv (-4), iv 1, iv 8, iv 1], Rg.cz (.bool true), Rg.cz (.bool true), Rg.cz (.int .i64 0), Rg.cz (.bool true), Rg.cz (.bool true), Rg.cz (.bool true)]) (dw w [(Xu, 41, [iv (-4), iv 1, iv 8, iv 1]), (Xw, 41, [iv (-1), iv 1, iv 2, iv 1])] Dh) jb [] kr rfl (Rg.iq.pick ⟨cu _, cu _, cu _, cu _, Rg.ag _, Rg.ag _, Rg.ag _, Rg.ag _, Rg.ag _, Rg.ag _, trivial⟩) (dw.begin (aa HO))
  (ah (je qi me0 (Rg.gm kr rfl) [] [iv (-4), iv 1, iv 8, iv 1] [])
  (ah (Kv rfl (Rg.lv _) (Rg.lv _) rfl)
  (ah (Kv rfl (Rg.lv _) (Rg.lv _) rfl)
  (ah (Ew Rp rfl (Rg.ai 1 kr) (Rg.ai 2 kr) rfl rfl rfl)
  (ah (bao rfl (Rg.ai 0 kr) (Rg.ai 3 kr) rfl rfl)
  (ah (il rfl (Rg.ai 4 kr))
  (Rg.dz (Rg.iy (d := 20) rfl kr rfl (il rfl (Rg.gm kr rfl)))
  (Rg.dz (Rg.iy (d := 20) rfl kr rfl (He rfl (Rg.ai 6 kr) (Rg.lv _) rfl rfl))
  (ah (xw rfl (Rg.ai 5 kr) (Rg.ai 7 kr))
  (ah (ma rfl (Rg.ai 8 kr))
  Rg.fq)))))))))) ?_
 intro v3 V3 hG3 hv3 si
 simp only [Rg.puts, ko, kg, jy, jw, Act.put, jr, jq, jo]
 have e8 : v3 8 = .bool true := hv3 8 (by decide)
 have e9 : v3 9 = .bool true := hv3 9 (by decide)
 simp only [e8, e9]
 have hO := hG3.1
 clear HO
 have HO := hide hO
 clear hO hG3 hv3 si
 try clear e8 e9
 go_wp2_with fail
 exact Cw Tryz.results28 rfl (aa HO).bel rfl
def auf (s t : Sp) (g : Int) : Gi :=
 if Ej (su [s, t]) g = 0 then
  gu (qf (fe (Wd.qR s.a s.b * Wd.qR t.a t.b) [Wd.qR s.a s.b * Wd.qR t.c t.d, Wd.qR s.c s.d * Wd.qR t.a t.b, Wd.qR s.c s.d * Wd.qR t.c t.d]) g)
   (xq (eu (Wd.qR s.a s.b * Wd.qR t.a t.b) [Wd.qR s.a s.b * Wd.qR t.c t.d, Wd.qR s.c s.d * Wd.qR t.a t.b, Wd.qR s.c s.d * Wd.qR t.c t.d]) g)
 else ⟨0, 0, 0, 0, Ej (su [s, t]) g⟩
theorem bcw {ss : List Sp} {g : Int} (h : Ej (su ss) g = 0) : (∀ s ∈ ss, Qo s) ∧ 1 ≤ g ∧ g ≤ 1000000 := by
 unfold Ej at h
 by_cases hs : ∀ s ∈ ss, Qo s
 ·
  have e : su ss = 0 := if_pos hs
  rw [e] at h
  by_cases hg : g < 1 ∨ 1000000 < g
  ·
   rw [if_pos ⟨rfl, hg⟩] at h; omega
  ·
   exact ⟨hs, by omega, by omega⟩
 ·
  have e : su ss = 1 := if_neg hs
  rw [e, if_neg (fun k => absurd k.1 (by decide))] at h
  omega
theorem bdh {bf az ay ax dm di dh df : Int} {g : Int} (w : World) (hT : xg w) (u0 : Value) (h0 : bg [iv bf, iv az, iv ay, iv ax] w u0) (u1 : Value) (h1 : bg [iv dm, iv di, iv dh, iv df] w u1) : Calls Tryz.prog 83 #[u0, u1, .int .i64 g] w (nk (Uf (auf ⟨bf, az, ay, ax⟩ ⟨dm, di, dh, df⟩ g)) w) :=
 aue _ w hT u0 h0 u1 h1 (fun W v0 v1 hT h0 h1 => ame _ W hT v0 h0 v1 h1 (fun h => by
  obtain ⟨h1, h2, h3⟩ := bcw h
  exact ⟨h1 ⟨bf, az, ay, ax⟩ (by simp), h1 ⟨dm, di, dh, df⟩ (by simp), h2, h3⟩) (by
  unfold auf
  exact ⟨fun h => if_neg h, fun h => if_pos h⟩))
def Zq (s t : Sp) : Gi :=
 if su [s, t] = 0 then gu (fe (Wd.qR s.a s.b) [Wd.qR s.c s.d, Wd.qR t.a t.b, Wd.qR t.c t.d]) (eu (Wd.qR s.a s.b) [Wd.qR s.c s.d, Wd.qR t.a t.b, Wd.qR t.c t.d])
 else ⟨0, 0, 0, 0, su [s, t]⟩
theorem bdm {bf az ay ax dm di dh df : Int} (w : World) (hT : xg w) (u0 : Value) (h0 : bg [iv bf, iv az, iv ay, iv ax] w u0) (u1 : Value) (h1 : bg [iv dm, iv di, iv dh, iv df] w u1) : Calls Tryz.prog 39 #[u0, u1] w (nk (Uf (Zq ⟨bf, az, ay, ax⟩ ⟨dm, di, dh, df⟩)) w) :=
 apf _ w hT u0 h0 u1 h1 (by unfold Zq; exact ⟨fun h => if_neg h, fun h => if_pos h⟩)
def adt (x y a b : Rat) : Prop := ja ((eu x [a]).num * (fe y [b]).den - (fe y [b]).num * (eu x [a]).den) ≤ 0
instance (x y a b : Rat) : Decidable (adt x y a b) := by unfold adt; infer_instance
def Jv (s t : Sp) : Gi :=
 if su [s, t] = 0 then (if adt (Wd.qR s.a s.b) (Wd.qR s.c s.d) (Wd.qR t.a t.b) (Wd.qR t.c t.d) then gu (eu (Wd.qR s.a s.b) [Wd.qR t.a t.b]) (fe (Wd.qR s.c s.d) [Wd.qR t.c t.d]) else ⟨0, 0, 0, 0, 0⟩)
 else ⟨0, 0, 0, 0, su [s, t]⟩
def Yy (s t : Sp) : Bool := decide (su [s, t] = 0 ∧ adt (Wd.qR s.a s.b) (Wd.qR s.c s.d) (Wd.qR t.a t.b) (Wd.qR t.c t.d) ∧ (Jv s t).e = 0)
abbrev MeT (t : Gi) (b : Bool) : World → Value → Prop := qj [bg [.v (.int .i64 t.a), .v (.int .i64 t.b), .v (.int .i64 t.c), .v (.int .i64 t.d)], Rg.cz (.bool b), Rg.cz (.int .i64 t.e)]
theorem azp {bf az ay ax dm di dh df : Int} (w : World) (hT : xg w) (u0 : Value) (h0 : bg [iv bf, iv az, iv ay, iv ax] w u0) (u1 : Value) (h1 : bg [iv dm, iv di, iv dh, iv df] w u1) : Calls Tryz.prog 37 #[u0, u1] w (nk (MeT (Jv ⟨bf, az, ay, ax⟩ ⟨dm, di, dh, df⟩) (Yy ⟨bf, az, ay, ax⟩ ⟨dm, di, dh, df⟩)) w) := by
 refine aos _ _ w hT u0 h0 u1 h1 ⟨fun h => ?_, fun h => ⟨fun h2 => ?_, fun h2 => ?_⟩⟩
 ·
  exact ⟨if_neg h, decide_eq_false (fun hh => h hh.1)⟩
 ·
  exact ⟨by unfold Jv; rw [if_pos h]; exact if_neg h2, decide_eq_false (fun hh => h2 hh.2.1)⟩
 ·
  have e : Jv ⟨bf, az, ay, ax⟩ ⟨dm, di, dh, df⟩ = gu (eu (Wd.qR bf az) [(Wd.qR dm di)]) (fe (Wd.qR ay ax) [(Wd.qR dh df)]) := by unfold Jv; rw [if_pos h]; exact if_pos h2
  refine ⟨e, ?_⟩
  unfold Yy
  rw [e]
  by_cases k : (gu (eu (Wd.qR bf az) [(Wd.qR dm di)]) (fe (Wd.qR ay ax) [(Wd.qR dh df)])).e = 0
  ·
   rw [decide_eq_true ⟨h, h2, k⟩, k]; rfl
  ·
   rw [decide_eq_false (fun hh => k hh.2.2), beq_eq_false_iff_ne.2 k]
theorem alh (w : World) (hT : xg w) : Calls Tryz.prog 28 #[] w (nk (Rg.cz (.bool true)) w) :=
 alg w hT (fun W v0 v1 hT h0 h1 => by
  have h := bdh (g := 1) W hT v0 h0 v1 h1
  rwa [show auf ⟨-1, 1, 2, 1⟩ ⟨3, 1, 4, 1⟩ 1 = ⟨-4, 1, 8, 1, 0⟩ by decide +kernel] at h)
end Sb

end Go.Proofs.YtfbcdfoohpkfeaaGreatDoor
namespace Go.Proofs.YtfbcdfoohpkfeaaGreatDoor
open Go.RowKit

namespace Sb
theorem Nh (x y : Rat) : ja (x.num * y.den - y.num * x.den) ≤ 0 ↔ x ≤ y := by
 rw [Rat.le_iff]
 unfold ja; (repeat' split) <;> omega
theorem baw {a b c d : Int} (h : Bu a b c d) : Wd.qR a b ≤ Wd.qR c d := by
 obtain ⟨h1, h2, h3⟩ := h
 obtain ⟨e1, e2⟩ := Wd.Ni h1
 obtain ⟨e3, e4⟩ := Wd.Ni h2
 rw [Rat.le_iff, e1, e2, e3, e4]; omega
theorem bav {a b c d : Int} (h1 : Wd.wm a b) (h2 : Wd.wm c d) (h : Wd.qR a b ≤ Wd.qR c d) : Bu a b c d := by
 obtain ⟨e1, e2⟩ := Wd.Ni h1
 obtain ⟨e3, e4⟩ := Wd.Ni h2
 rw [Rat.le_iff, e1, e2, e3, e4] at h
 exact ⟨h1, h2, by omega⟩
theorem agm {s t : Sp} (h1 : Qo s) (h2 : Qo t) : su [s, t] = 0 := if_pos (by
 intro u hu
 simp only [List.mem_cons, List.not_mem_nil, or_false] at hu
 rcases hu with rfl | rfl
 ·
  exact h1
 ·
  exact h2)
end Sb

end Go.Proofs.YtfbcdfoohpkfeaaGreatDoor
namespace Go.Proofs.YtfbcdfoohpkfeaaGreatDoor
open Go.RowKit

def Ie (q : Rat) : World → Value → Prop := fun W v => ∃ A1 c1 l1 m1 A2 c2 l2 m2, v = (Value.agg #[.slice A1 (List.length l1) c1, .bool m1, .slice A2 (List.length l2) c2, .bool m2]) ∧ QV W A1 c1 l1 m1 A2 c2 l2 m2 q
theorem ail (q : Rat) : Rg.Gj jb (Ie q) := by
 rintro w w' v hb ⟨A1, c1, l1, m1, A2, c2, l2, m2, rfl, h⟩
 exact ⟨_, _, _, _, _, _, _, _, rfl, h.below hb⟩
theorem Gx.lt {W : World} {b : Nat} {q : Rat} (h : Gx W b q) : b < W.heap.size := by
 obtain ⟨_, _, _, _, _, _, _, _, h, _⟩ := h; exact lt_of_block h
theorem anx {ρ : Operand → Value} {w : World} {d : Option Tmp} {x : Operand} {b : Nat} {u0 u1 u2 u3 : Value} {ty : TypeId} {pos : String} {af : Array Edge} {gd : Option (Nat × Bool)} (h : ρ x = .pointer (some ⟨b, 0, none⟩)) (k0 : w.cell? ⟨b, 0, none⟩ = some u0) (k1 : w.cell? ⟨b, 1, none⟩ = some u1) (k2 : w.cell? ⟨b, 2, none⟩ = some u2) (k3 : w.cell? ⟨b, 3, none⟩ = some u3) :
  (execOp ρ { dst := d, op := .load 63 x, type := ty, pos := pos, after := af, guard := gd }).run Tryz.prog w = .ok (.value (.agg #[u0, u1, u2, u3])) w := by
 simp only [execOp, h]
 simp [go_sem, k0, k1, k2, k3]
theorem ain {Q : Exit → Act → World → Prop} {l : List Oper} {n : Nat} {T : Nat → World → Value → Prop} {G : World → Prop} {al : List Nat} {a0 : Act} {k d b : Nat} {x : Operand} {q : Rat} {ty : TypeId} {pos : String} {af : Array Edge} {gd : Option (Nat × Bool)}
  (hal : al.contains k = false) (hx : Rg.ni l n T a0 k x (Rg.cz (.pointer (some ⟨b, 0, none⟩)))) (hb : ∀ W, G W → Gx W b q) (hT : T k = Ie q) :
  Rg.Step Tryz.prog Q l n T G jb al a0 k { dst := some d, op := .load 63 x, type := ty, pos := pos, after := af, guard := gd } := by
 intro a w hG hO hN
 obtain ⟨A1, c1, l1, m1, A2, c2, l2, m2, hk, hq⟩ := hb w hG
 exact uh (P := Tryz.prog) (anx (hx a w hO hN) (ae hk 0) (ae hk 1) (ae hk 2) (ae hk 3)) ⟨_, rfl, hG, Below.refl _ _, by rw [hT]; exact ⟨A1, c1, l1, m1, A2, c2, l2, m2, rfl, hq⟩, fun h => by rw [hal] at h; cases h⟩
structure Own (w : World) (bs : List (Nat × Rat)) (W : World) : Prop where
 bel : Below w.heap.size w W
 nd : (bs.map Prod.fst).Nodup
 box : ∀ b q, (b, q) ∈ bs → w.heap.size ≤ b ∧ Gx W b q
theorem Own.nil (w : World) : Own w [] w := ⟨Below.refl _ _, List.nodup_nil, fun b q h => by cases h⟩
theorem Own.step {w : World} {bs : List (Nat × Rat)} : ∀ W W', Own w bs W → jb W W' → Own w bs W' := fun W W' h hb => ⟨ek h.bel hb, h.nd, fun b q hm => ⟨(h.box b q hm).1, (h.box b q hm).2.below hb⟩⟩
theorem Own.lt {w W : World} {bs : List (Nat × Rat)} {b : Nat} {q : Rat} (h : Own w bs W) (hm : (b, q) ∈ bs) : b < W.heap.size := (h.box b q hm).2.lt
theorem Own.add {w W V : World} {bs : List (Nat × Rat)} {b : Nat} {q : Rat} (h : Own w bs V) (Vd : jb V W) (hb : V.heap.size ≤ b) (hq : Gx W b q) : Own w ((b, q) :: bs) W :=
 ⟨ek h.bel Vd, List.nodup_cons.2 ⟨fun hm => by
  obtain ⟨p, hp, he⟩ := List.mem_map.1 hm
  have := h.lt (b := p.1) (q := p.2) hp
  omega, h.nd⟩, fun b' q' hm => by
  rcases List.mem_cons.1 hm with e | hm
  ·
   cases e; exact ⟨Nat.le_trans h.bel.size hb, hq⟩
  ·
   exact ((Own.step V W h Vd).box b' q' hm)⟩
theorem Own.push {w W : World} {bs : List (Nat × Rat)} {q : Rat} {A1 : Option Addr} {c1 : Nat} {l1 : List Nat} {m1 : Bool} {A2 : Option Addr} {c2 : Nat} {l2 : List Nat} {m2 : Bool} (h : Own w bs W) (hv : QV W A1 c1 l1 m1 A2 c2 l2 m2 q) (b : Nat) (hb : b = W.heap.size) : Own w ((b, q) :: bs) (W.alloc (.cells #[.slice A1 l1.length c1, .bool m1, .slice A2 l2.length c2, .bool m2] 63)) := by
 subst hb
 exact h.add ((Below.refl _ _).alloc (Nat.le_refl _) _) (Nat.le_refl _) ⟨_, _, _, _, _, _, _, _, heap_alloc_new W _, hv.below ((Below.refl _ _).alloc (Nat.le_refl _) _)⟩
theorem Own.other {w W : World} {bs : List (Nat × Rat)} (o : Obj) (h : Own w bs W) : Own w bs (W.alloc o) := Own.step _ _ h ((Below.refl _ _).alloc (Nat.le_refl _) _)
def bih (W : World) (b : Nat) (v0 v1 v2 v3 : Value) : World := (((W.setCell ⟨b, 0, none⟩ v0).setCell ⟨b, 1, none⟩ v1).setCell ⟨b, 2, none⟩ v2).setCell ⟨b, 3, none⟩ v3
theorem Own.set {w W : World} {xs ys : List (Nat × Rat)} {b : Nat} {q0 q : Rat} {A1 : Option Addr} {c1 : Nat} {l1 : List Nat} {m1 : Bool} {A2 : Option Addr} {c2 : Nat} {l2 : List Nat} {m2 : Bool} (h : Own w (xs ++ (b, q0) :: ys) W) (hv : QV W A1 c1 l1 m1 A2 c2 l2 m2 q) :
  Own w (xs ++ (b, q) :: ys) (bih W b (.slice A1 l1.length c1) (.bool m1) (.slice A2 l2.length c2) (.bool m2)) := by
 obtain ⟨hge, hb⟩ := h.box b q0 (List.mem_append_right _ List.mem_cons_self)
 obtain ⟨A, c, l, m, A', c', l', m', h1, h2⟩ := hb
 have hg := qp W b (.slice A1 l1.length c1) (.bool m1) (.slice A2 l2.length c2) (.bool m2)
 have hnd := h.nd
 rw [List.map_append, List.map_cons] at hnd
 have hn : ∀ b' q', (b', q') ∈ xs ++ ys → b' ≠ b := fun b' q' hm e => by
  subst e
  obtain ⟨_, h4, h5⟩ := List.nodup_append.1 hnd
  rcases List.mem_append.1 hm with hm | hm
  ·
   exact h5 b' (List.mem_map.2 ⟨_, hm, rfl⟩) b' List.mem_cons_self rfl
  ·
   exact (List.nodup_cons.1 h4).1 (List.mem_map.2 ⟨_, hm, rfl⟩)
 refine ⟨h.bel.grown hg h.bel.size (fun k hk => by injection hk with hk; omega), by rw [List.map_append, List.map_cons]; exact hnd, fun b' q' hm => ?_⟩
 rcases List.mem_append.1 hm with hm | hm
 rotate_left
 rcases List.mem_cons.1 hm with e | hm
 ·
  cases e
  exact ⟨hge, ⟨_, _, _, _, _, _, _, _, akr h1, hv.upto h1 (Bb _ _ _ _ _ _ _ _) hg⟩⟩
 all_goals
  have hne := hn b' q' (by first | exact List.mem_append_right _ hm | exact List.mem_append_left _ hm)
  obtain ⟨hge', B, d, r, p, B', d', r', p', g1, g2⟩ := h.box b' q' (by first | exact List.mem_append_right _ (List.mem_cons_of_mem _ hm) | exact List.mem_append_left _ hm)
  exact ⟨hge', B, d, r, p, B', d', r', p', (hg.block b' (lt_of_block g1) (fun e => hne (by first | exact Option.some.inj e | exact (Option.some.inj e).symm))).trans g1, g2.upto h1 (Bb _ _ _ _ _ _ _ _) hg⟩
theorem Own.Xx {w W V : World} {bs : List (Nat × Rat)} {b b' : Nat} {q q' : Rat} (h : Own w bs V) (Vd : jb V W) (hb : V.heap.size ≤ b) (hq : Gx W b q) (hb' : V.heap.size ≤ b') (hq' : Gx W b' q') (hne : b' ≠ b) : Own w ((b', q') :: (b, q) :: bs) W := by
 have h1 := Own.add h Vd hb hq
 have h2 := Own.add h Vd hb' hq'
 refine ⟨h1.bel, List.nodup_cons.2 ⟨fun hm => ?_, h1.nd⟩, fun c p hm => ?_⟩
 ·
  rw [List.map_cons] at hm
  rcases List.mem_cons.1 hm with e | hm
  ·
   exact hne e
  ·
   exact (List.nodup_cons.1 h2.nd).1 hm
 ·
  rcases List.mem_cons.1 hm with e | hm
  ·
   cases e; exact h2.box _ _ List.mem_cons_self
  ·
   exact h1.box _ _ hm
def dw (w : World) (bs : List (Nat × Rat)) (V : World) : World → Prop := fun W => Own w bs W ∧ jb V W
theorem dw.step {w V : World} {bs : List (Nat × Rat)} : ∀ W W', dw w bs V W → jb W W' → dw w bs V W' := fun W W' h hb => ⟨Own.step W W' h.1 hb, ek h.2 hb⟩
theorem dw.size {w V : World} {bs : List (Nat × Rat)} : ∀ W, dw w bs V W → V.heap.size ≤ W.heap.size := fun _ h => h.2.size
theorem dw.start {w V : World} {bs : List (Nat × Rat)} (h : Own w bs V) : dw w bs V V.drew := ⟨Own.step _ _ h (jb.drew V), jb.drew V⟩
theorem dw.begin {w V : World} {bs : List (Nat × Rat)} (h : Own w bs V) : dw w bs V V := ⟨h, Below.refl _ _⟩
theorem dw.box {w V W : World} {bs : List (Nat × Rat)} {b : Nat} {q : Rat} (hm : (b, q) ∈ bs) (h : dw w bs V W) : Gx W b q := (h.1.box b q hm).2
theorem Yp {w w' : World} {q : Rat} {e : Ending} (h : QR w q e w') : nk (Ie q) w e w' := by
 obtain ⟨A1, c1, l1, m1, A2, c2, l2, m2, rfl, h1, h2, hb⟩ := h
 exact ⟨_, rfl, hb, _, _, _, _, _, _, _, _, rfl, QV.of h1 h2⟩
def Gm (z : Int) : World → Value → Prop := fun W v => ∃ A c l m, v = .agg #[.slice A (List.length l) c, .bool m] ∧ jc W A c l m z
theorem Nq (z : Int) : Rg.Gj jb (Gm z) := by
 rintro w w' v hb ⟨A, c, l, m, rfl, h⟩
 exact ⟨_, _, _, _, rfl, h.below hb⟩
theorem anz {ρ : Operand → Value} {w : World} {d : Option Tmp} {x : Operand} {b : Nat} {ty : TypeId} {pos : String} {af : Array Edge} {gd : Option (Nat × Bool)} (h : ρ x = .pointer (some ⟨b, 0, none⟩)) :
  (execOp ρ { dst := d, op := .fieldAddr 63 x 0, type := ty, pos := pos, after := af, guard := gd }).run Tryz.prog w = .ok (.value (.pointer (some ⟨b, 0, none⟩))) w := by
 simp only [execOp, h]
 simp [go_sem]
theorem aio {Q : Exit → Act → World → Prop} {l : List Oper} {n : Nat} {T : Nat → World → Value → Prop} {G : World → Prop} {al : List Nat} {a0 : Act} {k d b : Nat} {x : Operand} {ty : TypeId} {pos : String} {af : Array Edge} {gd : Option (Nat × Bool)}
  (hal : al.contains k = false) (hx : Rg.ni l n T a0 k x (Rg.cz (.pointer (some ⟨b, 0, none⟩)))) (hT : T k = Rg.cz (.pointer (some ⟨b, 0, none⟩))) :
  Rg.Step Tryz.prog Q l n T G jb al a0 k { dst := some d, op := .fieldAddr 63 x 0, type := ty, pos := pos, after := af, guard := gd } := by
 intro a w hG hO hN
 exact uh (P := Tryz.prog) (anz (hx a w hO hN)) ⟨_, rfl, hG, Below.refl _ _, by rw [hT]; rfl, fun h => by rw [hal] at h; cases h⟩
theorem anw {ρ : Operand → Value} {w : World} {d : Option Tmp} {x : Operand} {b : Nat} {u0 u1 : Value} {ty : TypeId} {pos : String} {af : Array Edge} {gd : Option (Nat × Bool)} (h : ρ x = .pointer (some ⟨b, 0, none⟩)) (k0 : w.cell? ⟨b, 0, none⟩ = some u0) (k1 : w.cell? ⟨b, 1, none⟩ = some u1) :
  (execOp ρ { dst := d, op := .load 61 x, type := ty, pos := pos, after := af, guard := gd }).run Tryz.prog w = .ok (.value (.agg #[u0, u1])) w := by
 simp only [execOp, h]
 simp [go_sem, k0, k1]
theorem aim {Q : Exit → Act → World → Prop} {l : List Oper} {n : Nat} {T : Nat → World → Value → Prop} {G : World → Prop} {al : List Nat} {a0 : Act} {k d b : Nat} {x : Operand} {q : Rat} {ty : TypeId} {pos : String} {af : Array Edge} {gd : Option (Nat × Bool)}
  (hal : al.contains k = false) (hx : Rg.ni l n T a0 k x (Rg.cz (.pointer (some ⟨b, 0, none⟩)))) (hb : ∀ W, G W → Gx W b q) (hT : T k = Gm q.num) :
  Rg.Step Tryz.prog Q l n T G jb al a0 k { dst := some d, op := .load 61 x, type := ty, pos := pos, after := af, guard := gd } := by
 intro a w hG hO hN
 obtain ⟨A1, c1, l1, m1, A2, c2, l2, m2, hk, hq⟩ := hb w hG
 exact uh (P := Tryz.prog) (anw (hx a w hO hN) (ae hk 0) (ae hk 1)) ⟨_, rfl, hG, Below.refl _ _, by rw [hT]; exact ⟨A1, c1, l1, m1, rfl, hq.num⟩, fun h => by rw [hal] at h; cases h⟩
theorem abw {w w' : World} {z : Int} {e : Ending} (h : Al w z e w') : nk (Gm z) w e w' := by
 obtain ⟨A, c, l, m, rfl, h1, hb⟩ := h
 exact ⟨_, rfl, hb, _, _, _, _, rfl, h1⟩
def bdz (w : World) (bs : List (Nat × Rat)) (r s : Nat) : World → Prop := fun W => ∃ p q, Own w ((r, p) :: (s, q) :: bs) W
theorem bdz.box {w W : World} {bs : List (Nat × Rat)} {r s b : Nat} {x : Rat} (hm : (b, x) ∈ bs) (h : bdz w bs r s W) : Gx W b x := by
 obtain ⟨p, q, h⟩ := h
 exact (h.box b x (List.mem_cons_of_mem _ (List.mem_cons_of_mem _ hm))).2
end Go.Proofs.YtfbcdfoohpkfeaaGreatDoor
namespace Go.Proofs.YtfbcdfoohpkfeaaGreatDoor
open Go.RowKit

end Go.Proofs.YtfbcdfoohpkfeaaGreatDoor
namespace Go.Proofs.YtfbcdfoohpkfeaaGreatDoor
open Go.RowKit

end Go.Proofs.YtfbcdfoohpkfeaaGreatDoor
namespace Go.Proofs.YtfbcdfoohpkfeaaGreatDoor
open Go.RowKit

end Go.Proofs.YtfbcdfoohpkfeaaGreatDoor
namespace Go.Proofs.YtfbcdfoohpkfeaaGreatDoor
open Go.RowKit

set_option maxHeartbeats 16000000 in
theorem aoj (A1 : Option Addr) (c1 : Nat) (l1 : List Nat) (m1 : Bool) (A2 : Option Addr) (c2 : Nat) (l2 : List Nat) (m2 : Bool) (z1 b1 n : Int) (p q : Rat) (w : World) (f1 : jc w A1 c1 l1 m1 z1)
  (hd1 : ∀ W, Below w.heap.size w W → Calls Tryz.prog 117 #[(Value.agg #[.slice A1 l1.length c1, .bool m1, .slice A2 l2.length c2, .bool m2])] W fun e w' => Al W b1 e w') (hn : ∀ (A7 : Option Addr) (c7 : Nat) (l7 : List Nat) (m7 : Bool) (W : World), Below w.heap.size w W → jc W A7 c7 l7 m7 z1 → Calls Tryz.prog 156 #[(Value.agg #[.slice A7 l7.length c7, .bool m7])] W fun e w' => Al W n e w') (Qq : n = q.num) (hden : b1 = (q.den : Int)) :
  Calls Tryz.prog 121 #[(Value.agg #[.slice A1 l1.length c1, .bool m1, .slice A2 l2.length c2, .bool m2])] w fun e w' => QR w q e w' := by
 have H1 := hide f1
 clear f1
 have HD1 := hide hd1
 have HN := hide hn
 clear hd1 hn
 go_enter Tryz.func121, Tryz.ntmps121
 go_upto_region 1 with fail
 obtain ⟨n0, n1, hsz, hw0⟩ := xk w (.cells #[.slice A1 l1.length c1, .bool m1, .slice A2 l2.length c2, .bool m2] 63) (.cells #[.slice none 0 0, .bool false, .slice none 0 0, .bool false] 63)
 generalize ((w.alloc (.cells #[.slice A1 l1.length c1, .bool m1, .slice A2 l2.length c2, .bool m2] 63)).alloc (.cells #[.slice none 0 0, .bool false, .slice none 0 0, .bool false] 63)) = W0 at *
 have oz : W0.cell? ⟨w.heap.size, 0, none⟩ = some (.slice A1 l1.length c1) := ae n0 0
 have ou : W0.cell? ⟨w.heap.size, 1, none⟩ = some (.bool m1) := ae n0 1
 have qh : W0.cell? ⟨w.heap.size, 2, none⟩ = some (.slice A2 l2.length c2) := ae n0 2
 have qz : W0.cell? ⟨w.heap.size, 3, none⟩ = some (.bool m2) := ae n0 3
 have q0 : w.heap.size < W0.heap.size := by omega
 have qb : W0.cell? ⟨w.heap.size + 1, 0, none⟩ = some (.slice none 0 0) := ae n1 0
 have qa : W0.cell? ⟨w.heap.size + 1, 1, none⟩ = some (.bool false) := ae n1 1
 have rz : W0.cell? ⟨w.heap.size + 1, 2, none⟩ = some (.slice none 0 0) := ae n1 2
 have uj : W0.cell? ⟨w.heap.size + 1, 3, none⟩ = some (.bool false) := ae n1 3
 have q1 : w.heap.size + 1 < W0.heap.size := by omega
 have Ms := bz n1 0
 have Mr := bz n1 1
 have agl := bz n1 2
 have agk := bz n1 3
 have NR := Lib.hid n1
 clear hsz n0 n1
 replace H1 := hide ((aa H1).below hw0)
 go_upto_region 1 with fail
 have KEEP := hide (show ∀ X, Below W0.heap.size W0 X → X.cell? ⟨w.heap.size, 0, none⟩ = some (.slice A1 l1.length c1) ∧ X.cell? ⟨w.heap.size, 1, none⟩ = some (.bool m1) ∧ X.cell? ⟨w.heap.size, 2, none⟩ = some (.slice A2 l2.length c2) ∧ X.cell? ⟨w.heap.size, 3, none⟩ = some (.bool m2) from fun X hB => ⟨au hB q0 oz, au hB q0 ou, au hB q0 qh, au hB q0 qz⟩)
 go_region_held3 (fun w' => w'.cell? ⟨w.heap.size, 0, none⟩ = some (.slice A1 l1.length c1) ∧ w'.cell? ⟨w.heap.size, 1, none⟩ = some (.bool m1) ∧ w'.cell? ⟨w.heap.size, 2, none⟩ = some (.slice A2 l2.length c2) ∧ w'.cell? ⟨w.heap.size, 3, none⟩ = some (.bool m2)) (first | with_reducible exact ⟨(mr _ _ _ _ _ _ om).trans (au hbw q0 oz), (mr _ _ _ _ _ _ om).trans (au hbw q0 ou), (mr _ _ _ _ _ _ om).trans (au hbw q0 qh), (mr _ _ _ _ _ _ om).trans (au hbw q0 qz)⟩ | with_reducible exact (aa KEEP) _ bel) (first | (go_at_call_of 156 (Value.agg #[.slice A1 l1.length c1, .bool m1]); refine ((aa HN) A1 c1 l1 m1 _ (ek hw0 bel) (jc.below (aa H1) bel)).mono ?_; rintro e w' ⟨A8, c8, l8, m8, rfl, Ep, Ud⟩; have hbw := fo (w := W0) bel Ud; have hsw := hbw.size; obtain ⟨hc, hfz⟩ := gp hbw) | (go_at_call_of 117 (Value.agg #[.slice A1 l1.length c1, .bool m1, .slice A2 l2.length c2, .bool m2]); refine ((aa HD1) _ (ek hw0 bel)).mono ?_; rintro e w' ⟨A5, c5, l5, m5, rfl, tq, hb5⟩; have Ep := jc.below (jc.below Ep bel) hb5; have hbw := fo (w := W0) bel hb5; have hsw := hbw.size; obtain ⟨hc, hfz⟩ := gp hbw))
 all_goals
  have hblk : w'.heap[w.heap.size + 1]? = some (.cells #[.slice none 0 0, .bool false, .slice none 0 0, .bool false] 63 (0, 0)) := (hbw.block _ q1).trans NR.out
  have mo := Lib.hid hblk
  have ky : Below w.heap.size w w' := ek hw0 hbw
  have hfi := (Ep)
  have hfj := (tq)
  clear hblk
  go_wp2_with fail
  exact bodyPost_ret (v := (Value.agg #[.slice A8 l8.length c8, .bool m8, .slice A5 l5.length c5, .bool m5])) (by simp [results, Tryz.results121, go_sem, hc, qb, qa, rz, uj, q1]) rfl
   ⟨A8, c8, l8, m8, A5, c5, l5, m5, rfl, Qq ▸ hfi.upto mo.out (Bb _ _ _ _ _ _ _ _) (qp _ _ _ _ _ _), hden ▸ hfj.upto mo.out (Bb _ _ _ _ _ _ _ _) (qp _ _ _ _ _ _), ky.grown (qp _ _ _ _ _ _) ky.size (fun k hk => by injection hk with hk; omega)⟩

end Go.Proofs.YtfbcdfoohpkfeaaGreatDoor
namespace Go.Proofs.YtfbcdfoohpkfeaaGreatDoor
open Go.RowKit

namespace Wd
theorem awu (x y : Rat) : x * y = Rat.divInt (x.num * y.num) ((x.den : Int) * (y.den : Int)) := by
 conv => lhs; rw [← Rat.num_divInt_den x, ← Rat.num_divInt_den y]
 exact Rat.divInt_mul_divInt _ _
theorem adx (n : Int) : (Rat.divInt n 1).num = n ∧ (Rat.divInt n 1).den = 1 := by
 have h : Rat.divInt n 1 = (n : Rat) := by
  rw [← Rat.num_divInt_den (n : Rat)]; rfl
 rw [h]
 exact ⟨rfl, rfl⟩
theorem awv {x y : Rat} (hx : (x.den : Int) = 1) (hy : (y.den : Int) = 1) : x.num * y.num = (x * y).num ∧ (x.den : Int) = ((x * y).den : Int) := by
 have h : x * y = Rat.divInt (x.num * y.num) 1 := by
  rw [awu, hx, hy]; simp
 rw [h, (adx _).1, (adx _).2]; exact ⟨rfl, hx⟩
def Dc (B K : Nat) (q : Rat) : Prop := Sz B K q.num ∧ Sz B K (q.den : Int)
end Wd

theorem aop {w : World} {a b c : Int} {K L : Nat} (ha : Wd.Sz ic K a) (hb : Wd.Sz ic L b) (hK : K + L ≤ 35184372088832) (e : c = a * b) : abr w 120 a b c := by
 subst e
 exact fun A1 c1 l1 m1 A2 c2 l2 m2 W _ f g => aeg A1 c1 l1 m1 a A2 c2 l2 m2 b W f g (by have := f.len ha; have := g.len hb; omega)
theorem atx {w : World} {a b : Int} {q : Rat} {K : Nat} (ha : Wd.Sz ic K a) (hb : Wd.Sz ic K b) (h0 : b ≠ 0) (hK : K + 1 ≤ 35184372088832) (e : q = Rat.divInt a b) : awf w 115 a b q := by
 subst e
 exact fun A1 c1 l1 m1 A2 c2 l2 m2 W _ f g => Yl A1 c1 l1 m1 a A2 c2 l2 m2 b K W f g h0 ha hb hK
theorem Yu {w : World} {b : Int} {o : Bool} (h : o = decide (b = 1)) : ∀ (A7 : Option Addr) (c7 : Nat) (l7 : List Nat) (m7 : Bool) (W : World), Below w.heap.size w W → jc W A7 c7 l7 m7 b → Calls Tryz.prog 118 #[(Value.agg #[.slice A7 l7.length c7, .bool m7])] W fun e w' => e = .returned (.bool o) ∧ Below W.heap.size W w' := by
 subst h
 exact fun A c l m W _ f => Yn A c l m b W f

theorem anb (A1 : Option Addr) (c1 : Nat) (l1 : List Nat) (m1 : Bool) (A2 : Option Addr) (c2 : Nat) (l2 : List Nat) (m2 : Bool) (x : Rat) (w : World) (h1 : QV w A1 c1 l1 m1 A2 c2 l2 m2 x) :
  Calls Tryz.prog 121 #[.agg #[.slice A1 l1.length c1, .bool m1, .slice A2 l2.length c2, .bool m2]] w fun e w' => QR w (-x) e w' :=
 aoj A1 c1 l1 m1 A2 c2 l2 m2 x.num (x.den : Int) (-x.num) x (-x) w h1.num (fun W hW => Jg A1 c1 l1 m1 A2 c2 l2 m2 x W (h1.below hW)) (fun A c l m W _ f => Ww A c l m x.num W f) rfl rfl
end Go.Proofs.YtfbcdfoohpkfeaaGreatDoor
namespace Go.Proofs.YtfbcdfoohpkfeaaGreatDoor
open Go.RowKit

set_option maxHeartbeats 16000000 in
theorem ayy (A1 : Option Addr) (c1 : Nat) (l1 : List Nat) (m1 : Bool) (A2 : Option Addr) (c2 : Nat) (l2 : List Nat) (m2 : Bool) (A3 : Option Addr) (c3 : Nat) (l3 : List Nat) (m3 : Bool) (A4 : Option Addr) (c4 : Nat) (l4 : List Nat) (m4 : Bool) (z1 b1 z3 b3 n : Int) (q : Rat) (w : World) (f1 : jc w A1 c1 l1 m1 z1) (f3 : jc w A3 c3 l3 m3 z3)
  (hd1 : ∀ W, Below w.heap.size w W → Calls Tryz.prog 117 #[(Value.agg #[.slice A1 l1.length c1, .bool m1, .slice A2 l2.length c2, .bool m2])] W fun e w' => Al W b1 e w') (hd3 : ∀ W, Below w.heap.size w W → Calls Tryz.prog 117 #[(Value.agg #[.slice A3 l3.length c3, .bool m3, .slice A4 l4.length c4, .bool m4])] W fun e w' => Al W b3 e w')
  (ho1 : ∀ (A7 : Option Addr) (c7 : Nat) (l7 : List Nat) (m7 : Bool) (W : World), Below w.heap.size w W → jc W A7 c7 l7 m7 b1 → Calls Tryz.prog 118 #[(Value.agg #[.slice A7 l7.length c7, .bool m7])] W fun e w' => e = .returned (.bool true) ∧ Below W.heap.size W w') (ho3 : ∀ (A7 : Option Addr) (c7 : Nat) (l7 : List Nat) (m7 : Bool) (W : World), Below w.heap.size w W → jc W A7 c7 l7 m7 b3 → Calls Tryz.prog 118 #[(Value.agg #[.slice A7 l7.length c7, .bool m7])] W fun e w' => e = .returned (.bool true) ∧ Below W.heap.size W w') (hn : abr w 120 z1 z3 n) (Qq : n = q.num) (hden : b1 = (q.den : Int)) :
  Calls Tryz.prog 52 #[(Value.agg #[.slice A1 l1.length c1, .bool m1, .slice A2 l2.length c2, .bool m2]), (Value.agg #[.slice A3 l3.length c3, .bool m3, .slice A4 l4.length c4, .bool m4])] w fun e w' => QR w q e w' := by
 have H1 := hide f1
 have H3 := hide f3
 clear f1 f3
 have HD1 := hide hd1
 have HD3 := hide hd3
 have HO1 := hide ho1
 have HO3 := hide ho3
 have HN := hide hn
 clear hd1 hd3 ho1 ho3 hn
 go_enter Tryz.func52, Tryz.ntmps52
 go_upto_region 1 with fail
 obtain ⟨n0, n1, n2, hsz, hw0⟩ := qg w (.cells #[.slice A1 l1.length c1, .bool m1, .slice A2 l2.length c2, .bool m2] 63) (.cells #[.slice A3 l3.length c3, .bool m3, .slice A4 l4.length c4, .bool m4] 63) (.cells #[.slice none 0 0, .bool false, .slice none 0 0, .bool false] 63)
 generalize (((w.alloc (.cells #[.slice A1 l1.length c1, .bool m1, .slice A2 l2.length c2, .bool m2] 63)).alloc (.cells #[.slice A3 l3.length c3, .bool m3, .slice A4 l4.length c4, .bool m4] 63)).alloc (.cells #[.slice none 0 0, .bool false, .slice none 0 0, .bool false] 63)) = W0 at *
 have oz : W0.cell? ⟨w.heap.size, 0, none⟩ = some (.slice A1 l1.length c1) := ae n0 0
 have ou : W0.cell? ⟨w.heap.size, 1, none⟩ = some (.bool m1) := ae n0 1
 have qh : W0.cell? ⟨w.heap.size, 2, none⟩ = some (.slice A2 l2.length c2) := ae n0 2
 have qz : W0.cell? ⟨w.heap.size, 3, none⟩ = some (.bool m2) := ae n0 3
 have q0 : w.heap.size < W0.heap.size := by omega
 have qb : W0.cell? ⟨w.heap.size + 1, 0, none⟩ = some (.slice A3 l3.length c3) := ae n1 0
 have qa : W0.cell? ⟨w.heap.size + 1, 1, none⟩ = some (.bool m3) := ae n1 1
 have rz : W0.cell? ⟨w.heap.size + 1, 2, none⟩ = some (.slice A4 l4.length c4) := ae n1 2
 have uj : W0.cell? ⟨w.heap.size + 1, 3, none⟩ = some (.bool m4) := ae n1 3
 have q1 : w.heap.size + 1 < W0.heap.size := by omega
 have za : W0.cell? ⟨w.heap.size + 1 + 1, 0, none⟩ = some (.slice none 0 0) := ae n2 0
 have yz : W0.cell? ⟨w.heap.size + 1 + 1, 1, none⟩ = some (.bool false) := ae n2 1
 have yx : W0.cell? ⟨w.heap.size + 1 + 1, 2, none⟩ = some (.slice none 0 0) := ae n2 2
 have yw : W0.cell? ⟨w.heap.size + 1 + 1, 3, none⟩ = some (.bool false) := ae n2 3
 have q2 : w.heap.size + 1 + 1 < W0.heap.size := by omega
 have Ae := bz n2 0
 have Ad := bz n2 1
 have Ac := bz n2 2
 have zz := bz n2 3
 have NR := Lib.hid n2
 clear hsz n0 n1 n2
 replace H1 := hide ((aa H1).below hw0)
 replace H3 := hide ((aa H3).below hw0)
 go_upto_region 1 with fail
 go_cut [5, 6] (fun Qv Yo wx => ∃ b5 b6 : Nat, Qv = .pointer (some ⟨b5, 0, none⟩) ∧ Yo = .pointer (some ⟨b6, 0, none⟩) ∧ zw wx b5 b1 ∧ zw wx b6 b3 ∧ Below W0.heap.size W0 wx ∧ W0.heap.size ≤ b5 ∧ W0.heap.size ≤ b6)
 case first =>
  have KEEP := hide (show ∀ X, Below W0.heap.size W0 X → X.cell? ⟨w.heap.size, 0, none⟩ = some (.slice A1 l1.length c1) ∧ X.cell? ⟨w.heap.size, 1, none⟩ = some (.bool m1) ∧ X.cell? ⟨w.heap.size, 2, none⟩ = some (.slice A2 l2.length c2) ∧ X.cell? ⟨w.heap.size, 3, none⟩ = some (.bool m2) ∧ X.cell? ⟨w.heap.size + 1, 0, none⟩ = some (.slice A3 l3.length c3) ∧ X.cell? ⟨w.heap.size + 1, 1, none⟩ = some (.bool m3) ∧ X.cell? ⟨w.heap.size + 1, 2, none⟩ = some (.slice A4 l4.length c4) ∧ X.cell? ⟨w.heap.size + 1, 3, none⟩ = some (.bool m4) from fun X hB => ⟨au hB q0 oz, au hB q0 ou, au hB q0 qh, au hB q0 qz, au hB q1 qb, au hB q1 qa, au hB q1 rz, au hB q1 uj⟩)
  go_region_held3 (fun w' => w'.cell? ⟨w.heap.size, 0, none⟩ = some (.slice A1 l1.length c1) ∧ w'.cell? ⟨w.heap.size, 1, none⟩ = some (.bool m1) ∧ w'.cell? ⟨w.heap.size, 2, none⟩ = some (.slice A2 l2.length c2) ∧ w'.cell? ⟨w.heap.size, 3, none⟩ = some (.bool m2) ∧ w'.cell? ⟨w.heap.size + 1, 0, none⟩ = some (.slice A3 l3.length c3) ∧ w'.cell? ⟨w.heap.size + 1, 1, none⟩ = some (.bool m3) ∧ w'.cell? ⟨w.heap.size + 1, 2, none⟩ = some (.slice A4 l4.length c4) ∧ w'.cell? ⟨w.heap.size + 1, 3, none⟩ = some (.bool m4)) (exact (aa KEEP) _ (by (repeat (first | with_reducible exact Below.refl _ _ | with_reducible assumption | with_reducible refine Below.drew ?_ | with_reducible refine jk ?_ _ | (with_reducible refine Jm ?_ ?_ _ _; rotate_left; (first | omega | (simp <;> omega))))))) (first | (go_at_call_of 117 (Value.agg #[.slice A1 l1.length c1, .bool m1, .slice A2 l2.length c2, .bool m2]); refine ((aa HD1) _ (ek hw0 bel)).mono ?_; rintro e w' ⟨A5, c5, l5, m5, rfl, tq, hb5⟩; have hbw := fo (w := W0) bel hb5; have hsw := hbw.size; obtain ⟨hc, hfz⟩ := gp hbw; (try ((first | have Cy : jm W0 w' _ := jm.below (jm.new bel rfl) hb5 | have Cy : jm W0 w' _ := jm.below (jm.drew (jm.new bel rfl)) hb5); (try simp only [World.size_alloc] at Cy); (try dsimp only [World.drew] at Cy); (try simp only [World.size_alloc] at Cy); obtain ⟨⟨asv, asu⟩, ⟨ast, ass⟩, ⟨asr, asq⟩, ⟨aso, asn⟩, asl, akl⟩ := jm.facts Cy)); (try ((first | have Cx : jm W0 w' _ := jm.below (jm.alloc (jm.new bel rfl)) hb5 | have Cx : jm W0 w' _ := jm.below (jm.drew (jm.alloc (jm.new bel rfl))) hb5); (try simp only [World.size_alloc] at Cx); (try dsimp only [World.drew] at Cx); (try simp only [World.size_alloc] at Cx); obtain ⟨⟨asj, asi⟩, ⟨ash, asg⟩, ⟨asf, ase⟩, ⟨asc, asb⟩, asa, akk⟩ := jm.facts Cx))) | (go_at_call_of 117 (Value.agg #[.slice A3 l3.length c3, .bool m3, .slice A4 l4.length c4, .bool m4]); refine ((aa HD3) _ (ek hw0 bel)).mono ?_; rintro e w' ⟨A6, c6, l6, m6, rfl, xm, hb6⟩; have tq := jc.below (jc.below tq bel) hb6; have hbw := fo (w := W0) bel hb6; have hsw := hbw.size; obtain ⟨hc, hfz⟩ := gp hbw; (try ((first | have Dn : jm W0 w' _ := jm.below (jm.new bel rfl) hb6 | have Dn : jm W0 w' _ := jm.below (jm.drew (jm.new bel rfl)) hb6); (try simp only [World.size_alloc] at Dn); (try dsimp only [World.drew] at Dn); (try simp only [World.size_alloc] at Dn); obtain ⟨⟨akj, aki⟩, ⟨akh, akg⟩, ⟨akf, ake⟩, ⟨akd, akc⟩, akb, adr⟩ := jm.facts Dn)); (try ((first | have Dm : jm W0 w' _ := jm.below (jm.alloc (jm.new bel rfl)) hb6 | have Dm : jm W0 w' _ := jm.below (jm.drew (jm.alloc (jm.new bel rfl))) hb6); (try simp only [World.size_alloc] at Dm); (try dsimp only [World.drew] at Dm); (try simp only [World.size_alloc] at Dm); obtain ⟨⟨aka, ajz⟩, ⟨ajy, ajx⟩, ⟨ajw, ajv⟩, ⟨aju, ajt⟩, ajs, adq⟩ := jm.facts Dm)); (try ((first | have Fh : jm W0 w' _ := jm.below Cy hb6 | have Fh : jm W0 w' _ := jm.below (jm.alloc Cy) hb6 | have Fh : jm W0 w' _ := jm.below (jm.alloc (jm.alloc Cy)) hb6); (try simp only [World.size_alloc] at Fh); (try dsimp only [World.drew] at Fh); (try simp only [World.size_alloc] at Fh); obtain ⟨⟨arz, ary⟩, ⟨arx, arw⟩, ⟨arv, aru⟩, ⟨art, ars⟩, arq, ajr⟩ := jm.facts Fh)); (try ((first | have Fg : jm W0 w' _ := jm.below Cx hb6 | have Fg : jm W0 w' _ := jm.below (jm.alloc Cx) hb6 | have Fg : jm W0 w' _ := jm.below (jm.alloc (jm.alloc Cx)) hb6); (try simp only [World.size_alloc] at Fg); (try dsimp only [World.drew] at Fg); (try simp only [World.size_alloc] at Fg); obtain ⟨⟨arp, aro⟩, ⟨arn, arl⟩, ⟨ark, arj⟩, ⟨ari, arh⟩, arf, ajq⟩ := jm.facts Fg))))
  all_goals (go_wp2_with fail; go_meet; refine ⟨_, _, rfl, rfl, ?_⟩; first | with_reducible exact Gd ⟨by assumption, by assumption, by first | assumption | omega⟩ tq xm hbw | with_reducible exact Gd (Pb.Xe (by assumption) rfl) tq.alloc xm.alloc (jk hbw _) | with_reducible exact Gd (Pb.Xf (by assumption) rfl) tq.alloc xm.alloc (jk hbw _) | with_reducible exact Vt tq xm hbw rfl rfl | with_reducible exact aal tq xm hbw rfl rfl | with_reducible exact aak (by assumption) tq xm hbw rfl)
 case rest =>
  revert hcut
  generalize wc = W1
  intro hcut
  obtain ⟨b5, b6, rfl, rfl, B5, B6, hbx, Km, Pq⟩ := hcut
  obtain ⟨hc, hfz⟩ := gp hbx
  replace oz := (hc _ _ q0).trans oz
  replace ou := (hc _ _ q0).trans ou
  replace qh := (hc _ _ q0).trans qh
  replace qz := (hc _ _ q0).trans qz
  replace q0 := Nat.lt_of_lt_of_le q0 hbx.size
  replace qb := (hc _ _ q1).trans qb
  replace qa := (hc _ _ q1).trans qa
  replace rz := (hc _ _ q1).trans rz
  replace uj := (hc _ _ q1).trans uj
  replace q1 := Nat.lt_of_lt_of_le q1 hbx.size
  replace Km : w.heap.size + 1 + 1 < b5 := Nat.lt_of_lt_of_le q2 Km
  replace Pq : w.heap.size + 1 + 1 < b6 := Nat.lt_of_lt_of_le q2 Pq
  replace za := (hc _ _ q2).trans za
  replace Ae := (hfz _ _ q2).trans Ae
  replace yz := (hc _ _ q2).trans yz
  replace Ad := (hfz _ _ q2).trans Ad
  replace yx := (hc _ _ q2).trans yx
  replace Ac := (hfz _ _ q2).trans Ac
  replace yw := (hc _ _ q2).trans yw
  replace zz := (hfz _ _ q2).trans zz
  replace NR := Lib.hid ((hbx.block _ q2).trans NR.out)
  replace q2 := Nat.lt_of_lt_of_le q2 hbx.size
  replace hw0 := ek hw0 hbx
  replace H1 := hide ((aa H1).below hbx)
  replace H3 := hide ((aa H3).below hbx)
  obtain ⟨A5, c5, l5, m5, n5, H5⟩ := B5
  have Ai : W1.cell? ⟨b5, 0, none⟩ = some (.slice A5 l5.length c5) := ae n5 0
  have Ah : W1.cell? ⟨b5, 1, none⟩ = some (.bool m5) := ae n5 1
  have yh := lt_of_block n5
  replace H5 := hide H5
  clear n5
  obtain ⟨A6, c6, l6, m6, n6, H6⟩ := B6
  have Ag : W1.cell? ⟨b6, 0, none⟩ = some (.slice A6 l6.length c6) := ae n6 0
  have Af : W1.cell? ⟨b6, 1, none⟩ = some (.bool m6) := ae n6 1
  have yg := lt_of_block n6
  replace H6 := hide H6
  clear n6
  clear hbx hc hfz
  go_wp2_with fail
  refine ((aa HO1) A5 c5 l5 m5 _ hw0 (aa H5)).mono ?_
  rintro e W2 ⟨rfl, hbx⟩
  obtain ⟨hc, hfz⟩ := gp hbx
  replace oz := (hc _ _ q0).trans oz
  replace ou := (hc _ _ q0).trans ou
  replace qh := (hc _ _ q0).trans qh
  replace qz := (hc _ _ q0).trans qz
  replace q0 := Nat.lt_of_lt_of_le q0 hbx.size
  replace qb := (hc _ _ q1).trans qb
  replace qa := (hc _ _ q1).trans qa
  replace rz := (hc _ _ q1).trans rz
  replace uj := (hc _ _ q1).trans uj
  replace q1 := Nat.lt_of_lt_of_le q1 hbx.size
  replace Ai := (hc _ _ yh).trans Ai
  replace Ah := (hc _ _ yh).trans Ah
  replace yh := Nat.lt_of_lt_of_le yh hbx.size
  replace Ag := (hc _ _ yg).trans Ag
  replace Af := (hc _ _ yg).trans Af
  replace yg := Nat.lt_of_lt_of_le yg hbx.size
  replace za := (hc _ _ q2).trans za
  replace Ae := (hfz _ _ q2).trans Ae
  replace yz := (hc _ _ q2).trans yz
  replace Ad := (hfz _ _ q2).trans Ad
  replace yx := (hc _ _ q2).trans yx
  replace Ac := (hfz _ _ q2).trans Ac
  replace yw := (hc _ _ q2).trans yw
  replace zz := (hfz _ _ q2).trans zz
  replace NR := Lib.hid ((hbx.block _ q2).trans NR.out)
  replace q2 := Nat.lt_of_lt_of_le q2 hbx.size
  replace hw0 := ek hw0 hbx
  replace H1 := hide ((aa H1).below hbx)
  replace H3 := hide ((aa H3).below hbx)
  replace H5 := hide ((aa H5).below hbx)
  replace H6 := hide ((aa H6).below hbx)
  clear hbx hc hfz
  go_wp2_with fail
  refine ((aa HO3) A6 c6 l6 m6 _ hw0 (aa H6)).mono ?_
  rintro e W3 ⟨rfl, hbx⟩
  obtain ⟨hc, hfz⟩ := gp hbx
  replace oz := (hc _ _ q0).trans oz
  replace ou := (hc _ _ q0).trans ou
  replace qh := (hc _ _ q0).trans qh
  replace qz := (hc _ _ q0).trans qz
  replace q0 := Nat.lt_of_lt_of_le q0 hbx.size
  replace qb := (hc _ _ q1).trans qb
  replace qa := (hc _ _ q1).trans qa
  replace rz := (hc _ _ q1).trans rz
  replace uj := (hc _ _ q1).trans uj
  replace q1 := Nat.lt_of_lt_of_le q1 hbx.size
  replace Ai := (hc _ _ yh).trans Ai
  replace Ah := (hc _ _ yh).trans Ah
  replace yh := Nat.lt_of_lt_of_le yh hbx.size
  replace Ag := (hc _ _ yg).trans Ag
  replace Af := (hc _ _ yg).trans Af
  replace yg := Nat.lt_of_lt_of_le yg hbx.size
  replace za := (hc _ _ q2).trans za
  replace Ae := (hfz _ _ q2).trans Ae
  replace yz := (hc _ _ q2).trans yz
  replace Ad := (hfz _ _ q2).trans Ad
  replace yx := (hc _ _ q2).trans yx
  replace Ac := (hfz _ _ q2).trans Ac
  replace yw := (hc _ _ q2).trans yw
  replace zz := (hfz _ _ q2).trans zz
  replace NR := Lib.hid ((hbx.block _ q2).trans NR.out)
  replace q2 := Nat.lt_of_lt_of_le q2 hbx.size
  replace hw0 := ek hw0 hbx
  replace H1 := hide ((aa H1).below hbx)
  replace H3 := hide ((aa H3).below hbx)
  replace H5 := hide ((aa H5).below hbx)
  replace H6 := hide ((aa H6).below hbx)
  clear hbx hc hfz
  go_upto_region 3 with fail
  have KEEP := hide (show ∀ X, Below W3.heap.size W3 X → X.cell? ⟨w.heap.size, 0, none⟩ = some (.slice A1 l1.length c1) ∧ X.cell? ⟨w.heap.size, 1, none⟩ = some (.bool m1) ∧ X.cell? ⟨w.heap.size, 2, none⟩ = some (.slice A2 l2.length c2) ∧ X.cell? ⟨w.heap.size, 3, none⟩ = some (.bool m2) ∧ X.cell? ⟨w.heap.size + 1, 0, none⟩ = some (.slice A3 l3.length c3) ∧ X.cell? ⟨w.heap.size + 1, 1, none⟩ = some (.bool m3) ∧ X.cell? ⟨w.heap.size + 1, 2, none⟩ = some (.slice A4 l4.length c4) ∧ X.cell? ⟨w.heap.size + 1, 3, none⟩ = some (.bool m4) ∧ X.cell? ⟨b5, 0, none⟩ = some (.slice A5 l5.length c5) ∧ X.cell? ⟨b5, 1, none⟩ = some (.bool m5) ∧ X.cell? ⟨b6, 0, none⟩ = some (.slice A6 l6.length c6) ∧ X.cell? ⟨b6, 1, none⟩ = some (.bool m6) from fun X hB => ⟨au hB q0 oz, au hB q0 ou, au hB q0 qh, au hB q0 qz, au hB q1 qb, au hB q1 qa, au hB q1 rz, au hB q1 uj, au hB yh Ai, au hB yh Ah, au hB yg Ag, au hB yg Af⟩)
  go_region_held3 (fun w' => w'.cell? ⟨w.heap.size, 0, none⟩ = some (.slice A1 l1.length c1) ∧ w'.cell? ⟨w.heap.size, 1, none⟩ = some (.bool m1) ∧ w'.cell? ⟨w.heap.size, 2, none⟩ = some (.slice A2 l2.length c2) ∧ w'.cell? ⟨w.heap.size, 3, none⟩ = some (.bool m2) ∧ w'.cell? ⟨w.heap.size + 1, 0, none⟩ = some (.slice A3 l3.length c3) ∧ w'.cell? ⟨w.heap.size + 1, 1, none⟩ = some (.bool m3) ∧ w'.cell? ⟨w.heap.size + 1, 2, none⟩ = some (.slice A4 l4.length c4) ∧ w'.cell? ⟨w.heap.size + 1, 3, none⟩ = some (.bool m4) ∧ w'.cell? ⟨b5, 0, none⟩ = some (.slice A5 l5.length c5) ∧ w'.cell? ⟨b5, 1, none⟩ = some (.bool m5) ∧ w'.cell? ⟨b6, 0, none⟩ = some (.slice A6 l6.length c6) ∧ w'.cell? ⟨b6, 1, none⟩ = some (.bool m6)) (first | with_reducible exact ⟨(mr _ _ _ _ _ _ om).trans (au hbw q0 oz), (mr _ _ _ _ _ _ om).trans (au hbw q0 ou), (mr _ _ _ _ _ _ om).trans (au hbw q0 qh), (mr _ _ _ _ _ _ om).trans (au hbw q0 qz), (mr _ _ _ _ _ _ om).trans (au hbw q1 qb), (mr _ _ _ _ _ _ om).trans (au hbw q1 qa), (mr _ _ _ _ _ _ om).trans (au hbw q1 rz), (mr _ _ _ _ _ _ om).trans (au hbw q1 uj), (mr _ _ _ _ _ _ om).trans (au hbw yh Ai), (mr _ _ _ _ _ _ om).trans (au hbw yh Ah), (mr _ _ _ _ _ _ om).trans (au hbw yg Ag), (mr _ _ _ _ _ _ om).trans (au hbw yg Af)⟩ | with_reducible exact (aa KEEP) _ bel) (first | (go_at_call_of 120 (Value.agg #[.slice A1 l1.length c1, .bool m1]); refine ((aa HN) A1 c1 l1 m1 A3 c3 l3 m3 _ (ek hw0 bel) (jc.below (aa H1) bel) (jc.below (aa H3) bel)).mono ?_; rintro e w' ⟨Es, c10, l10, m10, rfl, Eh, Ei⟩; have hbw := fo (w := W3) bel Ei; have hsw := hbw.size; obtain ⟨hc, hfz⟩ := gp hbw))
  all_goals
   have hblk : w'.heap[w.heap.size + 1 + 1]? = some (.cells #[.slice none 0 0, .bool false, .slice none 0 0, .bool false] 63 (0, 0)) := (hbw.block _ q2).trans NR.out
   have mo := Lib.hid hblk
   have ky : Below w.heap.size w w' := ek hw0 hbw
   have hfi := (Eh)
   have hfj := ((aa H5).below hbw)
   clear hblk
   go_wp2_with fail
   exact bodyPost_ret (v := (Value.agg #[.slice Es l10.length c10, .bool m10, .slice A5 l5.length c5, .bool m5])) (by simp [results, Tryz.results52, go_sem, hc, za, yz, yx, yw, q2]) rfl
    ⟨Es, c10, l10, m10, A5, c5, l5, m5, rfl, Qq ▸ hfi.upto mo.out (Bb _ _ _ _ _ _ _ _) (qp _ _ _ _ _ _), hden ▸ hfj.upto mo.out (Bb _ _ _ _ _ _ _ _) (qp _ _ _ _ _ _), ky.grown (qp _ _ _ _ _ _) ky.size (fun k hk => by injection hk with hk; omega)⟩

end Go.Proofs.YtfbcdfoohpkfeaaGreatDoor
namespace Go.Proofs.YtfbcdfoohpkfeaaGreatDoor
open Go.RowKit

set_option maxHeartbeats 16000000 in
theorem bat (A1 : Option Addr) (c1 : Nat) (l1 : List Nat) (m1 : Bool) (A2 : Option Addr) (c2 : Nat) (l2 : List Nat) (m2 : Bool) (A3 : Option Addr) (c3 : Nat) (l3 : List Nat) (m3 : Bool) (A4 : Option Addr) (c4 : Nat) (l4 : List Nat) (m4 : Bool) (z1 b1 z3 b3 n d : Int) (q : Rat) (w : World) (f1 : jc w A1 c1 l1 m1 z1) (f3 : jc w A3 c3 l3 m3 z3)
  (hd1 : ∀ W, Below w.heap.size w W → Calls Tryz.prog 117 #[(Value.agg #[.slice A1 l1.length c1, .bool m1, .slice A2 l2.length c2, .bool m2])] W fun e w' => Al W b1 e w') (hd3 : ∀ W, Below w.heap.size w W → Calls Tryz.prog 117 #[(Value.agg #[.slice A3 l3.length c3, .bool m3, .slice A4 l4.length c4, .bool m4])] W fun e w' => Al W b3 e w')
  (ho1 : ∀ (A7 : Option Addr) (c7 : Nat) (l7 : List Nat) (m7 : Bool) (W : World), Below w.heap.size w W → jc W A7 c7 l7 m7 b1 → Calls Tryz.prog 118 #[(Value.agg #[.slice A7 l7.length c7, .bool m7])] W fun e w' => e = .returned (.bool false) ∧ Below W.heap.size W w')  (hn : abr w 120 z1 z3 n) (hm : abr w 120 b1 b3 d) (hr : awf w 115 n d q) :
  Calls Tryz.prog 52 #[(Value.agg #[.slice A1 l1.length c1, .bool m1, .slice A2 l2.length c2, .bool m2]), (Value.agg #[.slice A3 l3.length c3, .bool m3, .slice A4 l4.length c4, .bool m4])] w fun e w' => QR w q e w' := by
 have H1 := hide f1
 have H3 := hide f3
 clear f1 f3
 have HD1 := hide hd1
 have HD3 := hide hd3
 have HO1 := hide ho1
 have HN := hide hn
 have HM := hide hm
 have HR := hide hr
 clear hd1 hd3 ho1 hn hm hr
 go_enter Tryz.func52, Tryz.ntmps52
 go_upto_region 1 with fail
 obtain ⟨n0, n1, n2, hsz, hw0⟩ := qg w (.cells #[.slice A1 l1.length c1, .bool m1, .slice A2 l2.length c2, .bool m2] 63) (.cells #[.slice A3 l3.length c3, .bool m3, .slice A4 l4.length c4, .bool m4] 63) (.cells #[.slice none 0 0, .bool false, .slice none 0 0, .bool false] 63)
 generalize (((w.alloc (.cells #[.slice A1 l1.length c1, .bool m1, .slice A2 l2.length c2, .bool m2] 63)).alloc (.cells #[.slice A3 l3.length c3, .bool m3, .slice A4 l4.length c4, .bool m4] 63)).alloc (.cells #[.slice none 0 0, .bool false, .slice none 0 0, .bool false] 63)) = W0 at *
 have oz : W0.cell? ⟨w.heap.size, 0, none⟩ = some (.slice A1 l1.length c1) := ae n0 0
 have ou : W0.cell? ⟨w.heap.size, 1, none⟩ = some (.bool m1) := ae n0 1
 have qh : W0.cell? ⟨w.heap.size, 2, none⟩ = some (.slice A2 l2.length c2) := ae n0 2
 have qz : W0.cell? ⟨w.heap.size, 3, none⟩ = some (.bool m2) := ae n0 3
 have q0 : w.heap.size < W0.heap.size := by omega
 have qb : W0.cell? ⟨w.heap.size + 1, 0, none⟩ = some (.slice A3 l3.length c3) := ae n1 0
 have qa : W0.cell? ⟨w.heap.size + 1, 1, none⟩ = some (.bool m3) := ae n1 1
 have rz : W0.cell? ⟨w.heap.size + 1, 2, none⟩ = some (.slice A4 l4.length c4) := ae n1 2
 have uj : W0.cell? ⟨w.heap.size + 1, 3, none⟩ = some (.bool m4) := ae n1 3
 have q1 : w.heap.size + 1 < W0.heap.size := by omega
 have za : W0.cell? ⟨w.heap.size + 1 + 1, 0, none⟩ = some (.slice none 0 0) := ae n2 0
 have yz : W0.cell? ⟨w.heap.size + 1 + 1, 1, none⟩ = some (.bool false) := ae n2 1
 have yx : W0.cell? ⟨w.heap.size + 1 + 1, 2, none⟩ = some (.slice none 0 0) := ae n2 2
 have yw : W0.cell? ⟨w.heap.size + 1 + 1, 3, none⟩ = some (.bool false) := ae n2 3
 have q2 : w.heap.size + 1 + 1 < W0.heap.size := by omega
 have Ae := bz n2 0
 have Ad := bz n2 1
 have Ac := bz n2 2
 have zz := bz n2 3
 have NR := Lib.hid n2
 clear hsz n0 n1 n2
 replace H1 := hide ((aa H1).below hw0)
 replace H3 := hide ((aa H3).below hw0)
 go_upto_region 1 with fail
 go_cut [5, 6] (fun Qv Yo wx => ∃ b5 b6 : Nat, Qv = .pointer (some ⟨b5, 0, none⟩) ∧ Yo = .pointer (some ⟨b6, 0, none⟩) ∧ zw wx b5 b1 ∧ zw wx b6 b3 ∧ Below W0.heap.size W0 wx ∧ W0.heap.size ≤ b5 ∧ W0.heap.size ≤ b6)
 case first =>
  have KEEP := hide (show ∀ X, Below W0.heap.size W0 X → X.cell? ⟨w.heap.size, 0, none⟩ = some (.slice A1 l1.length c1) ∧ X.cell? ⟨w.heap.size, 1, none⟩ = some (.bool m1) ∧ X.cell? ⟨w.heap.size, 2, none⟩ = some (.slice A2 l2.length c2) ∧ X.cell? ⟨w.heap.size, 3, none⟩ = some (.bool m2) ∧ X.cell? ⟨w.heap.size + 1, 0, none⟩ = some (.slice A3 l3.length c3) ∧ X.cell? ⟨w.heap.size + 1, 1, none⟩ = some (.bool m3) ∧ X.cell? ⟨w.heap.size + 1, 2, none⟩ = some (.slice A4 l4.length c4) ∧ X.cell? ⟨w.heap.size + 1, 3, none⟩ = some (.bool m4) from fun X hB => ⟨au hB q0 oz, au hB q0 ou, au hB q0 qh, au hB q0 qz, au hB q1 qb, au hB q1 qa, au hB q1 rz, au hB q1 uj⟩)
  go_region_held3 (fun w' => w'.cell? ⟨w.heap.size, 0, none⟩ = some (.slice A1 l1.length c1) ∧ w'.cell? ⟨w.heap.size, 1, none⟩ = some (.bool m1) ∧ w'.cell? ⟨w.heap.size, 2, none⟩ = some (.slice A2 l2.length c2) ∧ w'.cell? ⟨w.heap.size, 3, none⟩ = some (.bool m2) ∧ w'.cell? ⟨w.heap.size + 1, 0, none⟩ = some (.slice A3 l3.length c3) ∧ w'.cell? ⟨w.heap.size + 1, 1, none⟩ = some (.bool m3) ∧ w'.cell? ⟨w.heap.size + 1, 2, none⟩ = some (.slice A4 l4.length c4) ∧ w'.cell? ⟨w.heap.size + 1, 3, none⟩ = some (.bool m4)) (exact (aa KEEP) _ (by (repeat (first | with_reducible exact Below.refl _ _ | with_reducible assumption | with_reducible refine Below.drew ?_ | with_reducible refine jk ?_ _ | (with_reducible refine Jm ?_ ?_ _ _; rotate_left; (first | omega | (simp <;> omega))))))) (first | (go_at_call_of 117 (Value.agg #[.slice A1 l1.length c1, .bool m1, .slice A2 l2.length c2, .bool m2]); refine ((aa HD1) _ (ek hw0 bel)).mono ?_; rintro e w' ⟨A5, c5, l5, m5, rfl, tq, hb5⟩; have hbw := fo (w := W0) bel hb5; have hsw := hbw.size; obtain ⟨hc, hfz⟩ := gp hbw; (try ((first | have Cy : jm W0 w' _ := jm.below (jm.new bel rfl) hb5 | have Cy : jm W0 w' _ := jm.below (jm.drew (jm.new bel rfl)) hb5); (try simp only [World.size_alloc] at Cy); (try dsimp only [World.drew] at Cy); (try simp only [World.size_alloc] at Cy); obtain ⟨⟨asv, asu⟩, ⟨ast, ass⟩, ⟨asr, asq⟩, ⟨aso, asn⟩, asl, akl⟩ := jm.facts Cy)); (try ((first | have Cx : jm W0 w' _ := jm.below (jm.alloc (jm.new bel rfl)) hb5 | have Cx : jm W0 w' _ := jm.below (jm.drew (jm.alloc (jm.new bel rfl))) hb5); (try simp only [World.size_alloc] at Cx); (try dsimp only [World.drew] at Cx); (try simp only [World.size_alloc] at Cx); obtain ⟨⟨asj, asi⟩, ⟨ash, asg⟩, ⟨asf, ase⟩, ⟨asc, asb⟩, asa, akk⟩ := jm.facts Cx))) | (go_at_call_of 117 (Value.agg #[.slice A3 l3.length c3, .bool m3, .slice A4 l4.length c4, .bool m4]); refine ((aa HD3) _ (ek hw0 bel)).mono ?_; rintro e w' ⟨A6, c6, l6, m6, rfl, xm, hb6⟩; have tq := jc.below (jc.below tq bel) hb6; have hbw := fo (w := W0) bel hb6; have hsw := hbw.size; obtain ⟨hc, hfz⟩ := gp hbw; (try ((first | have Dn : jm W0 w' _ := jm.below (jm.new bel rfl) hb6 | have Dn : jm W0 w' _ := jm.below (jm.drew (jm.new bel rfl)) hb6); (try simp only [World.size_alloc] at Dn); (try dsimp only [World.drew] at Dn); (try simp only [World.size_alloc] at Dn); obtain ⟨⟨akj, aki⟩, ⟨akh, akg⟩, ⟨akf, ake⟩, ⟨akd, akc⟩, akb, adr⟩ := jm.facts Dn)); (try ((first | have Dm : jm W0 w' _ := jm.below (jm.alloc (jm.new bel rfl)) hb6 | have Dm : jm W0 w' _ := jm.below (jm.drew (jm.alloc (jm.new bel rfl))) hb6); (try simp only [World.size_alloc] at Dm); (try dsimp only [World.drew] at Dm); (try simp only [World.size_alloc] at Dm); obtain ⟨⟨aka, ajz⟩, ⟨ajy, ajx⟩, ⟨ajw, ajv⟩, ⟨aju, ajt⟩, ajs, adq⟩ := jm.facts Dm)); (try ((first | have Fh : jm W0 w' _ := jm.below Cy hb6 | have Fh : jm W0 w' _ := jm.below (jm.alloc Cy) hb6 | have Fh : jm W0 w' _ := jm.below (jm.alloc (jm.alloc Cy)) hb6); (try simp only [World.size_alloc] at Fh); (try dsimp only [World.drew] at Fh); (try simp only [World.size_alloc] at Fh); obtain ⟨⟨arz, ary⟩, ⟨arx, arw⟩, ⟨arv, aru⟩, ⟨art, ars⟩, arq, ajr⟩ := jm.facts Fh)); (try ((first | have Fg : jm W0 w' _ := jm.below Cx hb6 | have Fg : jm W0 w' _ := jm.below (jm.alloc Cx) hb6 | have Fg : jm W0 w' _ := jm.below (jm.alloc (jm.alloc Cx)) hb6); (try simp only [World.size_alloc] at Fg); (try dsimp only [World.drew] at Fg); (try simp only [World.size_alloc] at Fg); obtain ⟨⟨arp, aro⟩, ⟨arn, arl⟩, ⟨ark, arj⟩, ⟨ari, arh⟩, arf, ajq⟩ := jm.facts Fg))))
  all_goals (go_wp2_with fail; go_meet; refine ⟨_, _, rfl, rfl, ?_⟩; first | with_reducible exact Gd ⟨by assumption, by assumption, by first | assumption | omega⟩ tq xm hbw | with_reducible exact Gd (Pb.Xe (by assumption) rfl) tq.alloc xm.alloc (jk hbw _) | with_reducible exact Gd (Pb.Xf (by assumption) rfl) tq.alloc xm.alloc (jk hbw _) | with_reducible exact Vt tq xm hbw rfl rfl | with_reducible exact aal tq xm hbw rfl rfl | with_reducible exact aak (by assumption) tq xm hbw rfl)
 case rest =>
  revert hcut
  generalize wc = W1
  intro hcut
  obtain ⟨b5, b6, rfl, rfl, B5, B6, hbx, Km, Pq⟩ := hcut
  obtain ⟨hc, hfz⟩ := gp hbx
  replace oz := (hc _ _ q0).trans oz
  replace ou := (hc _ _ q0).trans ou
  replace qh := (hc _ _ q0).trans qh
  replace qz := (hc _ _ q0).trans qz
  replace q0 := Nat.lt_of_lt_of_le q0 hbx.size
  replace qb := (hc _ _ q1).trans qb
  replace qa := (hc _ _ q1).trans qa
  replace rz := (hc _ _ q1).trans rz
  replace uj := (hc _ _ q1).trans uj
  replace q1 := Nat.lt_of_lt_of_le q1 hbx.size
  replace Km : w.heap.size + 1 + 1 < b5 := Nat.lt_of_lt_of_le q2 Km
  replace Pq : w.heap.size + 1 + 1 < b6 := Nat.lt_of_lt_of_le q2 Pq
  replace za := (hc _ _ q2).trans za
  replace Ae := (hfz _ _ q2).trans Ae
  replace yz := (hc _ _ q2).trans yz
  replace Ad := (hfz _ _ q2).trans Ad
  replace yx := (hc _ _ q2).trans yx
  replace Ac := (hfz _ _ q2).trans Ac
  replace yw := (hc _ _ q2).trans yw
  replace zz := (hfz _ _ q2).trans zz
  replace NR := Lib.hid ((hbx.block _ q2).trans NR.out)
  replace q2 := Nat.lt_of_lt_of_le q2 hbx.size
  replace hw0 := ek hw0 hbx
  replace H1 := hide ((aa H1).below hbx)
  replace H3 := hide ((aa H3).below hbx)
  obtain ⟨A5, c5, l5, m5, n5, H5⟩ := B5
  have Ai : W1.cell? ⟨b5, 0, none⟩ = some (.slice A5 l5.length c5) := ae n5 0
  have Ah : W1.cell? ⟨b5, 1, none⟩ = some (.bool m5) := ae n5 1
  have yh := lt_of_block n5
  replace H5 := hide H5
  clear n5
  obtain ⟨A6, c6, l6, m6, n6, H6⟩ := B6
  have Ag : W1.cell? ⟨b6, 0, none⟩ = some (.slice A6 l6.length c6) := ae n6 0
  have Af : W1.cell? ⟨b6, 1, none⟩ = some (.bool m6) := ae n6 1
  have yg := lt_of_block n6
  replace H6 := hide H6
  clear n6
  clear hbx hc hfz
  go_wp2_with fail
  refine ((aa HO1) A5 c5 l5 m5 _ hw0 (aa H5)).mono ?_
  rintro e W2 ⟨rfl, hbx⟩
  obtain ⟨hc, hfz⟩ := gp hbx
  replace oz := (hc _ _ q0).trans oz
  replace ou := (hc _ _ q0).trans ou
  replace qh := (hc _ _ q0).trans qh
  replace qz := (hc _ _ q0).trans qz
  replace q0 := Nat.lt_of_lt_of_le q0 hbx.size
  replace qb := (hc _ _ q1).trans qb
  replace qa := (hc _ _ q1).trans qa
  replace rz := (hc _ _ q1).trans rz
  replace uj := (hc _ _ q1).trans uj
  replace q1 := Nat.lt_of_lt_of_le q1 hbx.size
  replace Ai := (hc _ _ yh).trans Ai
  replace Ah := (hc _ _ yh).trans Ah
  replace yh := Nat.lt_of_lt_of_le yh hbx.size
  replace Ag := (hc _ _ yg).trans Ag
  replace Af := (hc _ _ yg).trans Af
  replace yg := Nat.lt_of_lt_of_le yg hbx.size
  replace za := (hc _ _ q2).trans za
  replace Ae := (hfz _ _ q2).trans Ae
  replace yz := (hc _ _ q2).trans yz
  replace Ad := (hfz _ _ q2).trans Ad
  replace yx := (hc _ _ q2).trans yx
  replace Ac := (hfz _ _ q2).trans Ac
  replace yw := (hc _ _ q2).trans yw
  replace zz := (hfz _ _ q2).trans zz
  replace NR := Lib.hid ((hbx.block _ q2).trans NR.out)
  replace q2 := Nat.lt_of_lt_of_le q2 hbx.size
  replace hw0 := ek hw0 hbx
  replace H1 := hide ((aa H1).below hbx)
  replace H3 := hide ((aa H3).below hbx)
  replace H5 := hide ((aa H5).below hbx)
  replace H6 := hide ((aa H6).below hbx)
  clear hbx hc hfz
  go_upto_region 4 with fail
  have KEEP := hide (show ∀ X, Below W2.heap.size W2 X → X.cell? ⟨w.heap.size, 0, none⟩ = some (.slice A1 l1.length c1) ∧ X.cell? ⟨w.heap.size, 1, none⟩ = some (.bool m1) ∧ X.cell? ⟨w.heap.size, 2, none⟩ = some (.slice A2 l2.length c2) ∧ X.cell? ⟨w.heap.size, 3, none⟩ = some (.bool m2) ∧ X.cell? ⟨w.heap.size + 1, 0, none⟩ = some (.slice A3 l3.length c3) ∧ X.cell? ⟨w.heap.size + 1, 1, none⟩ = some (.bool m3) ∧ X.cell? ⟨w.heap.size + 1, 2, none⟩ = some (.slice A4 l4.length c4) ∧ X.cell? ⟨w.heap.size + 1, 3, none⟩ = some (.bool m4) ∧ X.cell? ⟨b5, 0, none⟩ = some (.slice A5 l5.length c5) ∧ X.cell? ⟨b5, 1, none⟩ = some (.bool m5) ∧ X.cell? ⟨b6, 0, none⟩ = some (.slice A6 l6.length c6) ∧ X.cell? ⟨b6, 1, none⟩ = some (.bool m6) from fun X hB => ⟨au hB q0 oz, au hB q0 ou, au hB q0 qh, au hB q0 qz, au hB q1 qb, au hB q1 qa, au hB q1 rz, au hB q1 uj, au hB yh Ai, au hB yh Ah, au hB yg Ag, au hB yg Af⟩)
  go_region_held3 (fun w' => w'.cell? ⟨w.heap.size, 0, none⟩ = some (.slice A1 l1.length c1) ∧ w'.cell? ⟨w.heap.size, 1, none⟩ = some (.bool m1) ∧ w'.cell? ⟨w.heap.size, 2, none⟩ = some (.slice A2 l2.length c2) ∧ w'.cell? ⟨w.heap.size, 3, none⟩ = some (.bool m2) ∧ w'.cell? ⟨w.heap.size + 1, 0, none⟩ = some (.slice A3 l3.length c3) ∧ w'.cell? ⟨w.heap.size + 1, 1, none⟩ = some (.bool m3) ∧ w'.cell? ⟨w.heap.size + 1, 2, none⟩ = some (.slice A4 l4.length c4) ∧ w'.cell? ⟨w.heap.size + 1, 3, none⟩ = some (.bool m4) ∧ w'.cell? ⟨b5, 0, none⟩ = some (.slice A5 l5.length c5) ∧ w'.cell? ⟨b5, 1, none⟩ = some (.bool m5) ∧ w'.cell? ⟨b6, 0, none⟩ = some (.slice A6 l6.length c6) ∧ w'.cell? ⟨b6, 1, none⟩ = some (.bool m6)) (first | with_reducible exact ⟨(mr _ _ _ _ _ _ om).trans (au hbw q0 oz), (mr _ _ _ _ _ _ om).trans (au hbw q0 ou), (mr _ _ _ _ _ _ om).trans (au hbw q0 qh), (mr _ _ _ _ _ _ om).trans (au hbw q0 qz), (mr _ _ _ _ _ _ om).trans (au hbw q1 qb), (mr _ _ _ _ _ _ om).trans (au hbw q1 qa), (mr _ _ _ _ _ _ om).trans (au hbw q1 rz), (mr _ _ _ _ _ _ om).trans (au hbw q1 uj), (mr _ _ _ _ _ _ om).trans (au hbw yh Ai), (mr _ _ _ _ _ _ om).trans (au hbw yh Ah), (mr _ _ _ _ _ _ om).trans (au hbw yg Ag), (mr _ _ _ _ _ _ om).trans (au hbw yg Af)⟩ | with_reducible exact (aa KEEP) _ bel) (first | (go_at_call_of 120 (Value.agg #[.slice A1 l1.length c1, .bool m1]); refine ((aa HN) A1 c1 l1 m1 A3 c3 l3 m3 _ (ek hw0 bel) (jc.below (aa H1) bel) (jc.below (aa H3) bel)).mono ?_; rintro e w' ⟨Es, c10, l10, m10, rfl, Eh, Ei⟩; have hbw := fo (w := W2) bel Ei; have hsw := hbw.size; obtain ⟨hc, hfz⟩ := gp hbw) | (go_at_call_of 120 (Value.agg #[.slice A5 l5.length c5, .bool m5]); refine ((aa HM) A5 c5 l5 m5 A6 c6 l6 m6 _ (ek hw0 bel) (jc.below (aa H5) bel) (jc.below (aa H6) bel)).mono ?_; rintro e w' ⟨Ih, c11, Ib, m11, rfl, Ka, Ld⟩; have Eh := jc.below (jc.below Eh bel) Ld; have hbw := fo (w := W2) bel Ld; have hsw := hbw.size; obtain ⟨hc, hfz⟩ := gp hbw) | (go_at_call_of 115 (Value.agg #[.slice Es l10.length c10, .bool m10]); refine ((aa HR) Es c10 l10 m10 Ih c11 Ib m11 _ (ek hw0 bel) (jc.below Eh bel) (jc.below Ka bel)).mono ?_; rintro e w' ⟨Vr, c12, Us, m12, A13, c13, l13, m13, rfl, Oo, Xn, Ij⟩; have Eh := jc.below (jc.below Eh bel) Ij; have Ka := jc.below (jc.below Ka bel) Ij; have hbw := fo (w := W2) bel Ij; have hsw := hbw.size; obtain ⟨hc, hfz⟩ := gp hbw))
  all_goals
   have hblk : w'.heap[w.heap.size + 1 + 1]? = some (.cells #[.slice none 0 0, .bool false, .slice none 0 0, .bool false] 63 (0, 0)) := (hbw.block _ q2).trans NR.out
   have mo := Lib.hid hblk
   have ky : Below w.heap.size w w' := ek hw0 hbw
   have hfi := (Oo)
   have hfj := (Xn)
   clear hblk
   go_wp2_with fail
   exact bodyPost_ret (v := (Value.agg #[.slice Vr Us.length c12, .bool m12, .slice A13 l13.length c13, .bool m13])) (by simp [results, Tryz.results52, go_sem, hc, za, yz, yx, yw, q2]) rfl
    ⟨Vr, c12, Us, m12, A13, c13, l13, m13, rfl, hfi.upto mo.out (Bb _ _ _ _ _ _ _ _) (qp _ _ _ _ _ _), hfj.upto mo.out (Bb _ _ _ _ _ _ _ _) (qp _ _ _ _ _ _), ky.grown (qp _ _ _ _ _ _) ky.size (fun k hk => by injection hk with hk; omega)⟩

end Go.Proofs.YtfbcdfoohpkfeaaGreatDoor
namespace Go.Proofs.YtfbcdfoohpkfeaaGreatDoor
open Go.RowKit

set_option maxHeartbeats 16000000 in
theorem ayz (A1 : Option Addr) (c1 : Nat) (l1 : List Nat) (m1 : Bool) (A2 : Option Addr) (c2 : Nat) (l2 : List Nat) (m2 : Bool) (A3 : Option Addr) (c3 : Nat) (l3 : List Nat) (m3 : Bool) (A4 : Option Addr) (c4 : Nat) (l4 : List Nat) (m4 : Bool) (z1 b1 z3 b3 n d : Int) (q : Rat) (w : World) (f1 : jc w A1 c1 l1 m1 z1) (f3 : jc w A3 c3 l3 m3 z3)
  (hd1 : ∀ W, Below w.heap.size w W → Calls Tryz.prog 117 #[(Value.agg #[.slice A1 l1.length c1, .bool m1, .slice A2 l2.length c2, .bool m2])] W fun e w' => Al W b1 e w') (hd3 : ∀ W, Below w.heap.size w W → Calls Tryz.prog 117 #[(Value.agg #[.slice A3 l3.length c3, .bool m3, .slice A4 l4.length c4, .bool m4])] W fun e w' => Al W b3 e w')
  (ho1 : ∀ (A7 : Option Addr) (c7 : Nat) (l7 : List Nat) (m7 : Bool) (W : World), Below w.heap.size w W → jc W A7 c7 l7 m7 b1 → Calls Tryz.prog 118 #[(Value.agg #[.slice A7 l7.length c7, .bool m7])] W fun e w' => e = .returned (.bool true) ∧ Below W.heap.size W w') (ho3 : ∀ (A7 : Option Addr) (c7 : Nat) (l7 : List Nat) (m7 : Bool) (W : World), Below w.heap.size w W → jc W A7 c7 l7 m7 b3 → Calls Tryz.prog 118 #[(Value.agg #[.slice A7 l7.length c7, .bool m7])] W fun e w' => e = .returned (.bool false) ∧ Below W.heap.size W w') (hn : abr w 120 z1 z3 n) (hm : abr w 120 b1 b3 d) (hr : awf w 115 n d q) :
  Calls Tryz.prog 52 #[(Value.agg #[.slice A1 l1.length c1, .bool m1, .slice A2 l2.length c2, .bool m2]), (Value.agg #[.slice A3 l3.length c3, .bool m3, .slice A4 l4.length c4, .bool m4])] w fun e w' => QR w q e w' := by
 have H1 := hide f1
 have H3 := hide f3
 clear f1 f3
 have HD1 := hide hd1
 have HD3 := hide hd3
 have HO1 := hide ho1
 have HO3 := hide ho3
 have HN := hide hn
 have HM := hide hm
 have HR := hide hr
 clear hd1 hd3 ho1 ho3 hn hm hr
 go_enter Tryz.func52, Tryz.ntmps52
 go_upto_region 1 with fail
 obtain ⟨n0, n1, n2, hsz, hw0⟩ := qg w (.cells #[.slice A1 l1.length c1, .bool m1, .slice A2 l2.length c2, .bool m2] 63) (.cells #[.slice A3 l3.length c3, .bool m3, .slice A4 l4.length c4, .bool m4] 63) (.cells #[.slice none 0 0, .bool false, .slice none 0 0, .bool false] 63)
 generalize (((w.alloc (.cells #[.slice A1 l1.length c1, .bool m1, .slice A2 l2.length c2, .bool m2] 63)).alloc (.cells #[.slice A3 l3.length c3, .bool m3, .slice A4 l4.length c4, .bool m4] 63)).alloc (.cells #[.slice none 0 0, .bool false, .slice none 0 0, .bool false] 63)) = W0 at *
 have oz : W0.cell? ⟨w.heap.size, 0, none⟩ = some (.slice A1 l1.length c1) := ae n0 0
 have ou : W0.cell? ⟨w.heap.size, 1, none⟩ = some (.bool m1) := ae n0 1
 have qh : W0.cell? ⟨w.heap.size, 2, none⟩ = some (.slice A2 l2.length c2) := ae n0 2
 have qz : W0.cell? ⟨w.heap.size, 3, none⟩ = some (.bool m2) := ae n0 3
 have q0 : w.heap.size < W0.heap.size := by omega
 have qb : W0.cell? ⟨w.heap.size + 1, 0, none⟩ = some (.slice A3 l3.length c3) := ae n1 0
 have qa : W0.cell? ⟨w.heap.size + 1, 1, none⟩ = some (.bool m3) := ae n1 1
 have rz : W0.cell? ⟨w.heap.size + 1, 2, none⟩ = some (.slice A4 l4.length c4) := ae n1 2
 have uj : W0.cell? ⟨w.heap.size + 1, 3, none⟩ = some (.bool m4) := ae n1 3
 have q1 : w.heap.size + 1 < W0.heap.size := by omega
 have za : W0.cell? ⟨w.heap.size + 1 + 1, 0, none⟩ = some (.slice none 0 0) := ae n2 0
 have yz : W0.cell? ⟨w.heap.size + 1 + 1, 1, none⟩ = some (.bool false) := ae n2 1
 have yx : W0.cell? ⟨w.heap.size + 1 + 1, 2, none⟩ = some (.slice none 0 0) := ae n2 2
 have yw : W0.cell? ⟨w.heap.size + 1 + 1, 3, none⟩ = some (.bool false) := ae n2 3
 have q2 : w.heap.size + 1 + 1 < W0.heap.size := by omega
 have Ae := bz n2 0
 have Ad := bz n2 1
 have Ac := bz n2 2
 have zz := bz n2 3
 have NR := Lib.hid n2
 clear hsz n0 n1 n2
 replace H1 := hide ((aa H1).below hw0)
 replace H3 := hide ((aa H3).below hw0)
 go_upto_region 1 with fail
 go_cut [5, 6] (fun Qv Yo wx => ∃ b5 b6 : Nat, Qv = .pointer (some ⟨b5, 0, none⟩) ∧ Yo = .pointer (some ⟨b6, 0, none⟩) ∧ zw wx b5 b1 ∧ zw wx b6 b3 ∧ Below W0.heap.size W0 wx ∧ W0.heap.size ≤ b5 ∧ W0.heap.size ≤ b6)
 case first =>
  have KEEP := hide (show ∀ X, Below W0.heap.size W0 X → X.cell? ⟨w.heap.size, 0, none⟩ = some (.slice A1 l1.length c1) ∧ X.cell? ⟨w.heap.size, 1, none⟩ = some (.bool m1) ∧ X.cell? ⟨w.heap.size, 2, none⟩ = some (.slice A2 l2.length c2) ∧ X.cell? ⟨w.heap.size, 3, none⟩ = some (.bool m2) ∧ X.cell? ⟨w.heap.size + 1, 0, none⟩ = some (.slice A3 l3.length c3) ∧ X.cell? ⟨w.heap.size + 1, 1, none⟩ = some (.bool m3) ∧ X.cell? ⟨w.heap.size + 1, 2, none⟩ = some (.slice A4 l4.length c4) ∧ X.cell? ⟨w.heap.size + 1, 3, none⟩ = some (.bool m4) from fun X hB => ⟨au hB q0 oz, au hB q0 ou, au hB q0 qh, au hB q0 qz, au hB q1 qb, au hB q1 qa, au hB q1 rz, au hB q1 uj⟩)
  go_region_held3 (fun w' => w'.cell? ⟨w.heap.size, 0, none⟩ = some (.slice A1 l1.length c1) ∧ w'.cell? ⟨w.heap.size, 1, none⟩ = some (.bool m1) ∧ w'.cell? ⟨w.heap.size, 2, none⟩ = some (.slice A2 l2.length c2) ∧ w'.cell? ⟨w.heap.size, 3, none⟩ = some (.bool m2) ∧ w'.cell? ⟨w.heap.size + 1, 0, none⟩ = some (.slice A3 l3.length c3) ∧ w'.cell? ⟨w.heap.size + 1, 1, none⟩ = some (.bool m3) ∧ w'.cell? ⟨w.heap.size + 1, 2, none⟩ = some (.slice A4 l4.length c4) ∧ w'.cell? ⟨w.heap.size + 1, 3, none⟩ = some (.bool m4)) (exact (aa KEEP) _ (by (repeat (first | with_reducible exact Below.refl _ _ | with_reducible assumption | with_reducible refine Below.drew ?_ | with_reducible refine jk ?_ _ | (with_reducible refine Jm ?_ ?_ _ _; rotate_left; (first | omega | (simp <;> omega))))))) (first | (go_at_call_of 117 (Value.agg #[.slice A1 l1.length c1, .bool m1, .slice A2 l2.length c2, .bool m2]); refine ((aa HD1) _ (ek hw0 bel)).mono ?_; rintro e w' ⟨A5, c5, l5, m5, rfl, tq, hb5⟩; have hbw := fo (w := W0) bel hb5; have hsw := hbw.size; obtain ⟨hc, hfz⟩ := gp hbw; (try ((first | have Cy : jm W0 w' _ := jm.below (jm.new bel rfl) hb5 | have Cy : jm W0 w' _ := jm.below (jm.drew (jm.new bel rfl)) hb5); (try simp only [World.size_alloc] at Cy); (try dsimp only [World.drew] at Cy); (try simp only [World.size_alloc] at Cy); obtain ⟨⟨asv, asu⟩, ⟨ast, ass⟩, ⟨asr, asq⟩, ⟨aso, asn⟩, asl, akl⟩ := jm.facts Cy)); (try ((first | have Cx : jm W0 w' _ := jm.below (jm.alloc (jm.new bel rfl)) hb5 | have Cx : jm W0 w' _ := jm.below (jm.drew (jm.alloc (jm.new bel rfl))) hb5); (try simp only [World.size_alloc] at Cx); (try dsimp only [World.drew] at Cx); (try simp only [World.size_alloc] at Cx); obtain ⟨⟨asj, asi⟩, ⟨ash, asg⟩, ⟨asf, ase⟩, ⟨asc, asb⟩, asa, akk⟩ := jm.facts Cx))) | (go_at_call_of 117 (Value.agg #[.slice A3 l3.length c3, .bool m3, .slice A4 l4.length c4, .bool m4]); refine ((aa HD3) _ (ek hw0 bel)).mono ?_; rintro e w' ⟨A6, c6, l6, m6, rfl, xm, hb6⟩; have tq := jc.below (jc.below tq bel) hb6; have hbw := fo (w := W0) bel hb6; have hsw := hbw.size; obtain ⟨hc, hfz⟩ := gp hbw; (try ((first | have Dn : jm W0 w' _ := jm.below (jm.new bel rfl) hb6 | have Dn : jm W0 w' _ := jm.below (jm.drew (jm.new bel rfl)) hb6); (try simp only [World.size_alloc] at Dn); (try dsimp only [World.drew] at Dn); (try simp only [World.size_alloc] at Dn); obtain ⟨⟨akj, aki⟩, ⟨akh, akg⟩, ⟨akf, ake⟩, ⟨akd, akc⟩, akb, adr⟩ := jm.facts Dn)); (try ((first | have Dm : jm W0 w' _ := jm.below (jm.alloc (jm.new bel rfl)) hb6 | have Dm : jm W0 w' _ := jm.below (jm.drew (jm.alloc (jm.new bel rfl))) hb6); (try simp only [World.size_alloc] at Dm); (try dsimp only [World.drew] at Dm); (try simp only [World.size_alloc] at Dm); obtain ⟨⟨aka, ajz⟩, ⟨ajy, ajx⟩, ⟨ajw, ajv⟩, ⟨aju, ajt⟩, ajs, adq⟩ := jm.facts Dm)); (try ((first | have Fh : jm W0 w' _ := jm.below Cy hb6 | have Fh : jm W0 w' _ := jm.below (jm.alloc Cy) hb6 | have Fh : jm W0 w' _ := jm.below (jm.alloc (jm.alloc Cy)) hb6); (try simp only [World.size_alloc] at Fh); (try dsimp only [World.drew] at Fh); (try simp only [World.size_alloc] at Fh); obtain ⟨⟨arz, ary⟩, ⟨arx, arw⟩, ⟨arv, aru⟩, ⟨art, ars⟩, arq, ajr⟩ := jm.facts Fh)); (try ((first | have Fg : jm W0 w' _ := jm.below Cx hb6 | have Fg : jm W0 w' _ := jm.below (jm.alloc Cx) hb6 | have Fg : jm W0 w' _ := jm.below (jm.alloc (jm.alloc Cx)) hb6); (try simp only [World.size_alloc] at Fg); (try dsimp only [World.drew] at Fg); (try simp only [World.size_alloc] at Fg); obtain ⟨⟨arp, aro⟩, ⟨arn, arl⟩, ⟨ark, arj⟩, ⟨ari, arh⟩, arf, ajq⟩ := jm.facts Fg))))
  all_goals (go_wp2_with fail; go_meet; refine ⟨_, _, rfl, rfl, ?_⟩; first | with_reducible exact Gd ⟨by assumption, by assumption, by first | assumption | omega⟩ tq xm hbw | with_reducible exact Gd (Pb.Xe (by assumption) rfl) tq.alloc xm.alloc (jk hbw _) | with_reducible exact Gd (Pb.Xf (by assumption) rfl) tq.alloc xm.alloc (jk hbw _) | with_reducible exact Vt tq xm hbw rfl rfl | with_reducible exact aal tq xm hbw rfl rfl | with_reducible exact aak (by assumption) tq xm hbw rfl)
 case rest =>
  revert hcut
  generalize wc = W1
  intro hcut
  obtain ⟨b5, b6, rfl, rfl, B5, B6, hbx, Km, Pq⟩ := hcut
  obtain ⟨hc, hfz⟩ := gp hbx
  replace oz := (hc _ _ q0).trans oz
  replace ou := (hc _ _ q0).trans ou
  replace qh := (hc _ _ q0).trans qh
  replace qz := (hc _ _ q0).trans qz
  replace q0 := Nat.lt_of_lt_of_le q0 hbx.size
  replace qb := (hc _ _ q1).trans qb
  replace qa := (hc _ _ q1).trans qa
  replace rz := (hc _ _ q1).trans rz
  replace uj := (hc _ _ q1).trans uj
  replace q1 := Nat.lt_of_lt_of_le q1 hbx.size
  replace Km : w.heap.size + 1 + 1 < b5 := Nat.lt_of_lt_of_le q2 Km
  replace Pq : w.heap.size + 1 + 1 < b6 := Nat.lt_of_lt_of_le q2 Pq
  replace za := (hc _ _ q2).trans za
  replace Ae := (hfz _ _ q2).trans Ae
  replace yz := (hc _ _ q2).trans yz
  replace Ad := (hfz _ _ q2).trans Ad
  replace yx := (hc _ _ q2).trans yx
  replace Ac := (hfz _ _ q2).trans Ac
  replace yw := (hc _ _ q2).trans yw
  replace zz := (hfz _ _ q2).trans zz
  replace NR := Lib.hid ((hbx.block _ q2).trans NR.out)
  replace q2 := Nat.lt_of_lt_of_le q2 hbx.size
  replace hw0 := ek hw0 hbx
  replace H1 := hide ((aa H1).below hbx)
  replace H3 := hide ((aa H3).below hbx)
  obtain ⟨A5, c5, l5, m5, n5, H5⟩ := B5
  have Ai : W1.cell? ⟨b5, 0, none⟩ = some (.slice A5 l5.length c5) := ae n5 0
  have Ah : W1.cell? ⟨b5, 1, none⟩ = some (.bool m5) := ae n5 1
  have yh := lt_of_block n5
  replace H5 := hide H5
  clear n5
  obtain ⟨A6, c6, l6, m6, n6, H6⟩ := B6
  have Ag : W1.cell? ⟨b6, 0, none⟩ = some (.slice A6 l6.length c6) := ae n6 0
  have Af : W1.cell? ⟨b6, 1, none⟩ = some (.bool m6) := ae n6 1
  have yg := lt_of_block n6
  replace H6 := hide H6
  clear n6
  clear hbx hc hfz
  go_wp2_with fail
  refine ((aa HO1) A5 c5 l5 m5 _ hw0 (aa H5)).mono ?_
  rintro e W2 ⟨rfl, hbx⟩
  obtain ⟨hc, hfz⟩ := gp hbx
  replace oz := (hc _ _ q0).trans oz
  replace ou := (hc _ _ q0).trans ou
  replace qh := (hc _ _ q0).trans qh
  replace qz := (hc _ _ q0).trans qz
  replace q0 := Nat.lt_of_lt_of_le q0 hbx.size
  replace qb := (hc _ _ q1).trans qb
  replace qa := (hc _ _ q1).trans qa
  replace rz := (hc _ _ q1).trans rz
  replace uj := (hc _ _ q1).trans uj
  replace q1 := Nat.lt_of_lt_of_le q1 hbx.size
  replace Ai := (hc _ _ yh).trans Ai
  replace Ah := (hc _ _ yh).trans Ah
  replace yh := Nat.lt_of_lt_of_le yh hbx.size
  replace Ag := (hc _ _ yg).trans Ag
  replace Af := (hc _ _ yg).trans Af
  replace yg := Nat.lt_of_lt_of_le yg hbx.size
  replace za := (hc _ _ q2).trans za
  replace Ae := (hfz _ _ q2).trans Ae
  replace yz := (hc _ _ q2).trans yz
  replace Ad := (hfz _ _ q2).trans Ad
  replace yx := (hc _ _ q2).trans yx
  replace Ac := (hfz _ _ q2).trans Ac
  replace yw := (hc _ _ q2).trans yw
  replace zz := (hfz _ _ q2).trans zz
  replace NR := Lib.hid ((hbx.block _ q2).trans NR.out)
  replace q2 := Nat.lt_of_lt_of_le q2 hbx.size
  replace hw0 := ek hw0 hbx
  replace H1 := hide ((aa H1).below hbx)
  replace H3 := hide ((aa H3).below hbx)
  replace H5 := hide ((aa H5).below hbx)
  replace H6 := hide ((aa H6).below hbx)
  clear hbx hc hfz
  go_wp2_with fail
  refine ((aa HO3) A6 c6 l6 m6 _ hw0 (aa H6)).mono ?_
  rintro e W3 ⟨rfl, hbx⟩
  obtain ⟨hc, hfz⟩ := gp hbx
  replace oz := (hc _ _ q0).trans oz
  replace ou := (hc _ _ q0).trans ou
  replace qh := (hc _ _ q0).trans qh
  replace qz := (hc _ _ q0).trans qz
  replace q0 := Nat.lt_of_lt_of_le q0 hbx.size
  replace qb := (hc _ _ q1).trans qb
  replace qa := (hc _ _ q1).trans qa
  replace rz := (hc _ _ q1).trans rz
  replace uj := (hc _ _ q1).trans uj
  replace q1 := Nat.lt_of_lt_of_le q1 hbx.size
  replace Ai := (hc _ _ yh).trans Ai
  replace Ah := (hc _ _ yh).trans Ah
  replace yh := Nat.lt_of_lt_of_le yh hbx.size
  replace Ag := (hc _ _ yg).trans Ag
  replace Af := (hc _ _ yg).trans Af
  replace yg := Nat.lt_of_lt_of_le yg hbx.size
  replace za := (hc _ _ q2).trans za
  replace Ae := (hfz _ _ q2).trans Ae
  replace yz := (hc _ _ q2).trans yz
  replace Ad := (hfz _ _ q2).trans Ad
  replace yx := (hc _ _ q2).trans yx
  replace Ac := (hfz _ _ q2).trans Ac
  replace yw := (hc _ _ q2).trans yw
  replace zz := (hfz _ _ q2).trans zz
  replace NR := Lib.hid ((hbx.block _ q2).trans NR.out)
  replace q2 := Nat.lt_of_lt_of_le q2 hbx.size
  replace hw0 := ek hw0 hbx
  replace H1 := hide ((aa H1).below hbx)
  replace H3 := hide ((aa H3).below hbx)
  replace H5 := hide ((aa H5).below hbx)
  replace H6 := hide ((aa H6).below hbx)
  clear hbx hc hfz
  go_upto_region 4 with fail
  have KEEP := hide (show ∀ X, Below W3.heap.size W3 X → X.cell? ⟨w.heap.size, 0, none⟩ = some (.slice A1 l1.length c1) ∧ X.cell? ⟨w.heap.size, 1, none⟩ = some (.bool m1) ∧ X.cell? ⟨w.heap.size, 2, none⟩ = some (.slice A2 l2.length c2) ∧ X.cell? ⟨w.heap.size, 3, none⟩ = some (.bool m2) ∧ X.cell? ⟨w.heap.size + 1, 0, none⟩ = some (.slice A3 l3.length c3) ∧ X.cell? ⟨w.heap.size + 1, 1, none⟩ = some (.bool m3) ∧ X.cell? ⟨w.heap.size + 1, 2, none⟩ = some (.slice A4 l4.length c4) ∧ X.cell? ⟨w.heap.size + 1, 3, none⟩ = some (.bool m4) ∧ X.cell? ⟨b5, 0, none⟩ = some (.slice A5 l5.length c5) ∧ X.cell? ⟨b5, 1, none⟩ = some (.bool m5) ∧ X.cell? ⟨b6, 0, none⟩ = some (.slice A6 l6.length c6) ∧ X.cell? ⟨b6, 1, none⟩ = some (.bool m6) from fun X hB => ⟨au hB q0 oz, au hB q0 ou, au hB q0 qh, au hB q0 qz, au hB q1 qb, au hB q1 qa, au hB q1 rz, au hB q1 uj, au hB yh Ai, au hB yh Ah, au hB yg Ag, au hB yg Af⟩)
  go_region_held3 (fun w' => w'.cell? ⟨w.heap.size, 0, none⟩ = some (.slice A1 l1.length c1) ∧ w'.cell? ⟨w.heap.size, 1, none⟩ = some (.bool m1) ∧ w'.cell? ⟨w.heap.size, 2, none⟩ = some (.slice A2 l2.length c2) ∧ w'.cell? ⟨w.heap.size, 3, none⟩ = some (.bool m2) ∧ w'.cell? ⟨w.heap.size + 1, 0, none⟩ = some (.slice A3 l3.length c3) ∧ w'.cell? ⟨w.heap.size + 1, 1, none⟩ = some (.bool m3) ∧ w'.cell? ⟨w.heap.size + 1, 2, none⟩ = some (.slice A4 l4.length c4) ∧ w'.cell? ⟨w.heap.size + 1, 3, none⟩ = some (.bool m4) ∧ w'.cell? ⟨b5, 0, none⟩ = some (.slice A5 l5.length c5) ∧ w'.cell? ⟨b5, 1, none⟩ = some (.bool m5) ∧ w'.cell? ⟨b6, 0, none⟩ = some (.slice A6 l6.length c6) ∧ w'.cell? ⟨b6, 1, none⟩ = some (.bool m6)) (first | with_reducible exact ⟨(mr _ _ _ _ _ _ om).trans (au hbw q0 oz), (mr _ _ _ _ _ _ om).trans (au hbw q0 ou), (mr _ _ _ _ _ _ om).trans (au hbw q0 qh), (mr _ _ _ _ _ _ om).trans (au hbw q0 qz), (mr _ _ _ _ _ _ om).trans (au hbw q1 qb), (mr _ _ _ _ _ _ om).trans (au hbw q1 qa), (mr _ _ _ _ _ _ om).trans (au hbw q1 rz), (mr _ _ _ _ _ _ om).trans (au hbw q1 uj), (mr _ _ _ _ _ _ om).trans (au hbw yh Ai), (mr _ _ _ _ _ _ om).trans (au hbw yh Ah), (mr _ _ _ _ _ _ om).trans (au hbw yg Ag), (mr _ _ _ _ _ _ om).trans (au hbw yg Af)⟩ | with_reducible exact (aa KEEP) _ bel) (first | (go_at_call_of 120 (Value.agg #[.slice A1 l1.length c1, .bool m1]); refine ((aa HN) A1 c1 l1 m1 A3 c3 l3 m3 _ (ek hw0 bel) (jc.below (aa H1) bel) (jc.below (aa H3) bel)).mono ?_; rintro e w' ⟨Es, c10, l10, m10, rfl, Eh, Ei⟩; have hbw := fo (w := W3) bel Ei; have hsw := hbw.size; obtain ⟨hc, hfz⟩ := gp hbw) | (go_at_call_of 120 (Value.agg #[.slice A5 l5.length c5, .bool m5]); refine ((aa HM) A5 c5 l5 m5 A6 c6 l6 m6 _ (ek hw0 bel) (jc.below (aa H5) bel) (jc.below (aa H6) bel)).mono ?_; rintro e w' ⟨Ih, c11, Ib, m11, rfl, Ka, Ld⟩; have Eh := jc.below (jc.below Eh bel) Ld; have hbw := fo (w := W3) bel Ld; have hsw := hbw.size; obtain ⟨hc, hfz⟩ := gp hbw) | (go_at_call_of 115 (Value.agg #[.slice Es l10.length c10, .bool m10]); refine ((aa HR) Es c10 l10 m10 Ih c11 Ib m11 _ (ek hw0 bel) (jc.below Eh bel) (jc.below Ka bel)).mono ?_; rintro e w' ⟨Vr, c12, Us, m12, A13, c13, l13, m13, rfl, Oo, Xn, Ij⟩; have Eh := jc.below (jc.below Eh bel) Ij; have Ka := jc.below (jc.below Ka bel) Ij; have hbw := fo (w := W3) bel Ij; have hsw := hbw.size; obtain ⟨hc, hfz⟩ := gp hbw))
  all_goals
   have hblk : w'.heap[w.heap.size + 1 + 1]? = some (.cells #[.slice none 0 0, .bool false, .slice none 0 0, .bool false] 63 (0, 0)) := (hbw.block _ q2).trans NR.out
   have mo := Lib.hid hblk
   have ky : Below w.heap.size w w' := ek hw0 hbw
   have hfi := (Oo)
   have hfj := (Xn)
   clear hblk
   go_wp2_with fail
   exact bodyPost_ret (v := (Value.agg #[.slice Vr Us.length c12, .bool m12, .slice A13 l13.length c13, .bool m13])) (by simp [results, Tryz.results52, go_sem, hc, za, yz, yx, yw, q2]) rfl
    ⟨Vr, c12, Us, m12, A13, c13, l13, m13, rfl, hfi.upto mo.out (Bb _ _ _ _ _ _ _ _) (qp _ _ _ _ _ _), hfj.upto mo.out (Bb _ _ _ _ _ _ _ _) (qp _ _ _ _ _ _), ky.grown (qp _ _ _ _ _ _) ky.size (fun k hk => by injection hk with hk; omega)⟩

end Go.Proofs.YtfbcdfoohpkfeaaGreatDoor
namespace Go.Proofs.YtfbcdfoohpkfeaaGreatDoor
open Go.RowKit

end Go.Proofs.YtfbcdfoohpkfeaaGreatDoor
namespace Go.Proofs.YtfbcdfoohpkfeaaGreatDoor
open Go.RowKit

theorem anc (K : Nat) (A1 : Option Addr) (c1 : Nat) (l1 : List Nat) (m1 : Bool) (A2 : Option Addr) (c2 : Nat) (l2 : List Nat) (m2 : Bool) (A3 : Option Addr) (c3 : Nat) (l3 : List Nat) (m3 : Bool) (A4 : Option Addr) (c4 : Nat) (l4 : List Nat) (m4 : Bool) (x y : Rat) (w : World) (h1 : QV w A1 c1 l1 m1 A2 c2 l2 m2 x) (h2 : QV w A3 c3 l3 m3 A4 c4 l4 m4 y) (sx : Wd.Dc ic K x) (sy : Wd.Dc ic K y) (hK : 4 * K + 4 ≤ 35184372088832) :
  Calls Tryz.prog 52 #[.agg #[.slice A1 l1.length c1, .bool m1, .slice A2 l2.length c2, .bool m2], .agg #[.slice A3 l3.length c3, .bool m3, .slice A4 l4.length c4, .bool m4]] w fun e w' => QR w (x * y) e w' := by
 have hd1 := fun W (hW : Below w.heap.size w W) => Jg A1 c1 l1 m1 A2 c2 l2 m2 x W (h1.below hW)
 have hd3 := fun W (hW : Below w.heap.size w W) => Jg A3 c3 l3 m3 A4 c4 l4 m4 y W (h2.below hW)
 have hx := x.den_nz; have hy := y.den_nz
 have an := aop (w := w) sx.1 sy.1 om rfl
 have am := aop (w := w) sx.2 sy.2 om rfl
 have ar := atx (w := w) (sx.1.mul sy.1) (sx.2.mul sy.2) (Int.mul_ne_zero om om) om (Wd.awu x y)
 by_cases e1 : (x.den : Int) = 1
 ·
  by_cases e2 : (y.den : Int) = 1
  ·
   exact ayy A1 c1 l1 m1 A2 c2 l2 m2 A3 c3 l3 m3 A4 c4 l4 m4 x.num (x.den : Int) y.num (y.den : Int) _ (x * y) w h1.num h2.num hd1 hd3 (Yu (decide_eq_true e1).symm) (Yu (decide_eq_true e2).symm) an (Wd.awv e1 e2).1 (Wd.awv e1 e2).2
  ·
   exact ayz A1 c1 l1 m1 A2 c2 l2 m2 A3 c3 l3 m3 A4 c4 l4 m4 x.num (x.den : Int) y.num (y.den : Int) _ _ (x * y) w h1.num h2.num hd1 hd3 (Yu (decide_eq_true e1).symm) (Yu (decide_eq_false e2).symm) an am ar
 ·
  exact bat A1 c1 l1 m1 A2 c2 l2 m2 A3 c3 l3 m3 A4 c4 l4 m4 x.num (x.den : Int) y.num (y.den : Int) _ _ (x * y) w h1.num h2.num hd1 hd3 (Yu (decide_eq_false e1).symm) an am ar
end Go.Proofs.YtfbcdfoohpkfeaaGreatDoor
