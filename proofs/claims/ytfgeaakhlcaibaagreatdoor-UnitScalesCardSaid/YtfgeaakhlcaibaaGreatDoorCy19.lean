/- Texts beneath a law of layer 1. -/
import Derived.Test.YtfgeaakhlcaibaaGreatDoorCy18
import Derived.Test.YtfgeaakhlcaibaaGreatDoorRows
import Derived.ProofKit
import Derived.OpenShut
import Derived.LaidMore
import Derived.Lay
import Derived.Lib.SmallJoins
import Derived.Stop.Joined
import Derived.Lib.LaidTab
import Derived.Stop.LaidErr
set_option maxRecDepth 100000
set_option maxHeartbeats 16000000
namespace Go.Proofs.YtfgeaakhlcaibaaGreatDoor
open Go.RowKit

namespace Sb
theorem aqh (x : Rat) : ∀ n : Nat, x⁻¹ ^ n = (x ^ n)⁻¹
 | 0 => by rw [Rat.pow_zero, Rat.pow_zero]; kernel_rfl
 | n + 1 => by rw [Rat.pow_succ, Rat.pow_succ, aqh x n, Rat.inv_mul_rev, Rat.mul_comm]
theorem aai (x : Rat) (k : Int) : xk x k = x ^ k := by
 unfold xk
 cases k with
 | ofNat n => rw [if_neg (by simp)]; rfl
 | negSucc n =>
  rw [if_pos (Int.negSucc_lt_zero n), aqh]
  rfl
theorem ato {x : Rat} (h : x ≠ 0) (a b : Int) : xk x a * xk x b = xk x (a + b) := by
 rw [aai, aai, aai, Rat.zpow_add h]
theorem four (a b c d : Rat) : a * b * (c * d) = a * c * (b * d) := by
 rw [Rat.mul_assoc, Rat.mul_assoc, ← Rat.mul_assoc b, Rat.mul_comm b c, Rat.mul_assoc c]
theorem abg {f g h : Nat → Int} {l : List (Int × Int)} (hh : ∀ j, j < 7 → f j + g j = h j) : ∀ k, k ≤ 7 → (∀ j, j < k → Wd.oo (rn l j) (rd l j) ∧ 1 ≤ rn l j) → ko f l k * ko g l k = ko h l k
 | 0, _, _ => by show Rat.divInt 1 1 * Rat.divInt 1 1 = Rat.divInt 1 1; exact bia
 | k + 1, hk, ho => by
  have ih := abg hh k om (fun j hj => ho j om)
  have hx := awy (ho k om).1 (ho k om).2
  have hne : Wd.qR (rn l k) (rd l k) ≠ 0 := fun e => by rw [e] at hx; exact absurd hx (Rat.lt_irrefl)
  show ko f l k * xk _ (f k) * (ko g l k * xk _ (g k)) = ko h l k * xk _ (h k)
  rw [four, ih, ato hne, hh k om]
theorem Qk {f : Nat → Int} {n d : Int} {l : List (Int × Int)} (h : (xz f n d l).e = 0) : (Gg f n d ∧ Uj l) ∧ l.length = 7 ∧ (∀ j, j < 7 → 1 ≤ rn l j) ∧ xz f n d l = Wd.told (ko f l 7) := by
 unfold xz at h ⊢
 by_cases h1 : Gg f n d ∧ Uj l
 ·
  rw [if_pos h1] at h ⊢
  by_cases h2 : l.length = 7
  ·
   rw [if_pos h2] at h ⊢
   by_cases h3 : ∀ j, j < 7 → 1 ≤ rn l j
   ·
    rw [if_pos h3]
    exact ⟨h1, h2, h3, rfl⟩
   ·
    rw [if_neg h3] at h; cases h
  ·
   rw [if_neg h2] at h; cases h
 ·
  rw [if_neg h1] at h; cases h
theorem bhz {f g : Nat → Int} {n d p q : Int} (h : (Oj f n d g p q 1).e = 0) : (Oj f n d g p q 1).f = fun j => f j + g j * 1 := by
 unfold Oj at h ⊢
 by_cases h1 : yo f n d g p q = 0
 ·
  rw [if_pos h1] at h ⊢
  unfold ni at h ⊢
  by_cases h2 : Ad (fun j => f j + g j * 1)
  ·
   rw [if_pos h2] at h ⊢
   by_cases h3 : (Wd.told (Wd.qR n d * xk (Wd.qR p q) 1)).e = 0
   ·
    rw [if_pos h3]
   ·
    rw [if_neg h3] at h; exact absurd h h3
  ·
   rw [if_neg h2] at h; cases h
 ·
  rw [if_neg h1] at h; cases h
theorem aoo {f g : Nat → Int} {n d p q : Int} {l : List (Int × Int)} {tx tz tp : Wd.Told} {tm : Zp} (hx : tx = xz f n d l) (hm : tm = Oj f n d g p q 1) (hz : tz = xz g p q l) (hp : tp = xz tm.f tm.n tm.d l)
  (ex : tx.e = 0) (em : tm.e = 0) (ez : tz.e = 0) (ep : tp.e = 0) : (Wd.oo tx.n tx.d ∧ Wd.oo tz.n tz.d ∧ Wd.oo tp.n tp.d) ∧ Wd.qR tx.n tx.d * Wd.qR tz.n tz.d = Wd.qR tp.n tp.d := by
 subst hx hm hz hp
 obtain ⟨⟨_, o1⟩, o2, o3, x1⟩ := Qk ex
 obtain ⟨_, _, _, z1⟩ := Qk ez
 obtain ⟨_, _, _, p1⟩ := Qk ep
 rw [x1] at ex ⊢
 rw [z1] at ez ⊢
 rw [p1] at ep ⊢
 obtain ⟨a1, a2⟩ := Wd.aac ex
 obtain ⟨b1, b2⟩ := Wd.aac ez
 obtain ⟨c1, c2⟩ := Wd.aac ep
 refine ⟨⟨a1, b1, c1⟩, ?_⟩
 rw [a2, b2, c2]
 exact abg (fun j _ => by rw [bhz em]; show _ = f j + g j * 1; rw [Int.mul_one]) 7 (Nat.le_refl _) (fun j hj => ⟨o1 j om, o3 j hj⟩)
theorem asy {ρ : Operand → Value} {w : World} {d : Option Tmp} {x y : Operand} {p0 p1 : Int} {ty : TypeId} {pos : String} {af : Array Edge} {gd : Option (Nat × Bool)} (h : ρ x = .agg #[.int .i64 p0, .int .i64 p1]) (h' : ρ y = .agg #[.int .i64 p0, .int .i64 p1]) :
  (execOp ρ { dst := d, op := .binOp .neq 23 x y 23, type := ty, pos := pos, after := af, guard := gd }).run Tryz.prog w = .ok (.value (.bool false)) w := by
 simp only [execOp, h, h']
 simp [go_sem]
theorem azj {Q : Exit → Act → World → Prop} {l : List Oper} {n : Nat} {T : Nat → World → Value → Prop} {G : World → Prop} {al : List Nat} {a0 : Act} {k d : Nat} {ty : TypeId} {pos : String} {af : Array Edge} {gd : Option (Nat × Bool)} {x y : Operand} {p0 p1 : Int}
  (hal : al.contains k = false) (hx : Rg.ig l n T a0 k x (ax [iv p0, iv p1])) (hy : Rg.ig l n T a0 k y (ax [iv p0, iv p1])) (hT : T k = Rg.au (.bool false)) :
  Rg.Step Tryz.prog Q l n T G eu al a0 k { dst := some d, op := .binOp .neq 23 x y 23, type := ty, pos := pos, after := af, guard := gd } := by
 intro a w hG hO hN
 exact je (P := Tryz.prog) (asy (Fs (hx a w hO hN)) (Fs (hy a w hO hN))) ⟨_, rfl, hG, Below.refl _ _, by rw [hT]; rfl, fun h => by rw [hal] at h; cases h⟩
theorem aid {f g : Nat → Int} {n d p q : Int} {A : Option Addr} {c m : Nat} {l : List (Int × Int)} (w : World) (hT : qm w) (hm : m = l.length) (hc : m ≤ c ∧ c ≤ 9223372036854775807) (hrs : Rs w w.heap.size A l) (u0 : Value) (h0 : ax [.k (eK f), iv n, iv d] w u0) (u1 : Value) (h1 : ax [.k (eK g), iv p, iv q] w u1) :
  Calls Tryz.prog 8 #[u0, u1, .slice A m c] w (ib (Rg.au (.bool true)) w) := by
 obtain ⟨tx, hx⟩ : ∃ t, t = xz f n d l := ⟨_, rfl⟩
 obtain ⟨tm, hmu⟩ : ∃ t, t = Oj f n d g p q 1 := ⟨_, rfl⟩
 obtain ⟨tz, hz⟩ : ∃ t, t = xz g p q l := ⟨_, rfl⟩
 obtain ⟨tp, hp⟩ : ∃ t, t = xz tm.f tm.n tm.d l := ⟨_, rfl⟩
 have HE := hide (And.intro hx (And.intro hmu (And.intro hz hp)))
 have HT := hide hT
 have HC := hide (And.intro hm hc)
 have Um := hide hrs
 clear hx hmu hz hp hT hm hc hrs
 have hu0 := Ah h0
 subst hu0
 have hu1 := Ah h1
 subst hu1
 go_enter Tryz.func8, Tryz.ntmps8
 go_upto_region 1 with fail
 have hO := (Own.push (T := 44) (ls := [.k (eK g), iv p, iv q]) (Own.push (T := 44) (ls := [.k (eK f), iv n, iv d]) (Own.nil w) (fo.e (fo.v (kg _) (fo.v (kg _) rfl))) (w.heap.size) rfl) (fo.below (by repeat (first | exact Below.refl _ _ | refine gy ?_ _)) (fo.e (fo.v (kg _) (fo.v (kg _) rfl)))) (w.heap.size + 1) (by simp only [World.size_alloc]))
 generalize (w.alloc (.cells #[.int .i64 (f 0), .int .i64 (f 1), .int .i64 (f 2), .int .i64 (f 3), .int .i64 (f 4), .int .i64 (f 5), .int .i64 (f 6), .int .i64 n, .int .i64 d] 44)).alloc (.cells #[.int .i64 (g 0), .int .i64 (g 1), .int .i64 (g 2), .int .i64 (g 3), .int .i64 (g 4), .int .i64 (g 5), .int .i64 (g 6), .int .i64 p, .int .i64 q] 44) = W0 at *
 have HO := hide hO
 clear hO
 go_upto_region 1 with fail
 refine Rg.dh 7 77 (Rg.pick [ax [.k (eK f), iv n, iv d], Rg.au (.slice A m c), kz [ax [iv tx.n, iv tx.d], Rg.au (.int .i64 tx.e)], kz [ax [iv tx.n, iv tx.d], Rg.au (.int .i64 tx.e)], ax [iv tx.n, iv tx.d], Rg.au (.int .i64 tx.e), nk 23 zR W0.heap.size]) (ay w _ W0) eu [6] kr rfl (Rg.dw.pick ⟨az _, Rg.ae _, jf ⟨(az _), (Rg.ae _), trivial⟩, jf ⟨(az _), (Rg.ae _), trivial⟩, az _, Rg.ae _, ny _ _ _, trivial⟩) (ay.begin (aa HO))
  (ah (ic wy qg aF [] [.k (eK f), iv n, iv d] [])
  (ah (di rfl aF)
  (ah (sc2 Tryz.func44 (aT 0) (aT 1) (fun W v0 v1 hG h0 h1 => by cases h1; exact Ql tx W ((aa HT).below hG.bel) (aa HC).1 (Nat.le_trans (aa HC).2.1 (aa HC).2.2) ((aa Um).below hG.bel |>.up hG.bel.size) (aa HE).1 _ h0))
  (ah (di rfl (aT 2))
  (ah (ky (ts := [ax [iv tx.n, iv tx.d], Rg.au (.int .i64 tx.e)]) rfl (aT 3) (of_decide_eq_true rfl) rfl)
  (ah (ky (ts := [ax [iv tx.n, iv tx.d], Rg.au (.int .i64 tx.e)]) rfl (aT 3) (of_decide_eq_true rfl) rfl)
  (ah (oq Gc rfl ay.step ay.size rfl (qp (by intro j hj; simp at hj; (repeat' (first | (rcases hj with rfl | hj))) <;> first | (subst hj; exact ⟨_, _, _, rfl⟩) | exact ⟨_, _, _, rfl⟩)))
  Rg.bf))))))) ?_
 intro v1 V1 hG1 hv1 hne1
 simp only [Rg.puts, Act.put, tA]
 have e5 : v1 5 = .int .i64 tx.e := hv1 5 de
 obtain ⟨anb, e6, ui, zy⟩ := (show nk 23 zR W0.heap.size V1 (v1 6) from hv1 6 de)
 simp only [e5, e6]
 have hO := hG1.1
 replace hO := Own.add (aa HO) hG1.2 ui zy
 clear ui zy
 refine jq hO 0 [] zR [iv tx.n, iv tx.d] [] rfl qz rfl (show ax [iv tx.n, iv tx.d] V1 (v1 4) from hv1 4 de) rfl rfl rfl ?_
 intro za gm hk0
 replace hO := gm
 clear gm
 clear HO
 have HO := hide hO
 clear hO hG1 hv1 hne1 hk0
 try clear e5 e6
 go_upto_region 2 with fail
 refine Rg.dh 7 77 (Rg.pick [ax [.k (eK f), iv n, iv d], Rg.au (.slice A m c), kz [ax [iv tx.n, iv tx.d], Rg.au (.int .i64 tx.e)], kz [ax [iv tx.n, iv tx.d], Rg.au (.int .i64 tx.e)], ax [iv tx.n, iv tx.d], Rg.au (.int .i64 tx.e), nk 23 zR za.heap.size]) (ay w _ za) eu [6] kr rfl (Rg.dw.pick ⟨az _, Rg.ae _, jf ⟨(az _), (Rg.ae _), trivial⟩, jf ⟨(az _), (Rg.ae _), trivial⟩, az _, Rg.ae _, ny _ _ _, trivial⟩) (ay.begin (aa HO))
  (ah (ic wy Bv aF [] [.k (eK f), iv n, iv d] [])
  (ah (di rfl aF)
  (ah (sc2 Tryz.func45 (aT 0) (aT 1) (fun W v0 v1 hG h0 h1 => by cases h1; exact aie tx W (aa HC).1 (aa HC).2 ((aa Um).below hG.bel |>.up hG.bel.size) (aa HE).1 _ h0))
  (ah (di rfl (aT 2))
  (ah (ky (ts := [ax [iv tx.n, iv tx.d], Rg.au (.int .i64 tx.e)]) rfl (aT 3) (of_decide_eq_true rfl) rfl)
  (ah (ky (ts := [ax [iv tx.n, iv tx.d], Rg.au (.int .i64 tx.e)]) rfl (aT 3) (of_decide_eq_true rfl) rfl)
  (ah (oq Gc rfl ay.step ay.size rfl (qp (by intro j hj; simp at hj; (repeat' (first | (rcases hj with rfl | hj))) <;> first | (subst hj; exact ⟨_, _, _, rfl⟩) | exact ⟨_, _, _, rfl⟩)))
  Rg.bf))))))) ?_
 intro v2 V2 hG2 hv2 hne2
 simp only [Rg.puts, Act.put, tA]
 have e5 : v2 5 = .int .i64 tx.e := hv2 5 de
 obtain ⟨bga, e6, ui, zy⟩ := (show nk 23 zR za.heap.size V2 (v2 6) from hv2 6 de)
 simp only [e5, e6]
 have hO := hG2.1
 replace hO := Own.add (aa HO) hG2.2 ui zy
 clear ui zy
 refine jq hO 0 [] zR [iv tx.n, iv tx.d] [] rfl qz rfl (show ax [iv tx.n, iv tx.d] V2 (v2 4) from hv2 4 de) rfl rfl rfl ?_
 intro Et gm hk0
 replace hO := gm
 clear gm
 clear HO
 have HO := hide hO
 clear hO hG2 hv2 hne2 hk0
 try clear e5 e6
 go_upto_region 3 with fail
 refine Rg.dh 8 77 (Rg.pick [ax [iv tx.n, iv tx.d], ax [iv tx.n, iv tx.d], Rg.au (.bool false), Rg.au (.bool false), Rg.au (.int .i64 tx.e), Rg.au (.int .i64 tx.e), Rg.au (.bool false), Rg.au (.bool false)]) (ay w _ Et) eu [] kr rfl (Rg.dw.pick ⟨az _, az _, Rg.ae _, Rg.ae _, Rg.ae _, Rg.ae _, Rg.ae _, Rg.ae _, trivial⟩) (ay.begin (aa HO))
  (ah (ic uf qg aF [] [iv tx.n, iv tx.d] [])
  (ah (ic uf me0 aF [] [iv tx.n, iv tx.d] [])
  (ah (azj rfl (aT 0) (aT 1) rfl)
  (ah (di rfl (aT 2))
  (Rg.df (Rg.fu (d := 32) rfl kr rfl (di rfl aF))
  (Rg.df (Rg.fu (d := 32) rfl kr rfl (di rfl aF))
  (Rg.df (Rg.fu (d := 32) rfl kr rfl (qy rfl (aT 4) (aT 5) rfl (bne_self_eq_false _)))
  (ah (pg rfl (aT 3) (aT 6))
  Rg.bf)))))))) ?_
 intro v3 V3 hG3 hv3 ma
 simp only [Rg.puts, Act.put, tA]
 have e7 : v3 7 = .bool false := hv3 7 de
 simp only [e7]
 have hO := hG3.1
 clear HO
 have HO := hide hO
 clear hO hG3 hv3 ma
 try clear e7
 go_upto_region 5 with fail
 refine Rg.dh 7 77 (Rg.pick [ax [.k (eK f), iv n, iv d], ax [.k (eK g), iv p, iv q], kz [ax [.k (eK tm.f), iv tm.n, iv tm.d], Rg.au (.int .i64 tm.e)], kz [ax [.k (eK tm.f), iv tm.n, iv tm.d], Rg.au (.int .i64 tm.e)], ax [.k (eK tm.f), iv tm.n, iv tm.d], Rg.au (.int .i64 tm.e), nk 44 zU V3.heap.size]) (ay w _ V3) eu [6] kr rfl (Rg.dw.pick ⟨az _, az _, jf ⟨(az _), (Rg.ae _), trivial⟩, jf ⟨(az _), (Rg.ae _), trivial⟩, az _, Rg.ae _, ny _ _ _, trivial⟩) (ay.begin (aa HO))
  (ah (ic wy Nt aF [] [.k (eK f), iv n, iv d] [])
  (ah (ic wy Bv aF [] [.k (eK g), iv p, iv q] [])
  (ah (sc2 Tryz.func33 (aT 0) (aT 1) (fun W v0 v1 hG h0 h1 => (aa HE).2.1 ▸ bfv W ((aa HT).below hG.bel) _ h0 _ h1))
  (ah (di rfl (aT 2))
  (ah (ky (ts := [ax [.k (eK tm.f), iv tm.n, iv tm.d], Rg.au (.int .i64 tm.e)]) rfl (aT 3) (of_decide_eq_true rfl) rfl)
  (ah (ky (ts := [ax [.k (eK tm.f), iv tm.n, iv tm.d], Rg.au (.int .i64 tm.e)]) rfl (aT 3) (of_decide_eq_true rfl) rfl)
  (ah (oq Ns rfl ay.step ay.size rfl (qp (by intro j hj; simp at hj; (repeat' (first | (rcases hj with rfl | hj))) <;> first | (subst hj; exact ⟨_, _, _, rfl⟩) | exact ⟨_, _, _, rfl⟩)))
  Rg.bf))))))) ?_
 intro v4 V4 hG4 hv4 sw
 simp only [Rg.puts, Act.put, tA]
 have e5 : v4 5 = .int .i64 tm.e := hv4 5 de
 obtain ⟨bfz, e6, ui, zy⟩ := (show nk 44 zU V3.heap.size V4 (v4 6) from hv4 6 de)
 simp only [e5, e6]
 have hO := hG4.1
 replace hO := Own.add (aa HO) hG4.2 ui zy
 clear ui zy
 refine jq hO 0 [] zU [.k (eK tm.f), iv tm.n, iv tm.d] [] rfl zo rfl (show ax [.k (eK tm.f), iv tm.n, iv tm.d] V4 (v4 4) from hv4 4 de) rfl rfl rfl ?_
 intro Dk gm hk0
 replace hO := gm
 clear gm
 clear HO
 have HO := hide hO
 clear hO hG4 hv4 sw hk0
 try clear e5 e6
 go_upto_region 6 with fail
 refine Rg.dh 7 77 (Rg.pick [ax [.k (eK g), iv p, iv q], Rg.au (.slice A m c), kz [ax [iv tz.n, iv tz.d], Rg.au (.int .i64 tz.e)], kz [ax [iv tz.n, iv tz.d], Rg.au (.int .i64 tz.e)], ax [iv tz.n, iv tz.d], Rg.au (.int .i64 tz.e), nk 23 zR Dk.heap.size]) (ay w _ Dk) eu [6] kr rfl (Rg.dw.pick ⟨az _, Rg.ae _, jf ⟨(az _), (Rg.ae _), trivial⟩, jf ⟨(az _), (Rg.ae _), trivial⟩, az _, Rg.ae _, ny _ _ _, trivial⟩) (ay.begin (aa HO))
  (ah (ic wy Nt aF [] [.k (eK g), iv p, iv q] [])
  (ah (di rfl aF)
  (ah (sc2 Tryz.func44 (aT 0) (aT 1) (fun W v0 v1 hG h0 h1 => by cases h1; exact Ql tz W ((aa HT).below hG.bel) (aa HC).1 (Nat.le_trans (aa HC).2.1 (aa HC).2.2) ((aa Um).below hG.bel |>.up hG.bel.size) (aa HE).2.2.1 _ h0))
  (ah (di rfl (aT 2))
  (ah (ky (ts := [ax [iv tz.n, iv tz.d], Rg.au (.int .i64 tz.e)]) rfl (aT 3) (of_decide_eq_true rfl) rfl)
  (ah (ky (ts := [ax [iv tz.n, iv tz.d], Rg.au (.int .i64 tz.e)]) rfl (aT 3) (of_decide_eq_true rfl) rfl)
  (ah (oq Gc rfl ay.step ay.size rfl (qp (by intro j hj; simp at hj; (repeat' (first | (rcases hj with rfl | hj))) <;> first | (subst hj; exact ⟨_, _, _, rfl⟩) | exact ⟨_, _, _, rfl⟩)))
  Rg.bf))))))) ?_
 intro v5 V5 uk hv5 hne5
 simp only [Rg.puts, Act.put, tA]
 have e5 : v5 5 = .int .i64 tz.e := hv5 5 de
 obtain ⟨btz, e6, ui, zy⟩ := (show nk 23 zR Dk.heap.size V5 (v5 6) from hv5 6 de)
 simp only [e5, e6]
 have hO := uk.1
 replace hO := Own.add (aa HO) uk.2 ui zy
 clear ui zy
 refine jq hO 0 [] zR [iv tz.n, iv tz.d] [] rfl qz rfl (show ax [iv tz.n, iv tz.d] V5 (v5 4) from hv5 4 de) rfl rfl rfl ?_
 intro Da gm hk0
 replace hO := gm
 clear gm
 clear HO
 have HO := hide hO
 clear hO uk hv5 hne5 hk0
 try clear e5 e6
 go_upto_region 7 with fail
 refine Rg.dh 7 77 (Rg.pick [ax [.k (eK tm.f), iv tm.n, iv tm.d], Rg.au (.slice A m c), kz [ax [iv tp.n, iv tp.d], Rg.au (.int .i64 tp.e)], kz [ax [iv tp.n, iv tp.d], Rg.au (.int .i64 tp.e)], ax [iv tp.n, iv tp.d], Rg.au (.int .i64 tp.e), nk 23 zR Da.heap.size]) (ay w _ Da) eu [6] kr rfl (Rg.dw.pick ⟨az _, Rg.ae _, jf ⟨(az _), (Rg.ae _), trivial⟩, jf ⟨(az _), (Rg.ae _), trivial⟩, az _, Rg.ae _, ny _ _ _, trivial⟩) (ay.begin (aa HO))
  (ah (ic wy qg aF [] [.k (eK tm.f), iv tm.n, iv tm.d] [])
  (ah (di rfl aF)
  (ah (sc2 Tryz.func44 (aT 0) (aT 1) (fun W v0 v1 hG h0 h1 => by cases h1; exact Ql tp W ((aa HT).below hG.bel) (aa HC).1 (Nat.le_trans (aa HC).2.1 (aa HC).2.2) ((aa Um).below hG.bel |>.up hG.bel.size) (aa HE).2.2.2 _ h0))
  (ah (di rfl (aT 2))
  (ah (ky (ts := [ax [iv tp.n, iv tp.d], Rg.au (.int .i64 tp.e)]) rfl (aT 3) (of_decide_eq_true rfl) rfl)
  (ah (ky (ts := [ax [iv tp.n, iv tp.d], Rg.au (.int .i64 tp.e)]) rfl (aT 3) (of_decide_eq_true rfl) rfl)
  (ah (oq Gc rfl ay.step ay.size rfl (qp (by intro j hj; simp at hj; (repeat' (first | (rcases hj with rfl | hj))) <;> first | (subst hj; exact ⟨_, _, _, rfl⟩) | exact ⟨_, _, _, rfl⟩)))
  Rg.bf))))))) ?_
 intro v6 V6 Ap hv6 Dx
 simp only [Rg.puts, Act.put, tA]
 have e5 : v6 5 = .int .i64 tp.e := hv6 5 de
 obtain ⟨btx, e6, ui, zy⟩ := (show nk 23 zR Da.heap.size V6 (v6 6) from hv6 6 de)
 simp only [e5, e6]
 have hO := Ap.1
 replace hO := Own.add (aa HO) Ap.2 ui zy
 clear ui zy
 refine jq hO 0 [] zR [iv tp.n, iv tp.d] [] rfl qz rfl (show ax [iv tp.n, iv tp.d] V6 (v6 4) from hv6 4 de) rfl rfl rfl ?_
 intro Kv gm hk0
 replace hO := gm
 clear gm
 clear HO
 have HO := hide hO
 clear hO Ap hv6 Dx hk0
 try clear e5 e6
 by_cases q0 : tx.e = 0
 ·
  have d0 : (tx.e != 0) = false := by rw [q0]; rfl
  by_cases q1 : tm.e = 0
  ·
   have d1 : (tm.e != 0) = false := by rw [q1]; rfl
   by_cases q2 : tz.e = 0
   ·
    have d2 : (tz.e != 0) = false := by rw [q2]; rfl
    by_cases q3 : tp.e = 0
    ·
     have d3 : (tp.e != 0) = false := by rw [q3]; rfl
     have HQ := hide (aoo (aa HE).1 (aa HE).2.1 (aa HE).2.2.1 (aa HE).2.2.2 q0 q1 q2 q3)
     clear q0 q1 q2 q3
     go_upto_region 8 with fail
     refine Rg.dh 14 77 (Rg.pick [Rg.au (.int .i64 tx.e), Rg.au (.bool false), Rg.au (.bool false), Rg.au (.int .i64 tm.e), Rg.au (.bool false), Rg.au (.bool false), Rg.au (.bool false), Rg.au (.int .i64 tz.e), Rg.au (.bool false), Rg.au (.bool false), Rg.au (.bool false), Rg.au (.int .i64 tp.e), Rg.au (.bool false), Rg.au (.bool false)]) (ay w _ Kv) eu [] kr rfl (Rg.dw.pick ⟨Rg.ae _, Rg.ae _, Rg.ae _, Rg.ae _, Rg.ae _, Rg.ae _, Rg.ae _, Rg.ae _, Rg.ae _, Rg.ae _, Rg.ae _, Rg.ae _, Rg.ae _, Rg.ae _, trivial⟩) (ay.begin (aa HO))
      (ah (di rfl aF)
      (ah (qy rfl (aT 0) (Rg.iy _) rfl d0)
      (ah (di rfl (aT 1))
      (Rg.df (Rg.fu (d := 57) rfl kr rfl (di rfl aF))
      (Rg.df (Rg.fu (d := 57) rfl kr rfl (qy rfl (aT 3) (Rg.iy _) rfl d1))
      (ah (pg rfl (aT 2) (aT 4))
      (ah (di rfl (aT 5))
      (Rg.df (Rg.fu (d := 61) rfl kr rfl (di rfl aF))
      (Rg.df (Rg.fu (d := 61) rfl kr rfl (qy rfl (aT 7) (Rg.iy _) rfl d2))
      (ah (pg rfl (aT 6) (aT 8))
      (ah (di rfl (aT 9))
      (Rg.df (Rg.fu (d := 65) rfl kr rfl (di rfl aF))
      (Rg.df (Rg.fu (d := 65) rfl kr rfl (qy rfl (aT 11) (Rg.iy _) rfl d3))
      (ah (pg rfl (aT 10) (aT 12))
      Rg.bf)))))))))))))) ?_
     intro v7 V7 yw hv7 Ag
     simp only [Rg.puts, Act.put, tA]
     have e13 : v7 13 = .bool false := hv7 13 de
     simp only [e13]
     have hO := yw.1
     clear HO
     have HO := hide hO
     clear hO yw hv7 Ag
     try clear e13
     go_upto_region 10 with fail
     refine Rg.dh 8 77 (Rg.pick [ax [iv tx.n, iv tx.d], ax [iv tz.n, iv tz.d], ax [iv tp.n, iv tp.d], Rg.au (.bool true), Rg.au (.bool true), Rg.au (.bool true), Rg.au (.bool true), Rg.au (.bool true)]) (ay w _ V7) eu [] kr rfl (Rg.dw.pick ⟨az _, az _, az _, Rg.ae _, Rg.ae _, Rg.ae _, Rg.ae _, Rg.ae _, trivial⟩) (ay.begin (aa HO))
      (ah (ic uf me4 aF [] [iv tx.n, iv tx.d] [])
      (ah (ic uf qg aF [] [iv tz.n, iv tz.d] [])
      (ah (ic uf me0 aF [] [iv tp.n, iv tp.d] [])
      (ah (sc3 Tryz.func46 (aT 0) (aT 1) (aT 2) (fun W v0 v1 v2 hG h0 h1 h2 => aem W (aa HQ).1 (aa HQ).2 _ h0 _ h1 _ h2))
      (ah (di rfl (aT 3))
      (Rg.df (Rg.fu (d := 74) rfl kr rfl (Hu Tryz.func43 kr rfl ay.step  (fun W  hG  => Kh W ((aa HT).below hG.bel))))
      (ah (vg rfl (aT 4) (aT 5))
      (ah (jk rfl (aT 6))
      Rg.bf)))))))) ?_
     intro v8 V8 zn wz Az
     simp only [Rg.puts, Act.put, tA]
     have e6 : v8 6 = .bool true := wz 6 de
     have e7 : v8 7 = .bool true := wz 7 de
     simp only [e6, e7]
     have hO := zn.1
     clear HO
     have HO := hide hO
     clear hO zn wz Az
     try clear e6 e7
     go_wp2_with fail
     exact xw Tryz.results8 rfl (aa HO).bel rfl
    ·
     have d3 : (tp.e != 0) = true := by simp [bne, beq_eq_false_iff_ne.2 q3]
     go_upto_region 8 with fail
     refine Rg.dh 14 77 (Rg.pick [Rg.au (.int .i64 tx.e), Rg.au (.bool false), Rg.au (.bool false), Rg.au (.int .i64 tm.e), Rg.au (.bool false), Rg.au (.bool false), Rg.au (.bool false), Rg.au (.int .i64 tz.e), Rg.au (.bool false), Rg.au (.bool false), Rg.au (.bool false), Rg.au (.int .i64 tp.e), Rg.au (.bool true), Rg.au (.bool true)]) (ay w _ Kv) eu [] kr rfl (Rg.dw.pick ⟨Rg.ae _, Rg.ae _, Rg.ae _, Rg.ae _, Rg.ae _, Rg.ae _, Rg.ae _, Rg.ae _, Rg.ae _, Rg.ae _, Rg.ae _, Rg.ae _, Rg.ae _, Rg.ae _, trivial⟩) (ay.begin (aa HO))
      (ah (di rfl aF)
      (ah (qy rfl (aT 0) (Rg.iy _) rfl d0)
      (ah (di rfl (aT 1))
      (Rg.df (Rg.fu (d := 57) rfl kr rfl (di rfl aF))
      (Rg.df (Rg.fu (d := 57) rfl kr rfl (qy rfl (aT 3) (Rg.iy _) rfl d1))
      (ah (pg rfl (aT 2) (aT 4))
      (ah (di rfl (aT 5))
      (Rg.df (Rg.fu (d := 61) rfl kr rfl (di rfl aF))
      (Rg.df (Rg.fu (d := 61) rfl kr rfl (qy rfl (aT 7) (Rg.iy _) rfl d2))
      (ah (pg rfl (aT 6) (aT 8))
      (ah (di rfl (aT 9))
      (Rg.df (Rg.fu (d := 65) rfl kr rfl (di rfl aF))
      (Rg.df (Rg.fu (d := 65) rfl kr rfl (qy rfl (aT 11) (Rg.iy _) rfl d3))
      (ah (pg rfl (aT 10) (aT 12))
      Rg.bf)))))))))))))) ?_
     intro v7 V7 yw hv7 Ag
     simp only [Rg.puts, Act.put, tA]
     have e13 : v7 13 = .bool true := hv7 13 de
     simp only [e13]
     have hO := yw.1
     clear HO
     have HO := hide hO
     clear hO yw hv7 Ag
     try clear e13
     go_upto_region 9 with fail
     refine Rg.dh 2 77 (Rg.pick [Rg.au (.bool true), Rg.au (.bool true)]) (ay w _ V7) eu [] kr rfl (Rg.dw.pick ⟨Rg.ae _, Rg.ae _, trivial⟩) (ay.begin (aa HO))
      (ah (Hu Tryz.func43 kr rfl ay.step  (fun W  hG  => Kh W ((aa HT).below hG.bel)))
      (ah (jk rfl (aT 0))
      Rg.bf)) ?_
     intro v8 V8 zn wz Az
     simp only [Rg.puts, Act.put, tA]
     have e0 : v8 0 = .bool true := wz 0 de
     have e1 : v8 1 = .bool true := wz 1 de
     simp only [e0, e1]
     have hO := zn.1
     clear HO
     have HO := hide hO
     clear hO zn wz Az
     try clear e0 e1
     go_wp2_with fail
     exact xw Tryz.results8 rfl (aa HO).bel rfl
   ·
    have d2 : (tz.e != 0) = true := by simp [bne, beq_eq_false_iff_ne.2 q2]
    go_upto_region 8 with fail
    refine Rg.dh 14 77 (Rg.pick [Rg.au (.int .i64 tx.e), Rg.au (.bool false), Rg.au (.bool false), Rg.au (.int .i64 tm.e), Rg.au (.bool false), Rg.au (.bool false), Rg.au (.bool false), Rg.au (.int .i64 tz.e), Rg.au (.bool true), Rg.au (.bool true), Rg.au (.bool true), Rg.au undef, Rg.au undef, Rg.au (.bool true)]) (ay w _ Kv) eu [] kr rfl (Rg.dw.pick ⟨Rg.ae _, Rg.ae _, Rg.ae _, Rg.ae _, Rg.ae _, Rg.ae _, Rg.ae _, Rg.ae _, Rg.ae _, Rg.ae _, Rg.ae _, Rg.ae _, Rg.ae _, Rg.ae _, trivial⟩) (ay.begin (aa HO))
     (ah (di rfl aF)
     (ah (qy rfl (aT 0) (Rg.iy _) rfl d0)
     (ah (di rfl (aT 1))
     (Rg.df (Rg.fu (d := 57) rfl kr rfl (di rfl aF))
     (Rg.df (Rg.fu (d := 57) rfl kr rfl (qy rfl (aT 3) (Rg.iy _) rfl d1))
     (ah (pg rfl (aT 2) (aT 4))
     (ah (di rfl (aT 5))
     (Rg.df (Rg.fu (d := 61) rfl kr rfl (di rfl aF))
     (Rg.df (Rg.fu (d := 61) rfl kr rfl (qy rfl (aT 7) (Rg.iy _) rfl d2))
     (ah (pg rfl (aT 6) (aT 8))
     (ah (di rfl (aT 9))
     (Rg.df (Rg.mf (d := 65) rfl kr rfl rfl mg rfl rfl)
     (Rg.df (Rg.mf (d := 65) rfl kr rfl rfl mg rfl rfl)
     (ah (vg rfl (aT 10) (Rg.iy _))
     Rg.bf)))))))))))))) ?_
    intro v7 V7 yw hv7 Ag
    simp only [Rg.puts, Act.put, tA]
    have e13 : v7 13 = .bool true := hv7 13 de
    simp only [e13]
    have hO := yw.1
    clear HO
    have HO := hide hO
    clear hO yw hv7 Ag
    try clear e13
    go_upto_region 9 with fail
    refine Rg.dh 2 77 (Rg.pick [Rg.au (.bool true), Rg.au (.bool true)]) (ay w _ V7) eu [] kr rfl (Rg.dw.pick ⟨Rg.ae _, Rg.ae _, trivial⟩) (ay.begin (aa HO))
     (ah (Hu Tryz.func43 kr rfl ay.step  (fun W  hG  => Kh W ((aa HT).below hG.bel)))
     (ah (jk rfl (aT 0))
     Rg.bf)) ?_
    intro v8 V8 zn wz Az
    simp only [Rg.puts, Act.put, tA]
    have e0 : v8 0 = .bool true := wz 0 de
    have e1 : v8 1 = .bool true := wz 1 de
    simp only [e0, e1]
    have hO := zn.1
    clear HO
    have HO := hide hO
    clear hO zn wz Az
    try clear e0 e1
    go_wp2_with fail
    exact xw Tryz.results8 rfl (aa HO).bel rfl
  ·
   have d1 : (tm.e != 0) = true := by simp [bne, beq_eq_false_iff_ne.2 q1]
   go_upto_region 8 with fail
   refine Rg.dh 14 77 (Rg.pick [Rg.au (.int .i64 tx.e), Rg.au (.bool false), Rg.au (.bool false), Rg.au (.int .i64 tm.e), Rg.au (.bool true), Rg.au (.bool true), Rg.au (.bool true), Rg.au undef, Rg.au undef, Rg.au (.bool true), Rg.au (.bool true), Rg.au undef, Rg.au undef, Rg.au (.bool true)]) (ay w _ Kv) eu [] kr rfl (Rg.dw.pick ⟨Rg.ae _, Rg.ae _, Rg.ae _, Rg.ae _, Rg.ae _, Rg.ae _, Rg.ae _, Rg.ae _, Rg.ae _, Rg.ae _, Rg.ae _, Rg.ae _, Rg.ae _, Rg.ae _, trivial⟩) (ay.begin (aa HO))
    (ah (di rfl aF)
    (ah (qy rfl (aT 0) (Rg.iy _) rfl d0)
    (ah (di rfl (aT 1))
    (Rg.df (Rg.fu (d := 57) rfl kr rfl (di rfl aF))
    (Rg.df (Rg.fu (d := 57) rfl kr rfl (qy rfl (aT 3) (Rg.iy _) rfl d1))
    (ah (pg rfl (aT 2) (aT 4))
    (ah (di rfl (aT 5))
    (Rg.df (Rg.mf (d := 61) rfl kr rfl rfl mg rfl rfl)
    (Rg.df (Rg.mf (d := 61) rfl kr rfl rfl mg rfl rfl)
    (ah (vg rfl (aT 6) (Rg.iy _))
    (ah (di rfl (aT 9))
    (Rg.df (Rg.mf (d := 65) rfl kr rfl rfl mg rfl rfl)
    (Rg.df (Rg.mf (d := 65) rfl kr rfl rfl mg rfl rfl)
    (ah (vg rfl (aT 10) (Rg.iy _))
    Rg.bf)))))))))))))) ?_
   intro v7 V7 yw hv7 Ag
   simp only [Rg.puts, Act.put, tA]
   have e13 : v7 13 = .bool true := hv7 13 de
   simp only [e13]
   have hO := yw.1
   clear HO
   have HO := hide hO
   clear hO yw hv7 Ag
   try clear e13
   go_upto_region 9 with fail
   refine Rg.dh 2 77 (Rg.pick [Rg.au (.bool true), Rg.au (.bool true)]) (ay w _ V7) eu [] kr rfl (Rg.dw.pick ⟨Rg.ae _, Rg.ae _, trivial⟩) (ay.begin (aa HO))
    (ah (Hu Tryz.func43 kr rfl ay.step  (fun W  hG  => Kh W ((aa HT).below hG.bel)))
    (ah (jk rfl (aT 0))
    Rg.bf)) ?_
   intro v8 V8 zn wz Az
   simp only [Rg.puts, Act.put, tA]
   have e0 : v8 0 = .bool true := wz 0 de
   have e1 : v8 1 = .bool true := wz 1 de
   simp only [e0, e1]
   have hO := zn.1
   clear HO
   have HO := hide hO
   clear hO zn wz Az
   try clear e0 e1
   go_wp2_with fail
   exact xw Tryz.results8 rfl (aa HO).bel rfl
 ·
  have d0 : (tx.e != 0) = true := by simp [bne, beq_eq_false_iff_ne.2 q0]
  go_upto_region 8 with fail
  refine Rg.dh 14 77 (Rg.pick [Rg.au (.int .i64 tx.e), Rg.au (.bool true), Rg.au (.bool true), Rg.au undef, Rg.au undef, Rg.au (.bool true), Rg.au (.bool true), Rg.au undef, Rg.au undef, Rg.au (.bool true), Rg.au (.bool true), Rg.au undef, Rg.au undef, Rg.au (.bool true)]) (ay w _ Kv) eu [] kr rfl (Rg.dw.pick ⟨Rg.ae _, Rg.ae _, Rg.ae _, Rg.ae _, Rg.ae _, Rg.ae _, Rg.ae _, Rg.ae _, Rg.ae _, Rg.ae _, Rg.ae _, Rg.ae _, Rg.ae _, Rg.ae _, trivial⟩) (ay.begin (aa HO))
   (ah (di rfl aF)
   (ah (qy rfl (aT 0) (Rg.iy _) rfl d0)
   (ah (di rfl (aT 1))
   (Rg.df (Rg.mf (d := 57) rfl kr rfl rfl mg rfl rfl)
   (Rg.df (Rg.mf (d := 57) rfl kr rfl rfl mg rfl rfl)
   (ah (vg rfl (aT 2) (Rg.iy _))
   (ah (di rfl (aT 5))
   (Rg.df (Rg.mf (d := 61) rfl kr rfl rfl mg rfl rfl)
   (Rg.df (Rg.mf (d := 61) rfl kr rfl rfl mg rfl rfl)
   (ah (vg rfl (aT 6) (Rg.iy _))
   (ah (di rfl (aT 9))
   (Rg.df (Rg.mf (d := 65) rfl kr rfl rfl mg rfl rfl)
   (Rg.df (Rg.mf (d := 65) rfl kr rfl rfl mg rfl rfl)
   (ah (vg rfl (aT 10) (Rg.iy _))
   Rg.bf)))))))))))))) ?_
  intro v7 V7 yw hv7 Ag
  simp only [Rg.puts, Act.put, tA]
  have e13 : v7 13 = .bool true := hv7 13 de
  simp only [e13]
  have hO := yw.1
  clear HO
  have HO := hide hO
  clear hO yw hv7 Ag
  try clear e13
  go_upto_region 9 with fail
  refine Rg.dh 2 77 (Rg.pick [Rg.au (.bool true), Rg.au (.bool true)]) (ay w _ V7) eu [] kr rfl (Rg.dw.pick ⟨Rg.ae _, Rg.ae _, trivial⟩) (ay.begin (aa HO))
   (ah (Hu Tryz.func43 kr rfl ay.step  (fun W  hG  => Kh W ((aa HT).below hG.bel)))
   (ah (jk rfl (aT 0))
   Rg.bf)) ?_
  intro v8 V8 zn wz Az
  simp only [Rg.puts, Act.put, tA]
  have e0 : v8 0 = .bool true := wz 0 de
  have e1 : v8 1 = .bool true := wz 1 de
  simp only [e0, e1]
  have hO := zn.1
  clear HO
  have HO := hide hO
  clear hO zn wz Az
  try clear e0 e1
  go_wp2_with fail
  exact xw Tryz.results8 rfl (aa HO).bel rfl
end Sb

end Go.Proofs.YtfgeaakhlcaibaaGreatDoor
namespace Go.Proofs.YtfgeaakhlcaibaaGreatDoor
open Go.Joins Go.ChangeShapes Go.WideShapes Go.ChangeAt Go.RowKit

theorem own : ownKnob Tryz.prog.godebug = none := by kernel_rfl

def Ve : List (String × DataW Unit) := [("math/bits.deBruijn64tab", Rows.laid_math_bits_deBruijn64tab), ("unicode/utf8.acceptRanges", Rows.laid_unicode_utf8_acceptRanges), ("unicode/utf8.first", Rows.laid_unicode_utf8_first)]
theorem aoc : (Rows.laid_math_bits_deBruijn64tab : DataW Unit) = Lib.tabData .u8 (Lib.deBruijn64tab.map fun (n : Nat) => (n : Int)) := by kernel_rfl
theorem amr (l : List Nat) (j : Nat) : (l.map fun (n : Nat) => (n : Int)).getD j 0 = ((l.getD j 0 : Nat) : Int) := by
 rw [List.getD_eq_getElem?_getD, List.getD_eq_getElem?_getD, List.getElem?_map]
 cases l[j]? <;> rfl
theorem azd {W : World} (h : laidMetH Tryz.prog Ve W) : qm W := by
 rw [MakeChecks.laidMetH_plain _ _ _ kr] at h
 unfold Ve at h
 rw [aoc] at h
 have g64 : Tryz.prog.globalNamed "math/bits.deBruijn64tab" = some 1 := by kernel_rfl
 have t64 := Lib.tabIs_of_head g64 (show (Tryz.prog.globals[1]?).map (·.type) = some 229 by kernel_rfl) Tryz.underlying229 Tryz.underlying5 kr kr h
 have cell : ∀ j, j < Lib.deBruijn64tab.length → W.cell? ⟨1, j, none⟩ = some (.int .u8 (Lib.deBruijn64tab.getD j 0)) := fun j hj => by
  have := t64.cell g64 j (by rw [List.length_map]; exact hj)
  rwa [amr] at this
 refine ⟨cell, ?_⟩
 have h0 := cell 0 de
 rcases Nat.lt_or_ge 1 W.heap.size with hlt | hge
 ·
  exact hlt
 ·
  simp [World.cell?, Array.getElem?_eq_none hge] at h0
def avm {H : Type} (f : Nat → Int) (n d : Int) : DataW H := .agg [.agg [.lit (.int .i64 (f 0)), .lit (.int .i64 (f 1)), .lit (.int .i64 (f 2)), .lit (.int .i64 (f 3)), .lit (.int .i64 (f 4)), .lit (.int .i64 (f 5)), .lit (.int .i64 (f 6))], .agg [.lit (.int .i64 n), .lit (.int .i64 d)]]
def wfU (f : Nat → Int) (n d : Int) : Prop := (∀ j, j < 7 → (Lit.int .i64 (f j)).wf = true) ∧ (Lit.int .i64 n).wf = true ∧ (Lit.int .i64 d).wf = true
theorem bgb {α : Type} {cs : Array α} (h : cs.size = 9) : ∃ c0 c1 c2 c3 c4 c5 c6 c7 c8, cs = #[c0, c1, c2, c3, c4, c5, c6, c7, c8] := by
 obtain ⟨l⟩ := cs
 match l, h with
 | [c0, c1, c2, c3, c4, c5, c6, c7, c8], _ => exact ⟨c0, c1, c2, c3, c4, c5, c6, c7, c8, rfl⟩
theorem abj {H : Type} {enc : TypeId × Value → H} {w : World} {base : Nat} {spare : Nat → Bool} {held : Bool} {r : Reach} {b0 : Nat} {v : Value} {d : DataW H} {p : List MemPlace}
  (hv : Value.okWide Tryz.prog w r b0 44 v) (h : DataW.Trod enc Tryz.prog w base spare held 44 v d p) :
  ∃ (f : Nat → Int) (n m : Int), v = .agg #[.int .i64 (f 0), .int .i64 (f 1), .int .i64 (f 2), .int .i64 (f 3), .int .i64 (f 4), .int .i64 (f 5), .int .i64 (f 6), .int .i64 n, .int .i64 m] ∧ d = avm f n m ∧ p = [] ∧ wfU f n m := by
 obtain ⟨cs, rfl, hsz⟩ := okWide_struct Tryz.underlying44 hv
 obtain ⟨c0, c1, c2, c3, c4, c5, c6, c7, c8, rfl⟩ := bgb (hsz.trans (show Tryz.prog.cellsOf 44 = 9 by kernel_rfl))
 obtain ⟨fuel, hf⟩ := h
 obtain ⟨y0, y1, n, hx, _, h0, h1⟩ := trod_struct2 Tryz.underlying44 hf
 have k7 : Tryz.prog.cellsOf 42 = 7 := by kernel_rfl
 have k2 : Tryz.prog.cellsOf 23 = 2 := by kernel_rfl
 have k1 : Tryz.prog.cellsOf 3 = 1 := by kernel_rfl
 have h0' : DataW.trod enc Tryz.prog w base spare held n 42 [c0, c1, c2, c3, c4, c5, c6] = some y0 := by simpa [Value.cells, k7] using h0
 have h1' : DataW.trod enc Tryz.prog w base spare held n 23 [c7, c8] = some y1 := by simpa [Value.cells, k2] using h1
 obtain ⟨z7, z8, m, hy, _, g7, g8⟩ := trod_struct2 Tryz.underlying23 h1'
 have g7' : DataW.trod enc Tryz.prog w base spare held m 3 [c7] = some z7 := by simpa [k1] using g7
 have g8' : DataW.trod enc Tryz.prog w base spare held m 3 [c8] = some z8 := by simpa [k1] using g8
 obtain ⟨xs, m2, _, hy0, _, hl, hel⟩ := DataW.trod_array Tryz.underlying42 h0'
 match xs, hl with
 | [x0, x1, x2, x3, x4, x5, x6], _ =>
 have e0 : DataW.trod enc Tryz.prog w base spare held m2 3 [c0] = some x0 := by simpa [k1] using hel 0 om
 have e1 : DataW.trod enc Tryz.prog w base spare held m2 3 [c1] = some x1 := by simpa [k1] using hel 1 om
 have e2 : DataW.trod enc Tryz.prog w base spare held m2 3 [c2] = some x2 := by simpa [k1] using hel 2 om
 have e3 : DataW.trod enc Tryz.prog w base spare held m2 3 [c3] = some x3 := by simpa [k1] using hel 3 om
 have e4 : DataW.trod enc Tryz.prog w base spare held m2 3 [c4] = some x4 := by simpa [k1] using hel 4 om
 have e5 : DataW.trod enc Tryz.prog w base spare held m2 3 [c5] = some x5 := by simpa [k1] using hel 5 om
 have e6 : DataW.trod enc Tryz.prog w base spare held m2 3 [c6] = some x6 := by simpa [k1] using hel 6 om
 obtain ⟨a0, q0, rfl, w0⟩ := DataW.trod_int Tryz.underlying3 e0
 obtain ⟨a1, q1, rfl, w1⟩ := DataW.trod_int Tryz.underlying3 e1
 obtain ⟨a2, q2, rfl, w2⟩ := DataW.trod_int Tryz.underlying3 e2
 obtain ⟨a3, q3, rfl, w3⟩ := DataW.trod_int Tryz.underlying3 e3
 obtain ⟨a4, q4, rfl, w4⟩ := DataW.trod_int Tryz.underlying3 e4
 obtain ⟨a5, q5, rfl, w5⟩ := DataW.trod_int Tryz.underlying3 e5
 obtain ⟨a6, q6, rfl, w6⟩ := DataW.trod_int Tryz.underlying3 e6
 obtain ⟨a7, q7, rfl, w7⟩ := DataW.trod_int Tryz.underlying3 g7'
 obtain ⟨a8, q8, rfl, w8⟩ := DataW.trod_int Tryz.underlying3 g8'
 simp only [List.cons.injEq, and_true] at q0 q1 q2 q3 q4 q5 q6 q7 q8
 subst q0 q1 q2 q3 q4 q5 q6 q7 q8 hy hy0
 simp only [Prod.mk.injEq] at hx
 refine ⟨fun j => if j = 0 then a0 else if j = 1 then a1 else if j = 2 then a2 else if j = 3 then a3 else if j = 4 then a4 else if j = 5 then a5 else a6, a7, a8, rfl, hx.1, by simpa using hx.2, fun j hj => ?_, w7, w8⟩
 have hc : j = 0 ∨ j = 1 ∨ j = 2 ∨ j = 3 ∨ j = 4 ∨ j = 5 ∨ j = 6 := by omega
 rcases hc with rfl | rfl | rfl | rfl | rfl | rfl | rfl
 ·
  exact w0
 ·
  exact w1
 ·
  exact w2
 ·
  exact w3
 ·
  exact w4
 ·
  exact w5
 ·
  exact w6
theorem aab {H : Type} {enc : TypeId × Value → H} {w : World} {base : Nat} {spare : Nat → Bool} {held : Bool} {f : Nat → Int} (hw : ∀ j, j < 7 → (Lit.int .i64 (f j)).wf = true) :
  DataW.trod enc Tryz.prog w base spare held 2 42 [.int .i64 (f 0), .int .i64 (f 1), .int .i64 (f 2), .int .i64 (f 3), .int .i64 (f 4), .int .i64 (f 5), .int .i64 (f 6)] = some (.agg [.lit (.int .i64 (f 0)), .lit (.int .i64 (f 1)), .lit (.int .i64 (f 2)), .lit (.int .i64 (f 3)), .lit (.int .i64 (f 4)), .lit (.int .i64 (f 5)), .lit (.int .i64 (f 6))], []) := by
 have k7 : Tryz.prog.cellsOf 42 = 7 := by kernel_rfl
 have k1 : Tryz.prog.cellsOf 3 = 1 := by kernel_rfl
 have i0 : ∀ k : Int, (Lit.int .i64 k).wf = true → DataW.trod enc Tryz.prog w base spare held 1 3 [.int .i64 k] = some (.lit (.int .i64 k), []) := fun k hk => trod_int_mk 0 Tryz.underlying3 hk
 have hr : List.range 7 = [0, 1, 2, 3, 4, 5, 6] := rfl
 unfold DataW.trod
 rw [Tryz.underlying42]
 simp [k7, k1, hr, i0 _ (hw 0 om), i0 _ (hw 1 om), i0 _ (hw 2 om), i0 _ (hw 3 om), i0 _ (hw 4 om), i0 _ (hw 5 om), i0 _ (hw 6 om)]
theorem abf {H : Type} {enc : TypeId × Value → H} {w : World} {base : Nat} {spare : Nat → Bool} {held : Bool} {f : Nat → Int} {n d : Int} (hw : wfU f n d) :
  DataW.Trod enc Tryz.prog w base spare held 44 (.agg #[.int .i64 (f 0), .int .i64 (f 1), .int .i64 (f 2), .int .i64 (f 3), .int .i64 (f 4), .int .i64 (f 5), .int .i64 (f 6), .int .i64 n, .int .i64 d]) (avm f n d) [] := by
 have k9 : Tryz.prog.cellsOf 44 = 9 := by kernel_rfl
 have k7 : Tryz.prog.cellsOf 42 = 7 := by kernel_rfl
 have k2 : Tryz.prog.cellsOf 23 = 2 := by kernel_rfl
 have k1 : Tryz.prog.cellsOf 3 = 1 := by kernel_rfl
 have i0 : ∀ k : Int, (Lit.int .i64 k).wf = true → DataW.trod enc Tryz.prog w base spare held 1 3 [.int .i64 k] = some (.lit (.int .i64 k), []) := fun k hk => trod_int_mk 0 Tryz.underlying3 hk
 have r1 := aab (enc := enc) (w := w) (base := base) (spare := spare) (held := held) hw.1
 have r2 := trod_struct2_mk (enc := enc) (P := Tryz.prog) (w := w) (base := base) (spare := spare) (held := held) (n := 1) (cs := [.int .i64 n, .int .i64 d]) (y0 := (.lit (.int .i64 n), [])) (y1 := (.lit (.int .i64 d), [])) Tryz.underlying23 (by simp [k2])
  (by simpa [k1] using i0 n hw.2.1) (by simpa [k1] using i0 d hw.2.2)
 have r3 := trod_struct2_mk (enc := enc) (P := Tryz.prog) (w := w) (base := base) (spare := spare) (held := held) (n := 2) (cs := [.int .i64 (f 0), .int .i64 (f 1), .int .i64 (f 2), .int .i64 (f 3), .int .i64 (f 4), .int .i64 (f 5), .int .i64 (f 6), .int .i64 n, .int .i64 d]) Tryz.underlying44 (by simp [k9])
  (by simpa [k7] using r1) (by simpa [k2] using r2)
 exact ⟨3, by simpa [Value.cells, avm] using r3⟩
end Go.Proofs.YtfgeaakhlcaibaaGreatDoor
