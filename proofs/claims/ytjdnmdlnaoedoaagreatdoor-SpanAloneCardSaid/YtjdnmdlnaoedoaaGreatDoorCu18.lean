/- Texts beneath a law of layer 1. -/
import Derived.Test.YtjdnmdlnaoedoaaGreatDoorCu17
import Derived.Test.YtjdnmdlnaoedoaaGreatDoorRows
import Derived.ProofKit
import Derived.OpenShut
import Derived.LaidMore
import Derived.Lay
import Derived.Lib.SmallJoins
import Derived.Stop.Joined
set_option maxRecDepth 100000
set_option maxHeartbeats 16000000
namespace Go.Proofs.YtjdnmdlnaoedoaaGreatDoor
open Go.RowKit

namespace Sb
def opS (kd df cz di dh pq pg oz ou g : Int) : Er :=
 if kd = 1 then Ea (xw ((Wd.qR df cz) - (Wd.qR oz ou)) g) (Dj ((Wd.qR di dh) - (Wd.qR pq pg)) g)
 else if kd = 2 then Ea (xw (ku ((Wd.qR df cz) * (Wd.qR pq pg)) [(Wd.qR df cz) * (Wd.qR oz ou), (Wd.qR di dh) * (Wd.qR pq pg), (Wd.qR di dh) * (Wd.qR oz ou)]) g) (Dj (jg ((Wd.qR df cz) * (Wd.qR pq pg)) [(Wd.qR df cz) * (Wd.qR oz ou), (Wd.qR di dh) * (Wd.qR pq pg), (Wd.qR di dh) * (Wd.qR oz ou)]) g)
 else if kd = 3 then (if (Wd.qR pq pg) ≤ Rat.divInt 0 1 ∧ Rat.divInt 0 1 ≤ (Wd.qR oz ou) then ⟨0, 0, 0, 0, 4⟩ else Ea (xw (ku ((Wd.qR df cz) * (Wd.qR oz ou)⁻¹) [(Wd.qR df cz) * (Wd.qR pq pg)⁻¹, (Wd.qR di dh) * (Wd.qR oz ou)⁻¹, (Wd.qR di dh) * (Wd.qR pq pg)⁻¹]) g) (Dj (jg ((Wd.qR df cz) * (Wd.qR oz ou)⁻¹) [(Wd.qR df cz) * (Wd.qR pq pg)⁻¹, (Wd.qR di dh) * (Wd.qR oz ou)⁻¹, (Wd.qR di dh) * (Wd.qR pq pg)⁻¹]) g))
 else Ea (xw ((Wd.qR df cz) + (Wd.qR pq pg)) g) (Dj ((Wd.qR di dh) + (Wd.qR oz ou)) g)
def doS (kd df cz di dh pq pg oz ou g : Int) : Er := if oq (Az [⟨df, cz, di, dh⟩, ⟨pq, pg, oz, ou⟩]) g = 0 then opS kd df cz di dh pq pg oz ou g else ⟨0, 0, 0, 0, oq (Az [⟨df, cz, di, dh⟩, ⟨pq, pg, oz, ou⟩]) g⟩
section
variable {kd df cz di dh pq pg oz ou g : Int}
theorem bdw (h : oq (Az [⟨df, cz, di, dh⟩, ⟨pq, pg, oz, ou⟩]) g ≠ 0) : doS kd df cz di dh pq pg oz ou g = ⟨0, 0, 0, 0, oq (Az [⟨df, cz, di, dh⟩, ⟨pq, pg, oz, ou⟩]) g⟩ := if_neg h
theorem azs (h : oq (Az [⟨df, cz, di, dh⟩, ⟨pq, pg, oz, ou⟩]) g = 0) : doS kd df cz di dh pq pg oz ou g = opS kd df cz di dh pq pg oz ou g := if_pos h
theorem op2 : opS 2 df cz di dh pq pg oz ou g = Ea (xw (ku ((Wd.qR df cz) * (Wd.qR pq pg)) [(Wd.qR df cz) * (Wd.qR oz ou), (Wd.qR di dh) * (Wd.qR pq pg), (Wd.qR di dh) * (Wd.qR oz ou)]) g) (Dj (jg ((Wd.qR df cz) * (Wd.qR pq pg)) [(Wd.qR df cz) * (Wd.qR oz ou), (Wd.qR di dh) * (Wd.qR pq pg), (Wd.qR di dh) * (Wd.qR oz ou)]) g) := by unfold opS; rw [if_neg (by decide), if_pos rfl]
theorem aoj {x : Rat} {l : List Rat} (k : Sm 2 x ∧ ∀ z ∈ l, Sm 2 z) : Sm (2 + 1) (ku x l) ∧ Sm (2 + 1) (jg x l) := ⟨(Ol k.1 k.2).mono om om, (Jm k.1 k.2).mono om om⟩
theorem azv (w : World) (hT : qy w) (u0 : Value) (h0 : ai [iv df, iv cz, iv di, iv dh] w u0) (u1 : Value) (h1 : ai [iv pq, iv pg, iv oz, iv ou] w u1) : Calls Tryz.prog 83 #[u0, u1, .int .i64 g] w (il (Im (doS 2 df cz di dh pq pg oz ou g)) w) :=
 atw _ w hT u0 h0 u1 h1 (fun W v0 v1 hT h0 h1 => avk 151 _ (ku ((Wd.qR df cz) * (Wd.qR pq pg)) [(Wd.qR df cz) * (Wd.qR oz ou), (Wd.qR di dh) * (Wd.qR pq pg), (Wd.qR di dh) * (Wd.qR oz ou)]) (jg ((Wd.qR df cz) * (Wd.qR pq pg)) [(Wd.qR df cz) * (Wd.qR oz ou), (Wd.qR di dh) * (Wd.qR pq pg), (Wd.qR di dh) * (Wd.qR oz ou)]) _ W hT v0 h0 v1 h1 ⟨Tryz.func151, by kernel_rfl⟩
  (fun W v0 v1 hT hq h0 h1 => azu (Cg hq.1.1) (Cg hq.1.2.1) (Cg hq.2.1.1) (Cg hq.2.1.2.1) om W hT v0 h0 v1 h1) (fun hq => aoj (aev (K := 1) (Cg hq.1.1) (Cg hq.1.2.1) (Cg hq.2.1.1) (Cg hq.2.1.2.1) om W hT)) azl
  ⟨bdw, fun h => (azs h).trans op2⟩)
theorem aqc (w : World) (hT : qy w) : Calls Tryz.prog 28 #[] w (il (Rg.ax (.bool true)) w) :=
 ama w hT (fun W v0 v1 hT h0 h1 => by
  have h := azv (g := 1) W hT v0 h0 v1 h1
  rwa [show doS 2 (-1) 1 2 1 3 1 4 1 1 = ⟨-4, 1, 8, 1, 0⟩ by decide +kernel] at h)
end
end Sb

end Go.Proofs.YtjdnmdlnaoedoaaGreatDoor
namespace Go.Proofs.YtjdnmdlnaoedoaaGreatDoor
open Go.RowKit

namespace Sb
theorem atb {ρ : Operand → Value} {w : World} {d : Option Tmp} {x y : Operand} {p0 p1 p2 p3 q0 q1 q2 q3 : Int} {b : Bool} {ty : TypeId} {pos : String} {af : Array Edge} {gd : Option (Nat × Bool)} (h : ρ x = .agg #[.int .i64 p0, .int .i64 p1, .int .i64 p2, .int .i64 p3]) (h' : ρ y = .agg #[.int .i64 q0, .int .i64 q1, .int .i64 q2, .int .i64 q3]) (hb : decide (¬ (p0 = q0 ∧ p1 = q1 ∧ p2 = q2 ∧ p3 = q3)) = b) :
  (execOp ρ { dst := d, op := .binOp .neq 41 x y 41, type := ty, pos := pos, after := af, guard := gd }).run Tryz.prog w = .ok (.value (.bool b)) w := by
 subst hb
 simp only [execOp, h, h']
 by_cases k0 : p0 = q0 <;> by_cases k1 : p1 = q1 <;> by_cases k2 : p2 = q2 <;> by_cases k3 : p3 = q3 <;> simp [go_sem, k0, k1, k2, k3]
theorem aor {Q : Exit → Act → World → Prop} {l : List Oper} {n : Nat} {T : Nat → World → Value → Prop} {G : World → Prop} {al : List Nat} {a0 : Act} {k d : Nat} {ty : TypeId} {pos : String} {af : Array Edge} {gd : Option (Nat × Bool)} {x y : Operand} {p0 p1 p2 p3 q0 q1 q2 q3 : Int} {b : Bool}
  (hal : al.contains k = false) (hx : Rg.ji l n T a0 k x (ai [iv p0, iv p1, iv p2, iv p3])) (hy : Rg.ji l n T a0 k y (ai [iv q0, iv q1, iv q2, iv q3])) (hb : decide (¬ (p0 = q0 ∧ p1 = q1 ∧ p2 = q2 ∧ p3 = q3)) = b) (hT : T k = Rg.ax (.bool b)) :
  Rg.Step Tryz.prog Q l n T G gm al a0 k { dst := some d, op := .binOp .neq 41 x y 41, type := ty, pos := pos, after := af, guard := gd } := by
 intro a w hG hO hN
 exact pz (P := Tryz.prog) (atb (Bg (hx a w hO hN)) (Bg (hy a w hO hN)) hb) ⟨_, rfl, hG, Below.refl _ _, by rw [hT]; rfl, fun h => by rw [hal] at h; cases h⟩
def Vb (df cz di dh n g : Int) : Er :=
 if nk df cz di dh = 0 then (if n < 0 ∨ 12 < n then ⟨0, 0, 0, 0, 1⟩ else if oq 0 g = 0 then Ea (xw (Hm (Wd.qR df cz) (Wd.qR di dh) n.toNat) g) (Dj (Ho (Wd.qR df cz) (Wd.qR di dh) n.toNat) g) else ⟨0, 0, 0, 0, oq 0 g⟩) else ⟨0, 0, 0, 0, nk df cz di dh⟩
theorem val_zero {df cz di dh : Int} : nk df cz di dh = 0 ↔ xy df cz di dh := by
 unfold nk
 split
 ·
  rename_i h; exact ⟨fun _ => h, fun _ => rfl⟩
 ·
  rename_i h; exact ⟨fun e => absurd e (by decide), fun k => absurd k h⟩
theorem aet {df cz di dh : Int} (h : ¬ xy df cz di dh) : nk df cz di dh = 1 := if_neg h
theorem azo {g : Int} (h : 1 ≤ g ∧ g ≤ 1000000) : oq 0 g = 0 := if_neg (fun k => by omega)
theorem azp {g : Int} (h : ¬ (1 ≤ g ∧ g ≤ 1000000)) : oq 0 g = 1 := if_pos ⟨rfl, by omega⟩
theorem avq {df cz di dh n g : Int} (w : World) (hT : qy w) (u0 : Value) (h0 : ai [iv df, iv cz, iv di, iv dh] w u0) : Calls Tryz.prog 33 #[u0, .int .i64 n, .int .i64 g] w (il (Im (Vb df cz di dh n g)) w) := by
 refine aiz (m := n.toNat) _ w hT u0 h0 (fun h => (Int.toNat_of_nonneg h).symm) ⟨rfl, rfl⟩ ⟨fun h => if_neg h, fun h => ⟨fun h2 => ?_, fun h2 => ⟨fun h3 => ?_, fun h3 => ?_⟩⟩⟩
 ·
  unfold Vb; rw [if_pos h, if_pos h2]
 ·
  unfold Vb; rw [if_pos h, if_neg om, if_neg h3]
 ·
  unfold Vb; rw [if_pos h, if_neg om, if_pos h3]
theorem avo {df cz di dh n g : Int} (w : World) (u0 : Value) (h0 : ai [iv df, iv cz, iv di, iv dh] w u0) : Calls Tryz.prog 34 #[u0, .int .i64 n, .int .i64 g] w (il (Im (Vb df cz di dh n g)) w) := by
 refine aix (m := n.toNat) _ w u0 h0 (fun h => (Int.toNat_of_nonneg h).symm) ⟨rfl, rfl⟩ ⟨fun h => ?_, fun h => ?_⟩
 ·
  unfold Vb
  by_cases k1 : xy df cz di dh
  ·
   rw [if_pos (val_zero.2 k1)]
   by_cases k2 : n < 0 ∨ 12 < n
   ·
    rw [if_pos k2]
   ·
    have k3 : ¬ (1 ≤ g ∧ g ≤ 1000000) := fun k => h ⟨k1, by omega, by omega, k⟩
    rw [if_neg k2, azp k3]
    rfl
  ·
   rw [aet k1]; rfl
 ·
  unfold Vb
  rw [if_pos (val_zero.2 h.1), if_neg om, if_pos (azo h.2.2.2)]
theorem avd (a : Rat) : a * Rat.divInt 1 2 = a / Rat.divInt 2 1 := by
 rw [Rat.div_def, show (Rat.divInt 2 1)⁻¹ = Rat.divInt 1 2 by first | exact Rat.inv_divInt .. | decide +kernel]
theorem arc {df cz di dh : Int} (w : World) (u0 : Value) (h0 : ai [iv df, iv cz, iv di, iv dh] w u0) : Calls Tryz.prog 36 #[u0] w (il (HfT (Gh ⟨df, cz, di, dh⟩)) w) := by
 refine afk (M := ((Wd.qR df cz) + (Wd.qR di dh)) / Rat.divInt 2 1) _ _ _ _ _ _ _ _ _ w u0 h0 (avd _) ⟨fun h => ?_, fun h => ⟨fun h2 => ?_, fun h2 => ?_⟩⟩
 ·
  have e : Gh ⟨df, cz, di, dh⟩ = ⟨⟨0, 0, 0, 0⟩, ⟨0, 0, 0, 0⟩, 1⟩ := by
   have k := aet h
   unfold Gh
   rw [if_neg (by show ¬ nk df cz di dh = 0; omega)]
   show aep.mk _ _ (nk df cz di dh) = _
   rw [k]
  rw [e]; exact ⟨rfl, rfl, rfl, rfl, rfl, rfl, rfl, rfl, rfl⟩
 ·
  have e0 : Ku ⟨df, cz, di, dh⟩ = ⟨0, 0, 3⟩ := if_neg h2
  have e : Gh ⟨df, cz, di, dh⟩ = ⟨⟨0, 0, 0, 0⟩, ⟨0, 0, 0, 0⟩, 3⟩ := by unfold Gh; rw [if_pos (show nk df cz di dh = 0 from val_zero.2 h), e0]; rfl
  rw [e]; exact ⟨rfl, rfl, rfl, rfl, rfl, rfl, rfl, rfl, rfl⟩
 ·
  have e0 : Ku ⟨df, cz, di, dh⟩ = ⟨(((Wd.qR df cz) + (Wd.qR di dh)) / Rat.divInt 2 1).num, (((Wd.qR df cz) + (Wd.qR di dh)) / Rat.divInt 2 1).den, 0⟩ := if_pos h2
  have e : Gh ⟨df, cz, di, dh⟩ = ⟨⟨df, cz, (((Wd.qR df cz) + (Wd.qR di dh)) / Rat.divInt 2 1).num, (((Wd.qR df cz) + (Wd.qR di dh)) / Rat.divInt 2 1).den⟩, ⟨(((Wd.qR df cz) + (Wd.qR di dh)) / Rat.divInt 2 1).num, (((Wd.qR df cz) + (Wd.qR di dh)) / Rat.divInt 2 1).den, di, dh⟩, 0⟩ := by unfold Gh; rw [if_pos (show nk df cz di dh = 0 from val_zero.2 h), e0]; rfl
  rw [e]; exact ⟨rfl, rfl, rfl, rfl, rfl, rfl, rfl, rfl, rfl⟩
theorem aca {df cz di dh n g : Int} (t u : Er) (v : Int) (p : aep) (w : World) (hT : qy w) (u0 : Value) (h0 : ai [iv df, iv cz, iv di, iv dh] w u0)
  (ho1 : ∀ (W : World) (v0 : Value), qy W → ai [iv df, iv cz, iv di, iv dh] W v0 → Calls Tryz.prog 29 #[v0, .int .i64 g] W (il (Im t) W))
  (ho2 : ∀ (W : World) (v0 : Value), qy W → ai [iv df, iv cz, iv di, iv dh] W v0 → Calls Tryz.prog 30 #[v0, .int .i64 g] W (il (Im t) W))
  (hv1 : ∀ (W : World) (v0 : Value), qy W → ai [iv df, iv cz, iv di, iv dh] W v0 → Calls Tryz.prog 31 #[v0] W (il (Rg.ax (.int .i64 v)) W))
  (hv2 : ∀ (W : World) (v0 : Value), qy W → ai [iv df, iv cz, iv di, iv dh] W v0 → Calls Tryz.prog 32 #[v0] W (il (Rg.ax (.int .i64 v)) W))
  (hp1 : ∀ (W : World) (v0 : Value), qy W → ai [iv df, iv cz, iv di, iv dh] W v0 → Calls Tryz.prog 33 #[v0, .int .i64 n, .int .i64 g] W (il (Im u) W))
  (hp2 : ∀ (W : World) (v0 : Value), qy W → ai [iv df, iv cz, iv di, iv dh] W v0 → Calls Tryz.prog 34 #[v0, .int .i64 n, .int .i64 g] W (il (Im u) W))
  (Qp : ∀ (W : World) (v0 : Value), qy W → ai [iv df, iv cz, iv di, iv dh] W v0 → Calls Tryz.prog 35 #[v0] W (il (HfT p) W))
  (hh2 : ∀ (W : World) (v0 : Value), qy W → ai [iv df, iv cz, iv di, iv dh] W v0 → Calls Tryz.prog 36 #[v0] W (il (HfT p) W)) :
  Calls Tryz.prog 7 #[u0, .int .i64 n, .int .i64 g] w (il (Rg.ax (.bool true)) w) := by
 have Qa := hide ho1
 have Sc := hide ho2
 have Um := hide hv1
 have Nn := hide hv2
 have HP1 := hide hp1
 have HP2 := hide hp2
 have HH1 := hide Qp
 have HH2 := hide hh2
 have HT := hide hT
 clear ho1 ho2 hv1 hv2 hp1 hp2 Qp hh2 hT
 have hu0 := Bg h0
 subst hu0
 go_enter Tryz.func7, Tryz.ntmps7
 go_upto_region 1 with fail
 have hO := (Own.push (T := 41) (ls := [iv df, iv cz, iv di, iv dh]) (cs := [.int .i64 df, .int .i64 cz, .int .i64 di, .int .i64 dh]) (Own.nil w) (gu.v (jm _) (gu.v (jm _) (gu.v (jm _) (gu.v (jm _) rfl)))) (w.heap.size) rfl)
 generalize w.alloc (.cells #[.int .i64 df, .int .i64 cz, .int .i64 di, .int .i64 dh] 41) = W0 at *
 have HO := hide hO
 clear hO
 go_upto_region 1 with fail
 refine Rg.dz 7 90 (Rg.pick [ai [iv df, iv cz, iv di, iv dh], Rg.ax (.int .i64 g), qa [ai [iv t.a, iv t.b, iv t.c, iv t.d], Rg.ax (.int .i64 t.e)], qa [ai [iv t.a, iv t.b, iv t.c, iv t.d], Rg.ax (.int .i64 t.e)], ai [iv t.a, iv t.b, iv t.c, iv t.d], Rg.ax (.int .i64 t.e), qf 41 zS W0.heap.size]) (az w _ W0) gm [6] kr rfl (Rg.fq.pick ⟨au _, Rg.ae _, ko ⟨(au _), (Rg.ae _), trivial⟩, ko ⟨(au _), (Rg.ae _), trivial⟩, au _, Rg.ae _, qh _ _ _, trivial⟩) (az.begin (aa HO))
  (ag (fw oh me0 aF [] [iv df, iv cz, iv di, iv dh] [])
  (ag (dm rfl aF)
  (ag (sc2 Tryz.func29 (aT 0) (aT 1) (fun W v0 v1 hG h0 h1 => by cases h1; exact aa Qa W v0 ((aa HT).below hG.bel) h0))
  (ag (dm rfl (aT 2))
  (ag (ma (ts := [ai [iv t.a, iv t.b, iv t.c, iv t.d], Rg.ax (.int .i64 t.e)]) rfl (aT 3) (of_decide_eq_true rfl) rfl)
  (ag (ma (ts := [ai [iv t.a, iv t.b, iv t.c, iv t.d], Rg.ax (.int .i64 t.e)]) rfl (aT 3) (of_decide_eq_true rfl) rfl)
  (ag (si Tf rfl az.step az.size rfl (uw (by intro j hj; simp at hj; (repeat' (first | (rcases hj with rfl | hj))) <;> first | (subst hj; exact ⟨_, _, _, rfl⟩) | exact ⟨_, _, _, rfl⟩)))
  Rg.bg))))))) ?_
 intro v1 V1 hG1 hv1 hne1
 simp only [Rg.puts, Act.put, tA]
 have e5 : v1 5 = .int .i64 t.e := hv1 5 (by decide)
 obtain ⟨Zj, e6, xg, Ar⟩ := (show qf 41 zS W0.heap.size V1 (v1 6) from hv1 6 (by decide))
 simp only [e5, e6]
 have hO := hG1.1
 replace hO := Own.add (aa HO) hG1.2 xg Ar
 clear xg Ar
 refine jd hO 0 [] zS [iv t.a, iv t.b, iv t.c, iv t.d] [] rfl mg rfl (show ai [iv t.a, iv t.b, iv t.c, iv t.d] V1 (v1 4) from hv1 4 (by decide)) rfl rfl rfl ?_
 intro uo gy hk0
 replace hO := gy
 clear gy
 clear HO
 have HO := hide hO
 clear hO hG1 hv1 hne1 hk0
 try clear e5 e6
 go_upto_region 2 with fail
 refine Rg.dz 7 90 (Rg.pick [ai [iv df, iv cz, iv di, iv dh], Rg.ax (.int .i64 g), qa [ai [iv t.a, iv t.b, iv t.c, iv t.d], Rg.ax (.int .i64 t.e)], qa [ai [iv t.a, iv t.b, iv t.c, iv t.d], Rg.ax (.int .i64 t.e)], ai [iv t.a, iv t.b, iv t.c, iv t.d], Rg.ax (.int .i64 t.e), qf 41 zS uo.heap.size]) (az w _ uo) gm [6] kr rfl (Rg.fq.pick ⟨au _, Rg.ae _, ko ⟨(au _), (Rg.ae _), trivial⟩, ko ⟨(au _), (Rg.ae _), trivial⟩, au _, Rg.ae _, qh _ _ _, trivial⟩) (az.begin (aa HO))
  (ag (fw oh ky aF [] [iv df, iv cz, iv di, iv dh] [])
  (ag (dm rfl aF)
  (ag (sc2 Tryz.func30 (aT 0) (aT 1) (fun W v0 v1 hG h0 h1 => by cases h1; exact aa Sc W v0 ((aa HT).below hG.bel) h0))
  (ag (dm rfl (aT 2))
  (ag (ma (ts := [ai [iv t.a, iv t.b, iv t.c, iv t.d], Rg.ax (.int .i64 t.e)]) rfl (aT 3) (of_decide_eq_true rfl) rfl)
  (ag (ma (ts := [ai [iv t.a, iv t.b, iv t.c, iv t.d], Rg.ax (.int .i64 t.e)]) rfl (aT 3) (of_decide_eq_true rfl) rfl)
  (ag (si Tf rfl az.step az.size rfl (uw (by intro j hj; simp at hj; (repeat' (first | (rcases hj with rfl | hj))) <;> first | (subst hj; exact ⟨_, _, _, rfl⟩) | exact ⟨_, _, _, rfl⟩)))
  Rg.bg))))))) ?_
 intro v2 V2 hG2 hv2 hne2
 simp only [Rg.puts, Act.put, tA]
 have e5 : v2 5 = .int .i64 t.e := hv2 5 (by decide)
 obtain ⟨anc, e6, xg, Ar⟩ := (show qf 41 zS uo.heap.size V2 (v2 6) from hv2 6 (by decide))
 simp only [e5, e6]
 have hO := hG2.1
 replace hO := Own.add (aa HO) hG2.2 xg Ar
 clear xg Ar
 refine jd hO 0 [] zS [iv t.a, iv t.b, iv t.c, iv t.d] [] rfl mg rfl (show ai [iv t.a, iv t.b, iv t.c, iv t.d] V2 (v2 4) from hv2 4 (by decide)) rfl rfl rfl ?_
 intro yg gy hk0
 replace hO := gy
 clear gy
 clear HO
 have HO := hide hO
 clear hO hG2 hv2 hne2 hk0
 try clear e5 e6
 go_upto_region 3 with fail
 refine Rg.region 15 90 (Rg.pick [ai [iv df, iv cz, iv di, iv dh], Rg.ax (.int .i64 v), ai [iv df, iv cz, iv di, iv dh], Rg.ax (.int .i64 v), Rg.ax (.bool false), Rg.ax (.bool false), ai [iv t.a, iv t.b, iv t.c, iv t.d], ai [iv t.a, iv t.b, iv t.c, iv t.d], Rg.ax (.bool false), Rg.ax (.bool false), Rg.ax (.bool false), Rg.ax (.int .i64 t.e), Rg.ax (.int .i64 t.e), Rg.ax (.bool false), Rg.ax (.bool false)]) (az w _ yg) gm [] kr kr rfl (Rg.fq.pick ⟨au _, Rg.ae _, au _, Rg.ae _, Rg.ae _, Rg.ae _, au _, au _, Rg.ae _, Rg.ae _, Rg.ae _, Rg.ae _, Rg.ae _, Rg.ae _, Rg.ae _, trivial⟩) (az.start (aa HO))
  (ag (fw oh rf aF [] [iv df, iv cz, iv di, iv dh] [])
  (ag (sc1 Tryz.func31 (aT 0) (fun W v0 hG h0 => aa Um W v0 ((aa HT).below hG.bel) h0))
  (ag (fw oh rf aF [] [iv df, iv cz, iv di, iv dh] [])
  (ag (sc1 Tryz.func32 (aT 2) (fun W v0 hG h0 => aa Nn W v0 ((aa HT).below hG.bel) h0))
  (ag (Au rfl (aT 1) (aT 3) rfl (bne_self_eq_false v))
  (ag (dm rfl (aT 4))
  (Rg.ay (Rg.fe (d := 30) rfl kr rfl (fw oh ky aF [] [iv t.a, iv t.b, iv t.c, iv t.d] []))
  (Rg.ay (Rg.fe (d := 30) rfl kr rfl (fw oh me0 aF [] [iv t.a, iv t.b, iv t.c, iv t.d] []))
  (Rg.ay (Rg.fe (d := 30) rfl kr rfl (aor rfl (aT 6) (aT 7) (decide_eq_false (fun h => h ⟨rfl, rfl, rfl, rfl⟩)) rfl))
  (ag (qi rfl (aT 5) (aT 8))
  (ag (dm rfl (aT 9))
  (Rg.ay (Rg.fe (d := 35) rfl kr rfl (dm rfl aF))
  (Rg.ay (Rg.fe (d := 35) rfl kr rfl (dm rfl aF))
  (Rg.ay (Rg.fe (d := 35) rfl kr rfl (Au rfl (aT 11) (aT 12) rfl (bne_self_eq_false t.e)))
  (ag (qi rfl (aT 10) (aT 13))
  Rg.bg))))))))))))))) ?_
 intro v3 V3 hG3 hv3 mf
 simp only [Rg.puts, Act.put, tA]
 have e14 : v3 14 = .bool false := hv3 14 (by decide)
 simp only [e14]
 have hO := hG3.1
 clear HO
 have HO := hide hO
 clear hO hG3 hv3 mf
 try clear e14
 go_upto_region 5 with fail
 refine Rg.dz 7 90 (Rg.pick [ai [iv df, iv cz, iv di, iv dh], Rg.ax (.int .i64 n), Rg.ax (.int .i64 g), qa [ai [iv u.a, iv u.b, iv u.c, iv u.d], Rg.ax (.int .i64 u.e)], qa [ai [iv u.a, iv u.b, iv u.c, iv u.d], Rg.ax (.int .i64 u.e)], ai [iv u.a, iv u.b, iv u.c, iv u.d], Rg.ax (.int .i64 u.e)]) (az w _ V3) gm [] kr rfl (Rg.fq.pick ⟨au _, Rg.ae _, Rg.ae _, ko ⟨(au _), (Rg.ae _), trivial⟩, ko ⟨(au _), (Rg.ae _), trivial⟩, au _, Rg.ae _, trivial⟩) (az.begin (aa HO))
  (ag (fw oh rf aF [] [iv df, iv cz, iv di, iv dh] [])
  (ag (dm rfl aF)
  (ag (dm rfl aF)
  (ag (sc3 Tryz.func33 (aT 0) (aT 1) (aT 2) (fun W v0 v1 v2 hG h0 h1 h2 => by cases h1; cases h2; exact aa HP1 W v0 ((aa HT).below hG.bel) h0))
  (ag (dm rfl (aT 3))
  (ag (ma (ts := [ai [iv u.a, iv u.b, iv u.c, iv u.d], Rg.ax (.int .i64 u.e)]) rfl (aT 4) (of_decide_eq_true rfl) rfl)
  (ag (ma (ts := [ai [iv u.a, iv u.b, iv u.c, iv u.d], Rg.ax (.int .i64 u.e)]) rfl (aT 4) (of_decide_eq_true rfl) rfl)
  Rg.bg))))))) ?_
 intro v4 V4 hG4 hv4 ry
 simp only [Rg.puts, Act.put, tA]
 have e6 : v4 6 = .int .i64 u.e := hv4 6 (by decide)
 simp only [e6]
 have hO := hG4.1
 refine jd hO 1 [] [iv t.a, iv t.b, iv t.c, iv t.d] [iv u.a, iv u.b, iv u.c, iv u.d] [] rfl mg rfl (show ai [iv u.a, iv u.b, iv u.c, iv u.d] V4 (v4 5) from hv4 5 (by decide)) rfl rfl rfl ?_
 intro Ig gy hk0
 replace hO := gy
 clear gy
 clear HO
 have HO := hide hO
 clear hO hG4 hv4 ry hk0
 try clear e6
 go_upto_region 6 with fail
 refine Rg.dz 7 90 (Rg.pick [ai [iv df, iv cz, iv di, iv dh], Rg.ax (.int .i64 n), Rg.ax (.int .i64 g), qa [ai [iv u.a, iv u.b, iv u.c, iv u.d], Rg.ax (.int .i64 u.e)], qa [ai [iv u.a, iv u.b, iv u.c, iv u.d], Rg.ax (.int .i64 u.e)], ai [iv u.a, iv u.b, iv u.c, iv u.d], Rg.ax (.int .i64 u.e)]) (az w _ Ig) gm [] kr rfl (Rg.fq.pick ⟨au _, Rg.ae _, Rg.ae _, ko ⟨(au _), (Rg.ae _), trivial⟩, ko ⟨(au _), (Rg.ae _), trivial⟩, au _, Rg.ae _, trivial⟩) (az.begin (aa HO))
  (ag (fw oh rf aF [] [iv df, iv cz, iv di, iv dh] [])
  (ag (dm rfl aF)
  (ag (dm rfl aF)
  (ag (sc3 Tryz.func34 (aT 0) (aT 1) (aT 2) (fun W v0 v1 v2 hG h0 h1 h2 => by cases h1; cases h2; exact aa HP2 W v0 ((aa HT).below hG.bel) h0))
  (ag (dm rfl (aT 3))
  (ag (ma (ts := [ai [iv u.a, iv u.b, iv u.c, iv u.d], Rg.ax (.int .i64 u.e)]) rfl (aT 4) (of_decide_eq_true rfl) rfl)
  (ag (ma (ts := [ai [iv u.a, iv u.b, iv u.c, iv u.d], Rg.ax (.int .i64 u.e)]) rfl (aT 4) (of_decide_eq_true rfl) rfl)
  Rg.bg))))))) ?_
 intro v5 V5 xq hv5 hne5
 simp only [Rg.puts, Act.put, tA]
 have e6 : v5 6 = .int .i64 u.e := hv5 6 (by decide)
 simp only [e6]
 have hO := xq.1
 refine jd hO 0 [] [iv t.a, iv t.b, iv t.c, iv t.d] [iv u.a, iv u.b, iv u.c, iv u.d] [] rfl mg rfl (show ai [iv u.a, iv u.b, iv u.c, iv u.d] V5 (v5 5) from hv5 5 (by decide)) rfl rfl rfl ?_
 intro Ld gy hk0
 replace hO := gy
 clear gy
 clear HO
 have HO := hide hO
 clear hO xq hv5 hne5 hk0
 try clear e6
 go_upto_region 7 with fail
 refine Rg.dz 8 90 (Rg.pick [ai [iv u.a, iv u.b, iv u.c, iv u.d], ai [iv u.a, iv u.b, iv u.c, iv u.d], Rg.ax (.bool false), Rg.ax (.bool false), Rg.ax (.int .i64 u.e), Rg.ax (.int .i64 u.e), Rg.ax (.bool false), Rg.ax (.bool false)]) (az w _ Ld) gm [] kr rfl (Rg.fq.pick ⟨au _, au _, Rg.ae _, Rg.ae _, Rg.ae _, Rg.ae _, Rg.ae _, Rg.ae _, trivial⟩) (az.begin (aa HO))
  (ag (fw oh ky aF [] [iv u.a, iv u.b, iv u.c, iv u.d] [])
  (ag (fw oh me0 aF [] [iv u.a, iv u.b, iv u.c, iv u.d] [])
  (ag (aor rfl (aT 0) (aT 1) (decide_eq_false (fun h => h ⟨rfl, rfl, rfl, rfl⟩)) rfl)
  (ag (dm rfl (aT 2))
  (Rg.ay (Rg.fe (d := 57) rfl kr rfl (dm rfl aF))
  (Rg.ay (Rg.fe (d := 57) rfl kr rfl (dm rfl aF))
  (Rg.ay (Rg.fe (d := 57) rfl kr rfl (Au rfl (aT 4) (aT 5) rfl (bne_self_eq_false u.e)))
  (ag (qi rfl (aT 3) (aT 6))
  Rg.bg)))))))) ?_
 intro v6 V6 Fh hv6 Gv
 simp only [Rg.puts, Act.put, tA]
 have e7 : v6 7 = .bool false := hv6 7 (by decide)
 simp only [e7]
 have hO := Fh.1
 clear HO
 have HO := hide hO
 clear hO Fh hv6 Gv
 try clear e7
 go_upto_region 9 with fail
 refine Rg.dz 7 90 (Rg.pick [ai [iv df, iv cz, iv di, iv dh], qa [ai [iv p.p.a, iv p.p.b, iv p.p.c, iv p.p.d], ai [iv p.q.a, iv p.q.b, iv p.q.c, iv p.q.d], Rg.ax (.int .i64 p.e)], qa [ai [iv p.p.a, iv p.p.b, iv p.p.c, iv p.p.d], ai [iv p.q.a, iv p.q.b, iv p.q.c, iv p.q.d], Rg.ax (.int .i64 p.e)], ai [iv p.p.a, iv p.p.b, iv p.p.c, iv p.p.d], ai [iv p.q.a, iv p.q.b, iv p.q.c, iv p.q.d], Rg.ax (.int .i64 p.e), qf 41 zS V6.heap.size]) (az w _ V6) gm [6] kr rfl (Rg.fq.pick ⟨au _, ko ⟨(au _), (au _), (Rg.ae _), trivial⟩, ko ⟨(au _), (au _), (Rg.ae _), trivial⟩, au _, au _, Rg.ae _, qh _ _ _, trivial⟩) (az.begin (aa HO))
  (ag (fw oh rf aF [] [iv df, iv cz, iv di, iv dh] [])
  (ag (sc1 Tryz.func35 (aT 0) (fun W v0 hG h0 => aa HH1 W v0 ((aa HT).below hG.bel) h0))
  (ag (dm rfl (aT 1))
  (ag (ma (ts := [ai [iv p.p.a, iv p.p.b, iv p.p.c, iv p.p.d], ai [iv p.q.a, iv p.q.b, iv p.q.c, iv p.q.d], Rg.ax (.int .i64 p.e)]) rfl (aT 2) (of_decide_eq_true rfl) rfl)
  (ag (ma (ts := [ai [iv p.p.a, iv p.p.b, iv p.p.c, iv p.p.d], ai [iv p.q.a, iv p.q.b, iv p.q.c, iv p.q.d], Rg.ax (.int .i64 p.e)]) rfl (aT 2) (of_decide_eq_true rfl) rfl)
  (ag (ma (ts := [ai [iv p.p.a, iv p.p.b, iv p.p.c, iv p.p.d], ai [iv p.q.a, iv p.q.b, iv p.q.c, iv p.q.d], Rg.ax (.int .i64 p.e)]) rfl (aT 2) (of_decide_eq_true rfl) rfl)
  (ag (si Tf rfl az.step az.size rfl (uw (by intro j hj; simp at hj; (repeat' (first | (rcases hj with rfl | hj))) <;> first | (subst hj; exact ⟨_, _, _, rfl⟩) | exact ⟨_, _, _, rfl⟩)))
  Rg.bg))))))) ?_
 intro v7 V7 hG7 hv7 ags
 simp only [Rg.puts, Act.put, tA]
 have e5 : v7 5 = .int .i64 p.e := hv7 5 (by decide)
 obtain ⟨bqo, e6, xg, Ar⟩ := (show qf 41 zS V6.heap.size V7 (v7 6) from hv7 6 (by decide))
 simp only [e5, e6]
 have hO := hG7.1
 replace hO := Own.add (aa HO) hG7.2 xg Ar
 clear xg Ar
 refine jd hO 2 [] [iv u.a, iv u.b, iv u.c, iv u.d] [iv p.p.a, iv p.p.b, iv p.p.c, iv p.p.d] [] rfl mg rfl (show ai [iv p.p.a, iv p.p.b, iv p.p.c, iv p.p.d] V7 (v7 3) from hv7 3 (by decide)) rfl rfl rfl ?_
 intro beu gy hk0
 replace hO := gy
 clear gy
 refine jd hO 0 [] zS [iv p.q.a, iv p.q.b, iv p.q.c, iv p.q.d] [] rfl mg rfl (hk0 _ _ (show ai [iv p.q.a, iv p.q.b, iv p.q.c, iv p.q.d] V7 (v7 4) from hv7 4 (by decide))) rfl rfl rfl ?_
 intro avy Gw hk1
 replace hO := Gw
 clear Gw
 clear HO
 have HO := hide hO
 clear hO hG7 hv7 ags hk0 hk1
 try clear e5 e6
 go_upto_region 10 with fail
 refine Rg.dz 7 90 (Rg.pick [ai [iv df, iv cz, iv di, iv dh], qa [ai [iv p.p.a, iv p.p.b, iv p.p.c, iv p.p.d], ai [iv p.q.a, iv p.q.b, iv p.q.c, iv p.q.d], Rg.ax (.int .i64 p.e)], qa [ai [iv p.p.a, iv p.p.b, iv p.p.c, iv p.p.d], ai [iv p.q.a, iv p.q.b, iv p.q.c, iv p.q.d], Rg.ax (.int .i64 p.e)], ai [iv p.p.a, iv p.p.b, iv p.p.c, iv p.p.d], ai [iv p.q.a, iv p.q.b, iv p.q.c, iv p.q.d], Rg.ax (.int .i64 p.e), qf 41 zS avy.heap.size]) (az w _ avy) gm [6] kr rfl (Rg.fq.pick ⟨au _, ko ⟨(au _), (au _), (Rg.ae _), trivial⟩, ko ⟨(au _), (au _), (Rg.ae _), trivial⟩, au _, au _, Rg.ae _, qh _ _ _, trivial⟩) (az.begin (aa HO))
  (ag (fw oh Ed aF [] [iv df, iv cz, iv di, iv dh] [])
  (ag (sc1 Tryz.func36 (aT 0) (fun W v0 hG h0 => aa HH2 W v0 ((aa HT).below hG.bel) h0))
  (ag (dm rfl (aT 1))
  (ag (ma (ts := [ai [iv p.p.a, iv p.p.b, iv p.p.c, iv p.p.d], ai [iv p.q.a, iv p.q.b, iv p.q.c, iv p.q.d], Rg.ax (.int .i64 p.e)]) rfl (aT 2) (of_decide_eq_true rfl) rfl)
  (ag (ma (ts := [ai [iv p.p.a, iv p.p.b, iv p.p.c, iv p.p.d], ai [iv p.q.a, iv p.q.b, iv p.q.c, iv p.q.d], Rg.ax (.int .i64 p.e)]) rfl (aT 2) (of_decide_eq_true rfl) rfl)
  (ag (ma (ts := [ai [iv p.p.a, iv p.p.b, iv p.p.c, iv p.p.d], ai [iv p.q.a, iv p.q.b, iv p.q.c, iv p.q.d], Rg.ax (.int .i64 p.e)]) rfl (aT 2) (of_decide_eq_true rfl) rfl)
  (ag (si Tf rfl az.step az.size rfl (uw (by intro j hj; simp at hj; (repeat' (first | (rcases hj with rfl | hj))) <;> first | (subst hj; exact ⟨_, _, _, rfl⟩) | exact ⟨_, _, _, rfl⟩)))
  Rg.bg))))))) ?_
 intro v8 V8 hG8 hv8 bkh
 simp only [Rg.puts, Act.put, tA]
 have e5 : v8 5 = .int .i64 p.e := hv8 5 (by decide)
 obtain ⟨bqn, e6, xg, Ar⟩ := (show qf 41 zS avy.heap.size V8 (v8 6) from hv8 6 (by decide))
 simp only [e5, e6]
 have hO := hG8.1
 replace hO := Own.add (aa HO) hG8.2 xg Ar
 clear xg Ar
 refine jd hO 2 [] [iv u.a, iv u.b, iv u.c, iv u.d] [iv p.p.a, iv p.p.b, iv p.p.c, iv p.p.d] [] rfl mg rfl (show ai [iv p.p.a, iv p.p.b, iv p.p.c, iv p.p.d] V8 (v8 3) from hv8 3 (by decide)) rfl rfl rfl ?_
 intro bra gy hk0
 replace hO := gy
 clear gy
 refine jd hO 0 [] zS [iv p.q.a, iv p.q.b, iv p.q.c, iv p.q.d] [] rfl mg rfl (hk0 _ _ (show ai [iv p.q.a, iv p.q.b, iv p.q.c, iv p.q.d] V8 (v8 4) from hv8 4 (by decide))) rfl rfl rfl ?_
 intro blo Gw hk1
 replace hO := Gw
 clear Gw
 clear HO
 have HO := hide hO
 clear hO hG8 hv8 bkh hk0 hk1
 try clear e5 e6
 go_upto_region 11 with fail
 refine Rg.dz 17 90 (Rg.pick [ai [iv p.p.a, iv p.p.b, iv p.p.c, iv p.p.d], ai [iv p.p.a, iv p.p.b, iv p.p.c, iv p.p.d], Rg.ax (.bool true), Rg.ax (.bool true), ai [iv p.q.a, iv p.q.b, iv p.q.c, iv p.q.d], ai [iv p.q.a, iv p.q.b, iv p.q.c, iv p.q.d], Rg.ax (.bool true), Rg.ax (.bool true), Rg.ax (.bool true), Rg.ax (.int .i64 p.e), Rg.ax (.int .i64 p.e), Rg.ax (.bool true), Rg.ax (.bool true), Rg.ax (.bool true), Rg.ax (.bool true), Rg.ax (.bool true), Rg.ax (.bool true)]) (az w _ blo) gm [] kr rfl (Rg.fq.pick ⟨au _, au _, Rg.ae _, Rg.ae _, au _, au _, Rg.ae _, Rg.ae _, Rg.ae _, Rg.ae _, Rg.ae _, Rg.ae _, Rg.ae _, Rg.ae _, Rg.ae _, Rg.ae _, Rg.ae _, trivial⟩) (az.begin (aa HO))
  (ag (fw oh Ed aF [] [iv p.p.a, iv p.p.b, iv p.p.c, iv p.p.d] [])
  (ag (fw oh rf aF [] [iv p.p.a, iv p.p.b, iv p.p.c, iv p.p.d] [])
  (ag (afg rfl (aT 0) (aT 1) (decide_eq_true ⟨rfl, rfl, rfl, rfl⟩) rfl)
  (ag (dm rfl (aT 2))
  (Rg.ay (Rg.fe (d := 77) rfl kr rfl (fw oh ky aF [] [iv p.q.a, iv p.q.b, iv p.q.c, iv p.q.d] []))
  (Rg.ay (Rg.fe (d := 77) rfl kr rfl (fw oh me0 aF [] [iv p.q.a, iv p.q.b, iv p.q.c, iv p.q.d] []))
  (Rg.ay (Rg.fe (d := 77) rfl kr rfl (afg rfl (aT 4) (aT 5) (decide_eq_true ⟨rfl, rfl, rfl, rfl⟩) rfl))
  (ag (mr rfl (aT 3) (aT 6))
  (ag (dm rfl (aT 7))
  (Rg.ay (Rg.fe (d := 82) rfl kr rfl (dm rfl aF))
  (Rg.ay (Rg.fe (d := 82) rfl kr rfl (dm rfl aF))
  (Rg.ay (Rg.fe (d := 82) rfl kr rfl (Ju rfl (aT 9) (aT 10) rfl (beq_self_eq_true p.e)))
  (ag (mr rfl (aT 8) (aT 11))
  (ag (dm rfl (aT 12))
  (Rg.ay (Rg.fe (d := 87) rfl kr rfl (ajn Tryz.func28 kr rfl az.step  (fun W  hG  => aqc W ((aa HT).below hG.bel))))
  (ag (mr rfl (aT 13) (aT 14))
  (ag (nz rfl (aT 15))
  Rg.bg))))))))))))))))) ?_
 intro v9 V9 hG9 hv9 bkg
 simp only [Rg.puts, Act.put, tA]
 have e15 : v9 15 = .bool true := hv9 15 (by decide)
 have e16 : v9 16 = .bool true := hv9 16 (by decide)
 simp only [e15, e16]
 have hO := hG9.1
 clear HO
 have HO := hide hO
 clear hO hG9 hv9 bkg
 try clear e15 e16
 go_wp2_with fail
 exact Bn Tryz.results7 rfl (aa HO).bel rfl
theorem arl (s : Sp) (n g : Int) (w : World) (hT : qy w) (u0 : Value) (h0 : ai (lv4 s) w u0) : Calls Tryz.prog 7 #[u0, .int .i64 n, .int .i64 g] w (il (Rg.ax (.bool true)) w) :=
 aca (alu s.a s.b s.c s.d g) (Vb s.a s.b s.c s.d n g) (nk s.a s.b s.c s.d) (Gh ⟨s.a, s.b, s.c, s.d⟩) w hT u0 h0
  (fun W v0 hT h0 => bgm W hT v0 h0) (fun W v0 _ h0 => bdz W v0 h0) (fun W v0 hT h0 => Wh W hT v0 h0) (fun W v0 _ h0 => bea W v0 h0)
  (fun W v0 hT h0 => avq W hT v0 h0) (fun W v0 _ h0 => avo W v0 h0) (fun W v0 hT h0 => avt W hT v0 h0) (fun W v0 _ h0 => arc W v0 h0)
end Sb

end Go.Proofs.YtjdnmdlnaoedoaaGreatDoor
namespace Go.Proofs.YtjdnmdlnaoedoaaGreatDoor
open Go.Joins Go.ChangeShapes Go.WideShapes Go.ChangeAt Go.RowKit

theorem own : ownKnob Tryz.prog.godebug = none := by kernel_rfl
def aal {H : Type} : List (String × DataW H) := [("math/bits.deBruijn64tab", Rows.laid_math_bits_deBruijn64tab)]
theorem ast : (Rows.laid_math_bits_deBruijn64tab : DataW Unit) = .agg (Lib.deBruijn64tab.map fun (n : Nat) => .lit (.int .u8 (n : Int))) := by kernel_rfl
theorem bav {W : World} (h : laidMetH Tryz.prog aal W) : qy W := by
 rw [MakeChecks.laidMetH_plain _ _ _ kr] at h
 obtain ⟨ps, ⟨g, t, cs, fuel, p, q, hg, ht, hv, hd, _, _⟩, _, _⟩ := h
 obtain rfl := Option.some.inj ((show Tryz.prog.globalNamed "math/bits.deBruijn64tab" = some 0 by kernel_rfl).symm.trans hg)
 obtain rfl := Option.some.inj ((show (Tryz.prog.globals[0]?).map (·.type) = some 180 by kernel_rfl).symm.trans ht)
 obtain ⟨xs, m, _, ex, hcl, hl, hel⟩ := DataW.trod_array Tryz.underlying180 hd
 have c5 : Tryz.prog.cellsOf 5 = 1 := by kernel_rfl
 have hlen : Lib.deBruijn64tab.length = 64 := by kernel_rfl
 rw [ast] at ex
 have e3 : (xs.map (·.1)) = Lib.deBruijn64tab.map fun (n : Nat) => .lit (.int .u8 (n : Int)) := (DataW.agg.inj (Prod.mk.inj ex).1).symm
 have cell : ∀ r : Nat, r < 64 → W.cell? ⟨0, r, none⟩ = some (.int .u8 (Lib.deBruijn64tab.getD r 0)) := fun r hr => by
  have hE := hel r hr
  rw [c5, Nat.mul_one, List.getElem?_eq_getElem om] at hE
  obtain ⟨z, e1, e2, _⟩ := DataW.trod_int Tryz.underlying5 hE
  have e4 : (xs.map (·.1))[r]? = (Lib.deBruijn64tab.map fun (n : Nat) => (DataW.lit (.int .u8 (n : Int)) : DataW Unit))[r]? := by rw [e3]
  rw [List.getElem?_map, List.getElem?_map, List.getElem?_eq_getElem (by omega : r < xs.length), List.getElem?_eq_getElem (by omega : r < Lib.deBruijn64tab.length), e2] at e4
  have hz : z = (Lib.deBruijn64tab.getD r 0 : Nat) := by
   simp only [Option.map_some, Option.some.injEq, DataW.lit.injEq, Lit.int.injEq, true_and] at e4
   rw [e4, List.getD, List.getElem?_eq_getElem (by omega : r < Lib.deBruijn64tab.length)]; rfl
  rw [World.var?_cell hg hv r, ← hz]
  have : cs.toList[r]? = some (.int .u8 z) := by
   have h0 : ((cs.toList.drop r).take 1)[0]? = some (.int .u8 z) := by rw [e1]; rfl
   simpa using h0
  simpa using this
 refine ⟨fun j hj => cell j om, ?_⟩
 have h0 := cell 0 om
 rcases Nat.lt_or_ge 0 W.heap.size with hlt | hge
 ·
  exact hlt
 ·
  simp [World.cell?, Array.getElem?_eq_none hge] at h0

theorem alr {H : Type} {enc : TypeId × Value → H} {P : Program} {f : Func} {s : ChangeSpec} {apart : Bool} {W W' : World} {args : Array Value} {v : Value} {ds gs : List (DataW H)}
  (hW : DataW.Whole enc P f.params.toList s.vars apart W args.toList ds gs [])
  (hres : DataW.TrodAll enc P W' W.heap.size (fun _ => false) false f.resultTypes.toList (v.resultList f.resultTypes.size) (s.fn H (ds ++ gs)).results [])
  (hargs : DataW.TrodAll enc P W' 0 (fun b => decide (b < W.heap.size)) true f.params.toList args.toList (s.fn H (ds ++ gs)).args [])
  (hvars : DataW.TrodVars enc P W' (fun b => decide (b < W.heap.size)) s.vars (s.fn H (ds ++ gs)).vars []) (hb : Below W.heap.size W W') :
  s.post enc P f apart true false false W args v W' :=
 ⟨ds, gs, [], [], [], [], hW, hres, hargs, hvars, hb.frame _, fun h => by cases h⟩
end Go.Proofs.YtjdnmdlnaoedoaaGreatDoor
namespace Go.Proofs.YtjdnmdlnaoedoaaGreatDoor
open Go.Joins Go.ChangeShapes Go.WideShapes Go.ChangeAt Go.RowKit

theorem apx {H : Type} {enc : TypeId × Value → H} {w : World} {base : Nat} {spare : Nat → Bool} {held : Bool} {r : Reach} {b0 : Nat} {v : Value} {d : DataW H} {p : List MemPlace}
  (hv : Value.okWide Tryz.prog w r b0 41 v) (h : DataW.Trod enc Tryz.prog w base spare held 41 v d p) :
  ∃ a b c e : Int, v = .agg #[.int .i64 a, .int .i64 b, .int .i64 c, .int .i64 e] ∧ d = .agg [.agg [.lit (.int .i64 a), .lit (.int .i64 b)], .agg [.lit (.int .i64 c), .lit (.int .i64 e)]] ∧ p = [] ∧
   (Lit.int .i64 a).wf = true ∧ (Lit.int .i64 b).wf = true ∧ (Lit.int .i64 c).wf = true ∧ (Lit.int .i64 e).wf = true := by
 obtain ⟨cs, rfl, hsz⟩ := okWide_struct Tryz.underlying41 hv
 obtain ⟨c0, c1, c2, c3, rfl⟩ := array4 (hsz.trans (show Tryz.prog.cellsOf 41 = 4 by kernel_rfl))
 obtain ⟨fuel, hf⟩ := h
 obtain ⟨y0, y1, n, hx, _, h0, h1⟩ := trod_struct2 Tryz.underlying41 hf
 have k2 : Tryz.prog.cellsOf 23 = 2 := by kernel_rfl
 have k1 : Tryz.prog.cellsOf 3 = 1 := by kernel_rfl
 have h0' : DataW.trod enc Tryz.prog w base spare held n 23 [c0, c1] = some y0 := by simpa [Value.cells, k2] using h0
 have h1' : DataW.trod enc Tryz.prog w base spare held n 23 [c2, c3] = some y1 := by simpa [Value.cells, k2] using h1
 obtain ⟨z0, z1, m, hy, _, g0, g1⟩ := trod_struct2 Tryz.underlying23 h0'
 obtain ⟨z2, z3, m', hy', _, g2, g3⟩ := trod_struct2 Tryz.underlying23 h1'
 have g0' : DataW.trod enc Tryz.prog w base spare held m 3 [c0] = some z0 := by simpa [k1] using g0
 have g1' : DataW.trod enc Tryz.prog w base spare held m 3 [c1] = some z1 := by simpa [k1] using g1
 have g2' : DataW.trod enc Tryz.prog w base spare held m' 3 [c2] = some z2 := by simpa [k1] using g2
 have g3' : DataW.trod enc Tryz.prog w base spare held m' 3 [c3] = some z3 := by simpa [k1] using g3
 obtain ⟨a, e0, rfl, w0⟩ := DataW.trod_int Tryz.underlying3 g0'
 obtain ⟨b, e1, rfl, w1⟩ := DataW.trod_int Tryz.underlying3 g1'
 obtain ⟨c, e2, rfl, w2⟩ := DataW.trod_int Tryz.underlying3 g2'
 obtain ⟨e, e3, rfl, w3⟩ := DataW.trod_int Tryz.underlying3 g3'
 simp only [List.cons.injEq, and_true] at e0 e1 e2 e3
 subst e0 e1 e2 e3 hy hy'
 simp only [Prod.mk.injEq] at hx
 exact ⟨a, b, c, e, rfl, hx.1, by simpa using hx.2, w0, w1, w2, w3⟩
theorem aol {H : Type} {enc : TypeId × Value → H} {w : World} {base : Nat} {spare : Nat → Bool} {held : Bool} {a b c e : Int} (w0 : (Lit.int .i64 a).wf = true) (w1 : (Lit.int .i64 b).wf = true) (w2 : (Lit.int .i64 c).wf = true) (w3 : (Lit.int .i64 e).wf = true) :
  DataW.Trod enc Tryz.prog w base spare held 41 (.agg #[.int .i64 a, .int .i64 b, .int .i64 c, .int .i64 e]) (.agg [.agg [.lit (.int .i64 a), .lit (.int .i64 b)], .agg [.lit (.int .i64 c), .lit (.int .i64 e)]]) [] := by
 have k4 : Tryz.prog.cellsOf 41 = 4 := by kernel_rfl
 have k2 : Tryz.prog.cellsOf 23 = 2 := by kernel_rfl
 have k1 : Tryz.prog.cellsOf 3 = 1 := by kernel_rfl
 have i0 : ∀ k : Int, (Lit.int .i64 k).wf = true → DataW.trod enc Tryz.prog w base spare held 1 3 [.int .i64 k] = some (.lit (.int .i64 k), []) := fun k hk => trod_int_mk 0 Tryz.underlying3 hk
 have r1 := trod_struct2_mk (enc := enc) (P := Tryz.prog) (w := w) (base := base) (spare := spare) (held := held) (n := 1) (cs := [.int .i64 a, .int .i64 b]) (y0 := (.lit (.int .i64 a), [])) (y1 := (.lit (.int .i64 b), [])) Tryz.underlying23 (by simp [k2])
  (by simpa [k1] using i0 a w0) (by simpa [k1] using i0 b w1)
 have r2 := trod_struct2_mk (enc := enc) (P := Tryz.prog) (w := w) (base := base) (spare := spare) (held := held) (n := 1) (cs := [.int .i64 c, .int .i64 e]) (y0 := (.lit (.int .i64 c), [])) (y1 := (.lit (.int .i64 e), [])) Tryz.underlying23 (by simp [k2])
  (by simpa [k1] using i0 c w2) (by simpa [k1] using i0 e w3)
 have r3 := trod_struct2_mk (enc := enc) (P := Tryz.prog) (w := w) (base := base) (spare := spare) (held := held) (n := 2) (cs := [.int .i64 a, .int .i64 b, .int .i64 c, .int .i64 e]) Tryz.underlying41 (by simp [k4])
  (by simpa [k2] using r1) (by simpa [k2] using r2)
 exact ⟨3, by simpa [Value.cells] using r3⟩
end Go.Proofs.YtjdnmdlnaoedoaaGreatDoor
