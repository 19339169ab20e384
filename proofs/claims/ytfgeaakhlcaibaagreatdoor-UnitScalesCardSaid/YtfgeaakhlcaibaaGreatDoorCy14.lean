/- Texts beneath a law of layer 1. -/
import Derived.Test.YtfgeaakhlcaibaaGreatDoorCy13
import Derived.ChangeKeysEq
set_option maxRecDepth 100000
set_option maxHeartbeats 16000000
namespace Go.Proofs.YtfgeaakhlcaibaaGreatDoor
open Go.RowKit

namespace Sb
def Gg (f : Nat → Int) (n d : Int) : Prop := Ad f ∧ Wd.oo n d ∧ 1 ≤ n
instance (f : Nat → Int) (n d : Int) : Decidable (Gg f n d) := by unfold Gg; infer_instance
def De (f : Nat → Int) (n d : Int) : Int := if Gg f n d then 0 else 1
structure Zp where
 f : Nat → Int
 n : Int
 d : Int
 e : Int
abbrev Zo (t : Zp) : World → Value → Prop := kz [ax [.k (eK t.f), iv t.n, iv t.d], Rg.au (.int .i64 t.e)]
def ni (f : Nat → Int) (x : Rat) : Zp := if Ad f then (if (Wd.told x).e = 0 then ⟨f, (Wd.told x).n, (Wd.told x).d, 0⟩ else ⟨z7, 0, 0, (Wd.told x).e⟩) else ⟨z7, 0, 0, 3⟩
theorem Na {W : World} {v0 : Value} {n d : Int} (hT : qm W) (h0 : ax [iv n, iv d] W v0) : Calls Tryz.prog 66 #[v0] W (ib (Rg.au (.int .i64 (Oi n d))) W) := by
 rw [Fs h0]
 exact (ayz n d W hT).mono fun e w' h => Ue h
theorem ahe {W : World} {v0 : Value} {x : Rat} (h0 : ax [.q x] W v0) : Calls Tryz.prog 69 #[v0] W (ib (kz [ax [.v (.int .i64 (Wd.told x).n), .v (.int .i64 (Wd.told x).d)], Rg.au (.int .i64 (Wd.told x).e)]) W) :=
 (bil h0).mono fun e w' ⟨u, h1, h2, h3⟩ => ⟨u, h1, h2, by rw [h3]; exact ⟨[_, _], rfl, _, _, rfl, Ba _ _ _, _, _, rfl, rfl, rfl⟩⟩
theorem Uf {f : Nat → Int} {n d : Int} (w : World) (hT : qm w) (u0 : Value) (h0 : ax [.k (eK f), iv n, iv d] w u0) : Calls Tryz.prog 30 #[u0] w (ib (Rg.au (.int .i64 (De f n d))) w) := by
 obtain ⟨v, hv⟩ : ∃ v, v = De f n d := ⟨_, rfl⟩
 rw [← hv]
 have HV := hide hv
 have HT := hide hT
 clear hv hT
 have hu0 := Ah h0
 subst hu0
 go_enter Tryz.func30, Tryz.ntmps30
 go_upto_region 1 with fail
 have hO := (Own.push (T := 44) (ls := [.k (eK f), iv n, iv d]) (Own.nil w) (fo.e (fo.v (kg _) (fo.v (kg _) rfl))) (w.heap.size) rfl)
 generalize w.alloc (.cells #[.int .i64 (f 0), .int .i64 (f 1), .int .i64 (f 2), .int .i64 (f 3), .int .i64 (f 4), .int .i64 (f 5), .int .i64 (f 6), .int .i64 n, .int .i64 d] 44) = W0 at *
 have HO := hide hO
 clear hO
 by_cases g1 : Ad f
 ·
  by_cases g2 : Wd.oo n d
  ·
   by_cases g3 : n < 1
   ·
    have k1 : decide (Ad f) = true := decide_eq_true g1
    have k2 : Oi n d = 0 := if_pos g2
    have k3 : decide (n < 1) = true := decide_eq_true g3
    have hv : v = 1 := by rw [aa HV]; exact if_neg (fun h => absurd h.2.2 om)
    subst hv
    clear HV
    go_upto_region 1 with fail
    refine Rg.dh 16 19 (Rg.pick [Rg.au (.pointer (some ⟨w.heap.size, 0, none⟩)), ax [.k (eK f)], Rg.au (.bool true), Rg.au (.bool false), Rg.au (.bool false), Rg.au (.pointer (some ⟨w.heap.size, 7, none⟩)), ax [iv n, iv d], Rg.au (.int .i64 0), Rg.au (.bool false), Rg.au (.bool false), Rg.au (.bool false), Rg.au (.pointer (some ⟨w.heap.size, 7, none⟩)), Rg.au (.pointer (some ⟨w.heap.size, 7, none⟩)), Rg.au (.int .i64 n), Rg.au (.bool true), Rg.au (.bool true)]) (ay w _ W0) eu [] kr rfl (Rg.dw.pick ⟨Rg.ae _, az _, Rg.ae _, Rg.ae _, Rg.ae _, Rg.ae _, az _, Rg.ae _, Rg.ae _, Rg.ae _, Rg.ae _, Rg.ae _, Rg.ae _, Rg.ae _, Rg.ae _, Rg.ae _, trivial⟩) (ay.begin (aa HO))
     (ah (zw (b := w.heap.size) (off := 0) rfl aF rfl rfl)
     (ah (ic Gn me0 (aT 0) [] [.k (eK f)] [iv n, iv d])
     (ah (sc1 Tryz.func96 (aT 1) (fun W v0 hG h0 => Rn _ W _ h0 k1))
     (ah (zb rfl (aT 2) rfl rfl)
     (ah (di rfl (aT 3))
     (Rg.df (Rg.fu (d := 7) rfl kr rfl (Ak (b := w.heap.size) (off := 0) rfl aF rfl rfl))
     (Rg.df (Rg.fu (d := 7) rfl kr rfl (ic uf me0 (aT 5) [.k (eK f)] [iv n, iv d] []))
     (Rg.df (Rg.fu (d := 7) rfl kr rfl (Bo Tryz.func66 kr rfl ay.step (aT 6) (fun W v0 hG h0 => k2 ▸ Na ((aa HT).below hG.bel) h0)))
     (Rg.df (Rg.fu (d := 7) rfl kr rfl (qy rfl (aT 7) (Rg.iy _) rfl rfl))
     (ah (pg rfl (aT 4) (aT 8))
     (ah (di rfl (aT 9))
     (Rg.df (Rg.fu (d := 13) rfl kr rfl (Ak (b := w.heap.size) (off := 0) rfl aF rfl rfl))
     (Rg.df (Rg.fu (d := 13) rfl kr rfl (Co (b := w.heap.size) (off := 7) rfl (aT 11) rfl rfl))
     (Rg.df (Rg.fu (d := 13) rfl kr rfl (Lg Di me0 (aT 12) [.k (eK f)] [iv d] rfl))
     (Rg.df (Rg.fu (d := 13) rfl kr rfl (rz rfl (aT 13) (Rg.iy _) rfl k3))
     (ah (pg rfl (aT 10) (aT 14))
     Rg.bf)))))))))))))))) ?_
    intro v1 V1 hG1 hv1 hne1
    simp only [Rg.puts, Act.put, tA]
    have e15 : v1 15 = .bool true := hv1 15 de
    simp only [e15]
    have hO := hG1.1
    clear HO
    have HO := hide hO
    clear hO hG1 hv1 hne1
    try clear e15
    go_upto_region 2 with fail
    refine Rg.dh 1 19 (Rg.pick [Rg.au (.int .i64 1)]) (ay w _ V1) eu [] kr rfl (Rg.dw.pick ⟨Rg.ae _, trivial⟩) (ay.begin (aa HO))
     (ah (jk rfl (Rg.iy _))
     Rg.bf) ?_
    intro v2 V2 hG2 hv2 hne2
    simp only [Rg.puts, Act.put, tA]
    have e0 : v2 0 = .int .i64 1 := hv2 0 de
    simp only [e0]
    have hO := hG2.1
    clear HO
    have HO := hide hO
    clear hO hG2 hv2 hne2
    try clear e0
    go_wp2_with fail
    exact xw Tryz.results30 rfl (aa HO).bel rfl
   ·
    have k1 : decide (Ad f) = true := decide_eq_true g1
    have k2 : Oi n d = 0 := if_pos g2
    have k3 : decide (n < 1) = false := decide_eq_false g3
    have hv : v = 0 := by rw [aa HV]; exact if_pos ⟨g1, g2, by omega⟩
    subst hv
    clear HV
    go_upto_region 1 with fail
    refine Rg.dh 16 19 (Rg.pick [Rg.au (.pointer (some ⟨w.heap.size, 0, none⟩)), ax [.k (eK f)], Rg.au (.bool true), Rg.au (.bool false), Rg.au (.bool false), Rg.au (.pointer (some ⟨w.heap.size, 7, none⟩)), ax [iv n, iv d], Rg.au (.int .i64 0), Rg.au (.bool false), Rg.au (.bool false), Rg.au (.bool false), Rg.au (.pointer (some ⟨w.heap.size, 7, none⟩)), Rg.au (.pointer (some ⟨w.heap.size, 7, none⟩)), Rg.au (.int .i64 n), Rg.au (.bool false), Rg.au (.bool false)]) (ay w _ W0) eu [] kr rfl (Rg.dw.pick ⟨Rg.ae _, az _, Rg.ae _, Rg.ae _, Rg.ae _, Rg.ae _, az _, Rg.ae _, Rg.ae _, Rg.ae _, Rg.ae _, Rg.ae _, Rg.ae _, Rg.ae _, Rg.ae _, Rg.ae _, trivial⟩) (ay.begin (aa HO))
     (ah (zw (b := w.heap.size) (off := 0) rfl aF rfl rfl)
     (ah (ic Gn me0 (aT 0) [] [.k (eK f)] [iv n, iv d])
     (ah (sc1 Tryz.func96 (aT 1) (fun W v0 hG h0 => Rn _ W _ h0 k1))
     (ah (zb rfl (aT 2) rfl rfl)
     (ah (di rfl (aT 3))
     (Rg.df (Rg.fu (d := 7) rfl kr rfl (Ak (b := w.heap.size) (off := 0) rfl aF rfl rfl))
     (Rg.df (Rg.fu (d := 7) rfl kr rfl (ic uf me0 (aT 5) [.k (eK f)] [iv n, iv d] []))
     (Rg.df (Rg.fu (d := 7) rfl kr rfl (Bo Tryz.func66 kr rfl ay.step (aT 6) (fun W v0 hG h0 => k2 ▸ Na ((aa HT).below hG.bel) h0)))
     (Rg.df (Rg.fu (d := 7) rfl kr rfl (qy rfl (aT 7) (Rg.iy _) rfl rfl))
     (ah (pg rfl (aT 4) (aT 8))
     (ah (di rfl (aT 9))
     (Rg.df (Rg.fu (d := 13) rfl kr rfl (Ak (b := w.heap.size) (off := 0) rfl aF rfl rfl))
     (Rg.df (Rg.fu (d := 13) rfl kr rfl (Co (b := w.heap.size) (off := 7) rfl (aT 11) rfl rfl))
     (Rg.df (Rg.fu (d := 13) rfl kr rfl (Lg Di me0 (aT 12) [.k (eK f)] [iv d] rfl))
     (Rg.df (Rg.fu (d := 13) rfl kr rfl (rz rfl (aT 13) (Rg.iy _) rfl k3))
     (ah (pg rfl (aT 10) (aT 14))
     Rg.bf)))))))))))))))) ?_
    intro v1 V1 hG1 hv1 hne1
    simp only [Rg.puts, Act.put, tA]
    have e15 : v1 15 = .bool false := hv1 15 de
    simp only [e15]
    have hO := hG1.1
    clear HO
    have HO := hide hO
    clear hO hG1 hv1 hne1
    try clear e15
    go_upto_region 3 with fail
    refine Rg.dh 1 19 (Rg.pick [Rg.au (.int .i64 0)]) (ay w _ V1) eu [] kr rfl (Rg.dw.pick ⟨Rg.ae _, trivial⟩) (ay.begin (aa HO))
     (ah (jk rfl (Rg.iy _))
     Rg.bf) ?_
    intro v2 V2 hG2 hv2 hne2
    simp only [Rg.puts, Act.put, tA]
    have e0 : v2 0 = .int .i64 0 := hv2 0 de
    simp only [e0]
    have hO := hG2.1
    clear HO
    have HO := hide hO
    clear hO hG2 hv2 hne2
    try clear e0
    go_wp2_with fail
    exact xw Tryz.results30 rfl (aa HO).bel rfl
  ·
   have k1 : decide (Ad f) = true := decide_eq_true g1
   have k2 : Oi n d = 1 := if_neg g2
   have hv : v = 1 := by rw [aa HV]; exact if_neg (fun h => g2 h.2.1)
   subst hv
   clear HV
   go_upto_region 1 with fail
   refine Rg.dh 16 19 (Rg.pick [Rg.au (.pointer (some ⟨w.heap.size, 0, none⟩)), ax [.k (eK f)], Rg.au (.bool true), Rg.au (.bool false), Rg.au (.bool false), Rg.au (.pointer (some ⟨w.heap.size, 7, none⟩)), ax [iv n, iv d], Rg.au (.int .i64 1), Rg.au (.bool true), Rg.au (.bool true), Rg.au (.bool true), Rg.au undef, Rg.au undef, Rg.au undef, Rg.au undef, Rg.au (.bool true)]) (ay w _ W0) eu [] kr rfl (Rg.dw.pick ⟨Rg.ae _, az _, Rg.ae _, Rg.ae _, Rg.ae _, Rg.ae _, az _, Rg.ae _, Rg.ae _, Rg.ae _, Rg.ae _, Rg.ae _, Rg.ae _, Rg.ae _, Rg.ae _, Rg.ae _, trivial⟩) (ay.begin (aa HO))
    (ah (zw (b := w.heap.size) (off := 0) rfl aF rfl rfl)
    (ah (ic Gn me0 (aT 0) [] [.k (eK f)] [iv n, iv d])
    (ah (sc1 Tryz.func96 (aT 1) (fun W v0 hG h0 => Rn _ W _ h0 k1))
    (ah (zb rfl (aT 2) rfl rfl)
    (ah (di rfl (aT 3))
    (Rg.df (Rg.fu (d := 7) rfl kr rfl (Ak (b := w.heap.size) (off := 0) rfl aF rfl rfl))
    (Rg.df (Rg.fu (d := 7) rfl kr rfl (ic uf me0 (aT 5) [.k (eK f)] [iv n, iv d] []))
    (Rg.df (Rg.fu (d := 7) rfl kr rfl (Bo Tryz.func66 kr rfl ay.step (aT 6) (fun W v0 hG h0 => k2 ▸ Na ((aa HT).below hG.bel) h0)))
    (Rg.df (Rg.fu (d := 7) rfl kr rfl (qy rfl (aT 7) (Rg.iy _) rfl rfl))
    (ah (pg rfl (aT 4) (aT 8))
    (ah (di rfl (aT 9))
    (Rg.df (Rg.mf (d := 13) rfl kr rfl rfl mg rfl rfl)
    (Rg.df (Rg.mf (d := 13) rfl kr rfl rfl mg rfl rfl)
    (Rg.df (Rg.mf (d := 13) rfl kr rfl rfl mg rfl rfl)
    (Rg.df (Rg.mf (d := 13) rfl kr rfl rfl mg rfl rfl)
    (ah (vg rfl (aT 10) (Rg.iy _))
    Rg.bf)))))))))))))))) ?_
   intro v1 V1 hG1 hv1 hne1
   simp only [Rg.puts, Act.put, tA]
   have e15 : v1 15 = .bool true := hv1 15 de
   simp only [e15]
   have hO := hG1.1
   clear HO
   have HO := hide hO
   clear hO hG1 hv1 hne1
   try clear e15
   go_upto_region 2 with fail
   refine Rg.dh 1 19 (Rg.pick [Rg.au (.int .i64 1)]) (ay w _ V1) eu [] kr rfl (Rg.dw.pick ⟨Rg.ae _, trivial⟩) (ay.begin (aa HO))
    (ah (jk rfl (Rg.iy _))
    Rg.bf) ?_
   intro v2 V2 hG2 hv2 hne2
   simp only [Rg.puts, Act.put, tA]
   have e0 : v2 0 = .int .i64 1 := hv2 0 de
   simp only [e0]
   have hO := hG2.1
   clear HO
   have HO := hide hO
   clear hO hG2 hv2 hne2
   try clear e0
   go_wp2_with fail
   exact xw Tryz.results30 rfl (aa HO).bel rfl
 ·
  have k1 : decide (Ad f) = false := decide_eq_false g1
  have hv : v = 1 := by rw [aa HV]; exact if_neg (fun h => g1 h.1)
  subst hv
  clear HV
  go_upto_region 1 with fail
  refine Rg.dh 16 19 (Rg.pick [Rg.au (.pointer (some ⟨w.heap.size, 0, none⟩)), ax [.k (eK f)], Rg.au (.bool false), Rg.au (.bool true), Rg.au (.bool true), Rg.au undef, Rg.au undef, Rg.au undef, Rg.au undef, Rg.au (.bool true), Rg.au (.bool true), Rg.au undef, Rg.au undef, Rg.au undef, Rg.au undef, Rg.au (.bool true)]) (ay w _ W0) eu [] kr rfl (Rg.dw.pick ⟨Rg.ae _, az _, Rg.ae _, Rg.ae _, Rg.ae _, Rg.ae _, Rg.ae _, Rg.ae _, Rg.ae _, Rg.ae _, Rg.ae _, Rg.ae _, Rg.ae _, Rg.ae _, Rg.ae _, Rg.ae _, trivial⟩) (ay.begin (aa HO))
   (ah (zw (b := w.heap.size) (off := 0) rfl aF rfl rfl)
   (ah (ic Gn me0 (aT 0) [] [.k (eK f)] [iv n, iv d])
   (ah (sc1 Tryz.func96 (aT 1) (fun W v0 hG h0 => Rn _ W _ h0 k1))
   (ah (zb rfl (aT 2) rfl rfl)
   (ah (di rfl (aT 3))
   (Rg.df (Rg.mf (d := 7) rfl kr rfl rfl mg rfl rfl)
   (Rg.df (Rg.mf (d := 7) rfl kr rfl rfl mg rfl rfl)
   (Rg.df (Rg.mf (d := 7) rfl kr rfl rfl mg rfl rfl)
   (Rg.df (Rg.mf (d := 7) rfl kr rfl rfl mg rfl rfl)
   (ah (vg rfl (aT 4) (Rg.iy _))
   (ah (di rfl (aT 9))
   (Rg.df (Rg.mf (d := 13) rfl kr rfl rfl mg rfl rfl)
   (Rg.df (Rg.mf (d := 13) rfl kr rfl rfl mg rfl rfl)
   (Rg.df (Rg.mf (d := 13) rfl kr rfl rfl mg rfl rfl)
   (Rg.df (Rg.mf (d := 13) rfl kr rfl rfl mg rfl rfl)
   (ah (vg rfl (aT 10) (Rg.iy _))
   Rg.bf)))))))))))))))) ?_
  intro v1 V1 hG1 hv1 hne1
  simp only [Rg.puts, Act.put, tA]
  have e15 : v1 15 = .bool true := hv1 15 de
  simp only [e15]
  have hO := hG1.1
  clear HO
  have HO := hide hO
  clear hO hG1 hv1 hne1
  try clear e15
  go_upto_region 2 with fail
  refine Rg.dh 1 19 (Rg.pick [Rg.au (.int .i64 1)]) (ay w _ V1) eu [] kr rfl (Rg.dw.pick ⟨Rg.ae _, trivial⟩) (ay.begin (aa HO))
   (ah (jk rfl (Rg.iy _))
   Rg.bf) ?_
  intro v2 V2 hG2 hv2 hne2
  simp only [Rg.puts, Act.put, tA]
  have e0 : v2 0 = .int .i64 1 := hv2 0 de
  simp only [e0]
  have hO := hG2.1
  clear HO
  have HO := hide hO
  clear hO hG2 hv2 hne2
  try clear e0
  go_wp2_with fail
  exact xw Tryz.results30 rfl (aa HO).bel rfl
def yo (f : Nat → Int) (n d : Int) (g : Nat → Int) (p q : Int) : Int := if De f n d = 0 then De g p q else 1
theorem bfx {f g : Nat → Int} {n d p q : Int} (w : World) (hT : qm w) (u0 : Value) (h0 : ax [.k (eK f), iv n, iv d] w u0) (u1 : Value) (h1 : ax [.k (eK g), iv p, iv q] w u1) : Calls Tryz.prog 107 #[u0, u1] w (ib (Rg.au (.int .i64 (yo f n d g p q))) w) := by
 obtain ⟨v, hv⟩ : ∃ v, v = yo f n d g p q := ⟨_, rfl⟩
 rw [← hv]
 unfold yo at hv
 have HV := hide hv
 have HT := hide hT
 clear hv hT
 have hu0 := Ah h0
 subst hu0
 have hu1 := Ah h1
 subst hu1
 go_enter Tryz.func107, Tryz.ntmps107
 go_upto_region 1 with fail
 have hO := (Own.push (T := 44) (ls := [.k (eK g), iv p, iv q]) (Own.push (T := 44) (ls := [.k (eK f), iv n, iv d]) (Own.nil w) (fo.e (fo.v (kg _) (fo.v (kg _) rfl))) (w.heap.size) rfl) (fo.below (by repeat (first | exact Below.refl _ _ | refine gy ?_ _)) (fo.e (fo.v (kg _) (fo.v (kg _) rfl)))) (w.heap.size + 1) (by simp only [World.size_alloc]))
 generalize (w.alloc (.cells #[.int .i64 (f 0), .int .i64 (f 1), .int .i64 (f 2), .int .i64 (f 3), .int .i64 (f 4), .int .i64 (f 5), .int .i64 (f 6), .int .i64 n, .int .i64 d] 44)).alloc (.cells #[.int .i64 (g 0), .int .i64 (g 1), .int .i64 (g 2), .int .i64 (g 3), .int .i64 (g 4), .int .i64 (g 5), .int .i64 (g 6), .int .i64 p, .int .i64 q] 44) = W0 at *
 have HO := hide hO
 clear hO
 by_cases g1 : Gg f n d
 ·
  have k1 : De f n d = 0 := if_pos g1
  have hv : v = De g p q := by rw [aa HV, k1]; rfl
  subst hv
  clear HV
  go_upto_region 1 with fail
  refine Rg.dh 3 13 (Rg.pick [ax [.k (eK f), iv n, iv d], Rg.au (.int .i64 0), Rg.au (.int .i64 0)]) (ay w _ W0) eu [] kr rfl (Rg.dw.pick ⟨az _, Rg.ae _, Rg.ae _, trivial⟩) (ay.begin (aa HO))
   (ah (ic wy qg aF [] [.k (eK f), iv n, iv d] [])
   (ah (sc1 Tryz.func30 (aT 0) (fun W v0 hG h0 => k1 ▸ Uf W ((aa HT).below hG.bel) _ h0))
   (ah (jk rfl (aT 1))
   Rg.bf))) ?_
  intro v1 V1 hG1 hv1 hne1
  simp only [Rg.puts, Act.put, tA]
  have e1 : v1 1 = .int .i64 0 := hv1 1 de
  have e2 : v1 2 = .int .i64 0 := hv1 2 de
  simp only [e1, e2]
  have hO := hG1.1
  clear HO
  have HO := hide hO
  clear hO hG1 hv1 hne1
  try clear e1 e2
  clear k1 g1
  go_upto_region 2 with fail
  refine Rg.dh 2 13 (Rg.pick [Rg.au (.int .i64 0), Rg.au (.bool false)]) (ay w _ V1) eu [] kr rfl (Rg.dw.pick ⟨Rg.ae _, Rg.ae _, trivial⟩) (ay.begin (aa HO))
   (ah (di rfl aF)
   (ah (qy rfl (aT 0) (Rg.iy _) rfl rfl)
   Rg.bf)) ?_
  intro v2 V2 hG2 hv2 hne2
  simp only [Rg.puts, Act.put, tA]
  have e1 : v2 1 = .bool false := hv2 1 de
  simp only [e1]
  have hO := hG2.1
  clear HO
  have HO := hide hO
  clear hO hG2 hv2 hne2
  try clear e1
  go_upto_region 4 with fail
  refine Rg.dh 3 13 (Rg.pick [ax [.k (eK g), iv p, iv q], Rg.au (.int .i64 (De g p q)), Rg.au (.int .i64 (De g p q))]) (ay w _ V2) eu [] kr rfl (Rg.dw.pick ⟨az _, Rg.ae _, Rg.ae _, trivial⟩) (ay.begin (aa HO))
   (ah (ic wy me0 aF [] [.k (eK g), iv p, iv q] [])
   (ah (sc1 Tryz.func30 (aT 0) (fun W v0 hG h0 => Uf W ((aa HT).below hG.bel) _ h0))
   (ah (jk rfl (aT 1))
   Rg.bf))) ?_
  intro v3 V3 hG3 hv3 ma
  simp only [Rg.puts, Act.put, tA]
  have e1 : v3 1 = .int .i64 (De g p q) := hv3 1 de
  have e2 : v3 2 = .int .i64 (De g p q) := hv3 2 de
  simp only [e1, e2]
  have hO := hG3.1
  clear HO
  have HO := hide hO
  clear hO hG3 hv3 ma
  try clear e1 e2
  go_wp2_with fail
  exact xw Tryz.results107 rfl (aa HO).bel rfl
 ·
  have k1 : De f n d = 1 := if_neg g1
  have hv : v = 1 := by rw [aa HV, k1]; rfl
  subst hv
  clear HV
  go_upto_region 1 with fail
  refine Rg.dh 3 13 (Rg.pick [ax [.k (eK f), iv n, iv d], Rg.au (.int .i64 1), Rg.au (.int .i64 1)]) (ay w _ W0) eu [] kr rfl (Rg.dw.pick ⟨az _, Rg.ae _, Rg.ae _, trivial⟩) (ay.begin (aa HO))
   (ah (ic wy qg aF [] [.k (eK f), iv n, iv d] [])
   (ah (sc1 Tryz.func30 (aT 0) (fun W v0 hG h0 => k1 ▸ Uf W ((aa HT).below hG.bel) _ h0))
   (ah (jk rfl (aT 1))
   Rg.bf))) ?_
  intro v1 V1 hG1 hv1 hne1
  simp only [Rg.puts, Act.put, tA]
  have e1 : v1 1 = .int .i64 1 := hv1 1 de
  have e2 : v1 2 = .int .i64 1 := hv1 2 de
  simp only [e1, e2]
  have hO := hG1.1
  clear HO
  have HO := hide hO
  clear hO hG1 hv1 hne1
  try clear e1 e2
  clear k1 g1
  go_upto_region 2 with fail
  refine Rg.dh 2 13 (Rg.pick [Rg.au (.int .i64 1), Rg.au (.bool true)]) (ay w _ V1) eu [] kr rfl (Rg.dw.pick ⟨Rg.ae _, Rg.ae _, trivial⟩) (ay.begin (aa HO))
   (ah (di rfl aF)
   (ah (qy rfl (aT 0) (Rg.iy _) rfl rfl)
   Rg.bf)) ?_
  intro v2 V2 hG2 hv2 hne2
  simp only [Rg.puts, Act.put, tA]
  have e1 : v2 1 = .bool true := hv2 1 de
  simp only [e1]
  have hO := hG2.1
  clear HO
  have HO := hide hO
  clear hO hG2 hv2 hne2
  try clear e1
  go_upto_region 3 with fail
  refine Rg.dh 2 13 (Rg.pick [Rg.au (.int .i64 1), Rg.au (.int .i64 1)]) (ay w _ V2) eu [] kr rfl (Rg.dw.pick ⟨Rg.ae _, Rg.ae _, trivial⟩) (ay.begin (aa HO))
   (ah (di rfl aF)
   (ah (jk rfl (aT 0))
   Rg.bf)) ?_
  intro v3 V3 hG3 hv3 ma
  simp only [Rg.puts, Act.put, tA]
  have e0 : v3 0 = .int .i64 1 := hv3 0 de
  have e1 : v3 1 = .int .i64 1 := hv3 1 de
  simp only [e0, e1]
  have hO := hG3.1
  clear HO
  have HO := hide hO
  clear hO hG3 hv3 ma
  try clear e0 e1
  go_wp2_with fail
  exact xw Tryz.results107 rfl (aa HO).bel rfl
theorem adg {f : Nat → Int} {n d : Int} (ok : Wd.oo n d) (w : World) (u0 : Value) (h0 : ax [.k (eK f), iv n, iv d] w u0) : Calls Tryz.prog 103 #[u0] w (ib (ax [.k (eK f), .q (Wd.qR n d)]) w) := by
 have xx := hide ok
 clear ok
 have hu0 := Ah h0
 subst hu0
 go_enter Tryz.func103, Tryz.ntmps103
 go_upto_region 1 with fail
 have hO := (Own.push (T := 118) (ls := zM) (Own.push (T := 44) (ls := [.k (eK f), iv n, iv d]) (Own.nil w) (fo.e (fo.v (kg _) (fo.v (kg _) rfl))) (w.heap.size) rfl) (fo.below (by repeat (first | exact Below.refl _ _ | refine gy ?_ _)) (fo.vs w [.int .i64 0, .int .i64 0, .int .i64 0, .int .i64 0, .int .i64 0, .int .i64 0, .int .i64 0, .int .i64 0, .bool false, .slice none 0 0, .int .i64 0, .bool false, .slice none 0 0] rfl)) (w.heap.size + 1) (by simp only [World.size_alloc]))
 generalize (w.alloc (.cells #[.int .i64 (f 0), .int .i64 (f 1), .int .i64 (f 2), .int .i64 (f 3), .int .i64 (f 4), .int .i64 (f 5), .int .i64 (f 6), .int .i64 n, .int .i64 d] 44)).alloc (.cells #[.int .i64 0, .int .i64 0, .int .i64 0, .int .i64 0, .int .i64 0, .int .i64 0, .int .i64 0, .int .i64 0, .bool false, .slice none 0 0, .int .i64 0, .bool false, .slice none 0 0] 118) = W0 at *
 have HO := hide hO
 clear hO
 go_upto_region 1 with fail
 refine Rg.region 6 9 (Rg.pick [Rg.au (.pointer (some ⟨w.heap.size, 0, none⟩)), ax [.k (eK f)], Rg.au (.pointer (some ⟨w.heap.size, 7, none⟩)), ax [iv n, iv d], ax [.q (Wd.qR n d)], ax [.k (eK f), .q (Wd.qR n d)]]) (ay w _ W0) eu [] kr kr rfl (Rg.dw.pick ⟨Rg.ae _, az _, Rg.ae _, az _, az _, az _, trivial⟩) (ay.start (aa HO))
  (ah (zw (b := w.heap.size) (off := 0) rfl aF rfl rfl)
  (ah (ic Gn qg (aT 0) [] [.k (eK f)] [iv n, iv d])
  (ah (Ak (b := w.heap.size) (off := 0) rfl aF rfl rfl)
  (ah (ic uf qg (aT 2) [.k (eK f)] [iv n, iv d] [])
  (ah (sc1 Tryz.func67 (aT 3) (fun W v0 hG h0 => avs (aa xx) h0))
  (ah (Hf bbg rfl (aT 1) (aT 4) rfl rfl rfl)
  Rg.bf)))))) ?_
 intro v1 V1 hG1 hv1 hne1
 simp only [Rg.puts, Act.put, tA]
 have hO := hG1.1
 refine jq hO 0 [] zM [.k (eK f), .q (Wd.qR n d)] [] rfl Bn rfl (show ax [.k (eK f), .q (Wd.qR n d)] V1 (v1 5) from hv1 5 de) rfl rfl rfl ?_
 intro za gm hk0
 replace hO := gm
 clear gm
 clear HO
 have HO := hide hO
 clear hO hG1 hv1 hne1 hk0
 go_wp2_with fail
 exact Cs Tryz.results103 Ia rfl (aa HO) me0 rfl rfl
theorem abh {f h : Nat → Int} {x a : Rat} {n : Int} (w : World) (u0 : Value) (h0 : ax [.k (eK f), .q x] w u0) (hh : ∀ j, j < 7 → wrap64 (f j * n) = h j)
  (hp : ∀ W v0, Below w.heap.size w W → ax [.q x] W v0 → Calls Tryz.prog 68 #[v0, .int .i64 n] W (ib (ax [.q a]) W)) :
  Calls Tryz.prog 104 #[u0, .int .i64 n] w (ib (ax [.k (eK h), .q a]) w) := by
 have HH := hide hh
 have HP := hide hp
 clear hh hp
 obtain ⟨Ii, Ee, Cu, c0a, Cr, Jw, Kc, Gw, c0b, Gp, rfl, f0a, Gs⟩ := Vk h0
 go_enter Tryz.func104, Tryz.ntmps104
 go_upto_region 1 with fail
 have hO := (Own.push (T := 118) (ls := zM) (Own.push (T := 118) (ls := [.k (eK f), .q x]) (Own.nil w) (fo.e (fo.q f0a Gs rfl)) (w.heap.size) rfl) (fo.below (by repeat (first | exact Below.refl _ _ | refine gy ?_ _)) (fo.vs w [.int .i64 0, .int .i64 0, .int .i64 0, .int .i64 0, .int .i64 0, .int .i64 0, .int .i64 0, .int .i64 0, .bool false, .slice none 0 0, .int .i64 0, .bool false, .slice none 0 0] rfl)) (w.heap.size + 1) (by simp only [World.size_alloc]))
 generalize (w.alloc (.cells #[.int .i64 (f 0), .int .i64 (f 1), .int .i64 (f 2), .int .i64 (f 3), .int .i64 (f 4), .int .i64 (f 5), .int .i64 (f 6), .int .i64 Ii, .bool Ee, .slice Cu (List.length Cr) c0a, .int .i64 Jw, .bool Kc, .slice Gw (List.length Gp) c0b] 118)).alloc (.cells #[.int .i64 0, .int .i64 0, .int .i64 0, .int .i64 0, .int .i64 0, .int .i64 0, .int .i64 0, .int .i64 0, .bool false, .slice none 0 0, .int .i64 0, .bool false, .slice none 0 0] 118) = W0 at *
 have HO := hide hO
 clear hO
 go_wp2_with fail
 go_loopw [6] (fun vk wr => ∃ k : Nat, k ≤ 7 ∧ vk = .int .i64 ((k : Nat) : Int) ∧ Hid (Own w [(w.heap.size + 1, 118, zM), (w.heap.size, 118, [.k (eK (He f h k)), .q x])] wr)) (fun vk _ => 7 - (intOf vk).toNat)
 case atStart => exact ⟨0, by omega, rfl, by rw [aba]; exact HO⟩
 case round =>
  obtain ⟨k, hk, rfl, HO⟩ := hrel
  have HK := hide hk
  clear hk
  by_cases g1 : k < 7
  ·
   have d1 : decide ((k : Int) < 7) = true := decide_eq_true om
   have yc := hide g1
   clear g1
   go_upto_region 2 with fail
   refine Rg.dh 1 24 (Rg.pick [Rg.au (.bool true)]) (ay w _ wr) eu [] kr rfl (Rg.dw.pick ⟨Rg.ae _, trivial⟩) (ay.begin (aa HO))
    (ah (rz rfl aF (Rg.iy _) rfl d1)
    Rg.bf) ?_
   intro v1 V1 hG1 hv1 hne1
   simp only [Rg.puts, Act.put, tA]
   have e0 : v1 0 = .bool true := hv1 0 de
   simp only [e0]
   have hO := hG1.1
   clear HO
   have HO := hide hO
   clear hO hG1 hv1 hne1
   try clear e0
   clear d1
   go_upto_region 3 with fail
   refine Rg.dh 2 24 (Rg.pick [Rg.au (.int .i64 (k : Int)), Rg.au (.int .i64 (k : Int))]) (ay w _ V1) eu [] kr rfl (Rg.dw.pick ⟨Rg.ae _, Rg.ae _, trivial⟩) (ay.begin (aa HO))
    (ah (di rfl aF)
    (ah (jk rfl (aT 0))
    Rg.bf)) ?_
   intro v2 V2 hG2 hv2 hne2
   simp only [Rg.puts, Act.put, tA]
   have e0 : v2 0 = .int .i64 (k : Int) := hv2 0 de
   have e1 : v2 1 = .int .i64 (k : Int) := hv2 1 de
   simp only [e0, e1]
   have hO := hG2.1
   clear HO
   have HO := hide hO
   clear hO hG2 hv2 hne2
   try clear e0 e1
   go_upto_region 4 with fail
   refine Rg.dh 8 24 (Rg.pick [Rg.au (.int .i64 (k : Int)), Rg.au (.pointer (some ⟨w.heap.size, 0, none⟩)), Rg.au (.pointer (some ⟨w.heap.size, k, none⟩)), Rg.au (.int .i64 (f k)), Rg.au (.int .i64 n), Rg.au (.int .i64 (h k)), Rg.au (.pointer (some ⟨w.heap.size, 0, none⟩)), Rg.au (.pointer (some ⟨w.heap.size, k, none⟩))]) (ay w _ V2) eu [] kr rfl (Rg.dw.pick ⟨Rg.ae _, Rg.ae _, Rg.ae _, Rg.ae _, Rg.ae _, Rg.ae _, Rg.ae _, Rg.ae _, trivial⟩) (ay.begin (aa HO))
    (ah (di rfl aF)
    (ah (Cq (b := w.heap.size) (off := 0) rfl aF rfl rfl)
    (ah (Fe (b := w.heap.size) (k := k) rfl (aT 1) (aT 0) (aa yc) rfl)
    (ah (Lf (f := (He f h k)) qg rfl (aT 2) (aa yc) (aix f h k) rfl)
    (ah (di rfl aF)
    (ah (bcq rfl (aT 3) (aT 4) ((aa HH) k (aa yc)) rfl)
    (ah (Cq (b := w.heap.size) (off := 0) rfl aF rfl rfl)
    (ah (Fe (b := w.heap.size) (k := k) rfl (aT 6) (aT 0) (aa yc) rfl)
    Rg.bf)))))))) ?_
   intro v3 V3 hG3 hv3 ma
   simp only [Rg.puts, Act.put, tA]
   have e5 : v3 5 = .int .i64 (h k) := hv3 5 de
   have e7 : v3 7 = .pointer (some ⟨w.heap.size, k, none⟩) := hv3 7 de
   simp only [e5, e7]
   have hO := hG3.1
   refine aob (f := (He f h k)) (g := (He f h (k + 1))) (k := k) (v := (h k)) hO 1 [.q x] rfl (aa yc) rfl rfl (abb f h k) ?_
   intro Gl gm hk0
   replace hO := gm
   clear gm
   clear HO
   have HO := hide hO
   clear hO hG3 hv3 ma hk0
   try clear e5 e7
   go_wp2_with fail
   go_roundw
   case rel =>
    exact ⟨k + 1, by have := aa yc; omega, Ld (aa yc) om, HO⟩
   case measure =>
    have h1 := aa yc
    clear HO
    rw [Jp h1 om]
    exact measS h1
  ·
   obtain rfl : k = 7 := by have := aa HK; omega
   clear g1
   rw [ado] at HO
   go_upto_region 2 with fail
   refine Rg.dh 1 24 (Rg.pick [Rg.au (.bool false)]) (ay w _ wr) eu [] kr rfl (Rg.dw.pick ⟨Rg.ae _, trivial⟩) (ay.begin (aa HO))
    (ah (rz rfl aF (Rg.iy _) rfl rfl)
    Rg.bf) ?_
   intro v1 V1 hG1 hv1 hne1
   simp only [Rg.puts, Act.put, tA]
   have e0 : v1 0 = .bool false := hv1 0 de
   simp only [e0]
   have hO := hG1.1
   clear HO
   have HO := hide hO
   clear hO hG1 hv1 hne1
   try clear e0
   go_upto_region 6 with fail
   refine Rg.dh 5 24 (Rg.pick [Rg.au (.pointer (some ⟨w.heap.size, 7, none⟩)), ax [.q x], Rg.au (.int .i64 n), ax [.q a], Rg.au (.pointer (some ⟨w.heap.size, 7, none⟩))]) (ay w _ V1) eu [] kr rfl (Rg.dw.pick ⟨Rg.ae _, az _, Rg.ae _, az _, Rg.ae _, trivial⟩) (ay.begin (aa HO))
    (ah (Fg (b := w.heap.size) (off := 0) rfl aF rfl rfl)
    (ah (ic Eg qg (aT 0) [.k (eK h)] [.q x] [])
    (ah (di rfl aF)
    (ah (sc2 Tryz.func68 (aT 1) (aT 2) (fun W v0 v1 hG h0 h1 => by cases h1; exact aa HP W v0 hG.bel h0))
    (ah (Fg (b := w.heap.size) (off := 0) rfl aF rfl rfl)
    Rg.bf))))) ?_
   intro v2 V2 hG2 hv2 hne2
   simp only [Rg.puts, Act.put, tA]
   have e4 : v2 4 = .pointer (some ⟨w.heap.size, 7, none⟩) := hv2 4 de
   simp only [e4]
   have hO := hG2.1
   refine jq hO 1 [.k (eK h)] [.q x] [.q a] [] rfl Es rfl (show ax [.q a] V2 (v2 3) from hv2 3 de) rfl rfl rfl ?_
   intro Et gm hk0
   replace hO := gm
   clear gm
   clear HO
   have HO := hide hO
   clear hO hG2 hv2 hne2 hk0
   try clear e4
   go_upto_region 7 with fail
   refine Rg.dh 1 24 (Rg.pick [ax [.k (eK h), .q a]]) (ay w _ Et) eu [] kr rfl (Rg.dw.pick ⟨az _, trivial⟩) (ay.begin (aa HO))
    (ah (ic Oz qg aF [] [.k (eK h), .q a] [])
    Rg.bf) ?_
   intro v3 V3 hG3 hv3 ma
   simp only [Rg.puts, Act.put, tA]
   have hO := hG3.1
   refine jq hO 0 [] zM [.k (eK h), .q a] [] rfl Bn rfl (show ax [.k (eK h), .q a] V3 (v3 0) from hv3 0 de) rfl rfl rfl ?_
   intro Gl gm hk0
   replace hO := gm
   clear gm
   clear HO
   have HO := hide hO
   clear hO hG3 hv3 ma hk0
   go_wp2_with fail
   exact Cs Tryz.results104 Ia rfl (aa HO) me0 rfl rfl
theorem bmc {F : Nat} {x y a : Rat} {w W : World} {v0 v1 : Value} (h : ∀ W v0 v1, Below w.heap.size w W → ax [.q x] W v0 → ax [.q y] W v1 → Calls Tryz.prog F #[v0, v1] W (ib (ax [.q a]) W)) (hb : Below w.heap.size w W) (h0 : ax [.q x] W v0) (h1 : ax [.q y] W v1) : Calls Tryz.prog F #[v0, v1] W (ib (ax [.q a]) W) := h W v0 v1 hb h0 h1
theorem Nj {f g h : Nat → Int} {x y a : Rat} (w : World) (u0 : Value) (h0 : ax [.k (eK f), .q x] w u0) (u1 : Value) (h1 : ax [.k (eK g), .q y] w u1) (hh : ∀ j, j < 7 → wrap64 (f j + g j) = h j)
  (hp : ∀ W v0 v1, Below w.heap.size w W → ax [.q x] W v0 → ax [.q y] W v1 → Calls Tryz.prog 108 #[v0, v1] W (ib (ax [.q a]) W)) :
  Calls Tryz.prog 119 #[u0, u1] w (ib (ax [.k (eK h), .q a]) w) := by
 have HH := hide hh
 have HP := hide hp
 clear hh hp
 obtain ⟨Ii, Ee, Cu, c0a, Cr, Jw, Kc, Gw, c0b, Gp, rfl, f0a, Gs⟩ := Vk h0
 obtain ⟨Jv, Yk, Ce, c1a, Bz, Ju, n1b, Cc, Ca, Bw, rfl, f1a, Pj⟩ := Vk h1
 go_enter Tryz.func119, Tryz.ntmps119
 go_upto_region 1 with fail
 have hO := (Own.push (T := 118) (ls := zM) (Own.push (T := 118) (ls := [.k (eK g), .q y]) (Own.push (T := 118) (ls := [.k (eK f), .q x]) (Own.nil w) (fo.e (fo.q f0a Gs rfl)) (w.heap.size) rfl) (fo.below (by repeat (first | exact Below.refl _ _ | refine gy ?_ _)) (fo.e (fo.q f1a Pj rfl))) (w.heap.size + 1) (by simp only [World.size_alloc])) (fo.below (by repeat (first | exact Below.refl _ _ | refine gy ?_ _)) (fo.vs w [.int .i64 0, .int .i64 0, .int .i64 0, .int .i64 0, .int .i64 0, .int .i64 0, .int .i64 0, .int .i64 0, .bool false, .slice none 0 0, .int .i64 0, .bool false, .slice none 0 0] rfl)) (w.heap.size + 2) (by simp only [World.size_alloc]))
 generalize ((w.alloc (.cells #[.int .i64 (f 0), .int .i64 (f 1), .int .i64 (f 2), .int .i64 (f 3), .int .i64 (f 4), .int .i64 (f 5), .int .i64 (f 6), .int .i64 Ii, .bool Ee, .slice Cu (List.length Cr) c0a, .int .i64 Jw, .bool Kc, .slice Gw (List.length Gp) c0b] 118)).alloc (.cells #[.int .i64 (g 0), .int .i64 (g 1), .int .i64 (g 2), .int .i64 (g 3), .int .i64 (g 4), .int .i64 (g 5), .int .i64 (g 6), .int .i64 Jv, .bool Yk, .slice Ce (List.length Bz) c1a, .int .i64 Ju, .bool n1b, .slice Cc (List.length Bw) Ca] 118)).alloc (.cells #[.int .i64 0, .int .i64 0, .int .i64 0, .int .i64 0, .int .i64 0, .int .i64 0, .int .i64 0, .int .i64 0, .bool false, .slice none 0 0, .int .i64 0, .bool false, .slice none 0 0] 118) = W0 at *
 have HO := hide hO
 clear hO
 go_upto_region 1 with fail
 refine Rg.dh 3 29 (Rg.pick [Rg.au (.pointer (some ⟨w.heap.size + 1, 0, none⟩)), Rg.au (aV g), Rg.au (.int .i64 0)]) (ay w _ W0) eu [] kr rfl (Rg.dw.pick ⟨Rg.ae _, Rg.ae _, Rg.ae _, trivial⟩) (ay.begin (aa HO))
  (ah (Cq (b := w.heap.size + 1) (off := 0) rfl aF rfl rfl)
  (ah (bhk (f := g) Gn qg rfl (aT 0) rfl)
  (ah (di rfl (Rg.iy _))
  Rg.bf))) ?_
 intro v1 V1 hG1 hv1 hne1
 simp only [Rg.puts, Act.put, tA]
 have e1 : v1 1 = aV g := hv1 1 de
 have e2 : v1 2 = .int .i64 0 := hv1 2 de
 simp only [e1, e2]
 have hO := hG1.1
 clear HO
 have HO := hide hO
 clear hO hG1 hv1 hne1
 try clear e1 e2
 go_wp2_with fail
 go_loopw [9] (fun vk wr => ∃ k : Nat, k ≤ 7 ∧ vk = .int .i64 ((k : Nat) : Int) ∧ Hid (Own w [(w.heap.size + 2, 118, zM), (w.heap.size + 1, 118, [.k (eK g), .q y]), (w.heap.size, 118, [.k (eK (He f h k)), .q x])] wr)) (fun vk _ => 7 - (intOf vk).toNat)
 case atStart => exact ⟨0, by omega, rfl, by rw [aba]; exact HO⟩
 case round =>
  obtain ⟨k, hk, rfl, HO⟩ := hrel
  have HK := hide hk
  clear hk
  by_cases g1 : k < 7
  ·
   have d1 : decide ((k : Int) < 7) = true := decide_eq_true om
   have yc := hide g1
   clear g1
   go_upto_region 2 with fail
   refine Rg.dh 1 29 (Rg.pick [Rg.au (.bool true)]) (ay w _ wr) eu [] kr rfl (Rg.dw.pick ⟨Rg.ae _, trivial⟩) (ay.begin (aa HO))
    (ah (rz rfl aF (Rg.iy _) rfl d1)
    Rg.bf) ?_
   intro v2 V2 hG2 hv2 hne2
   simp only [Rg.puts, Act.put, tA]
   have e0 : v2 0 = .bool true := hv2 0 de
   simp only [e0]
   have hO := hG2.1
   clear HO
   have HO := hide hO
   clear hO hG2 hv2 hne2
   try clear e0
   clear d1
   go_upto_region 3 with fail
   refine Rg.dh 4 29 (Rg.pick [Rg.au (.int .i64 (k : Int)), Rg.au (.int .i64 (g k)), Rg.au (.int .i64 (k : Int)), Rg.au (.int .i64 (g k))]) (ay w _ V2) eu [] kr rfl (Rg.dw.pick ⟨Rg.ae _, Rg.ae _, Rg.ae _, Rg.ae _, trivial⟩) (ay.begin (aa HO))
    (ah (di rfl aF)
    (ah (bhl (f := g) (k := k) rfl aF aF (aa yc) rfl)
    (ah (jk rfl (aT 0))
    (ah (jk rfl (aT 1))
    Rg.bf)))) ?_
   intro v3 V3 hG3 hv3 ma
   simp only [Rg.puts, Act.put, tA]
   have e0 : v3 0 = .int .i64 (k : Int) := hv3 0 de
   have e1 : v3 1 = .int .i64 (g k) := hv3 1 de
   have e2 : v3 2 = .int .i64 (k : Int) := hv3 2 de
   have e3 : v3 3 = .int .i64 (g k) := hv3 3 de
   simp only [e0, e1, e2, e3]
   have hO := hG3.1
   clear HO
   have HO := hide hO
   clear hO hG3 hv3 ma
   try clear e0 e1 e2 e3
   go_upto_region 4 with fail
   refine Rg.dh 8 29 (Rg.pick [Rg.au (.int .i64 (k : Int)), Rg.au (.pointer (some ⟨w.heap.size, 0, none⟩)), Rg.au (.pointer (some ⟨w.heap.size, k, none⟩)), Rg.au (.int .i64 (f k)), Rg.au (.int .i64 (g k)), Rg.au (.int .i64 (h k)), Rg.au (.pointer (some ⟨w.heap.size, 0, none⟩)), Rg.au (.pointer (some ⟨w.heap.size, k, none⟩))]) (ay w _ V3) eu [] kr rfl (Rg.dw.pick ⟨Rg.ae _, Rg.ae _, Rg.ae _, Rg.ae _, Rg.ae _, Rg.ae _, Rg.ae _, Rg.ae _, trivial⟩) (ay.begin (aa HO))
    (ah (di rfl aF)
    (ah (Cq (b := w.heap.size) (off := 0) rfl aF rfl rfl)
    (ah (Fe (b := w.heap.size) (k := k) rfl (aT 1) (aT 0) (aa yc) rfl)
    (ah (Lf (f := (He f h k)) Bv rfl (aT 2) (aa yc) (aix f h k) rfl)
    (ah (di rfl aF)
    (ah (bcv rfl (aT 3) (aT 4) ((aa HH) k (aa yc)) rfl)
    (ah (Cq (b := w.heap.size) (off := 0) rfl aF rfl rfl)
    (ah (Fe (b := w.heap.size) (k := k) rfl (aT 6) (aT 0) (aa yc) rfl)
    Rg.bf)))))))) ?_
   intro v4 V4 hG4 hv4 sw
   simp only [Rg.puts, Act.put, tA]
   have e5 : v4 5 = .int .i64 (h k) := hv4 5 de
   have e7 : v4 7 = .pointer (some ⟨w.heap.size, k, none⟩) := hv4 7 de
   simp only [e5, e7]
   have hO := hG4.1
   refine aob (f := (He f h k)) (g := (He f h (k + 1))) (k := k) (v := (h k)) hO 2 [.q x] rfl (aa yc) rfl rfl (abb f h k) ?_
   intro Dk gm hk0
   replace hO := gm
   clear gm
   clear HO
   have HO := hide hO
   clear hO hG4 hv4 sw hk0
   try clear e5 e7
   go_wp2_with fail
   go_roundw
   case rel =>
    exact ⟨k + 1, by have := aa yc; omega, Ld (aa yc) om, HO⟩
   case measure =>
    have h1 := aa yc
    clear HO
    rw [Jp h1 om]
    exact measS h1
  ·
   obtain rfl : k = 7 := by have := aa HK; omega
   clear g1
   rw [ado] at HO
   go_upto_region 2 with fail
   refine Rg.dh 1 29 (Rg.pick [Rg.au (.bool false)]) (ay w _ wr) eu [] kr rfl (Rg.dw.pick ⟨Rg.ae _, trivial⟩) (ay.begin (aa HO))
    (ah (rz rfl aF (Rg.iy _) rfl rfl)
    Rg.bf) ?_
   intro v2 V2 hG2 hv2 hne2
   simp only [Rg.puts, Act.put, tA]
   have e0 : v2 0 = .bool false := hv2 0 de
   simp only [e0]
   have hO := hG2.1
   clear HO
   have HO := hide hO
   clear hO hG2 hv2 hne2
   try clear e0
   go_upto_region 6 with fail
   refine Rg.dh 6 29 (Rg.pick [Rg.au (.pointer (some ⟨w.heap.size, 7, none⟩)), ax [.q x], Rg.au (.pointer (some ⟨w.heap.size + 1, 7, none⟩)), ax [.q y], ax [.q a], Rg.au (.pointer (some ⟨w.heap.size, 7, none⟩))]) (ay w _ V2) eu [] kr rfl (Rg.dw.pick ⟨Rg.ae _, az _, Rg.ae _, az _, az _, Rg.ae _, trivial⟩) (ay.begin (aa HO))
    (ah (Fg (b := w.heap.size) (off := 0) rfl aF rfl rfl)
    (ah (ic Eg Bv (aT 0) [.k (eK h)] [.q x] [])
    (ah (Fg (b := w.heap.size + 1) (off := 0) rfl aF rfl rfl)
    (ah (ic Eg qg (aT 2) [.k (eK g)] [.q y] [])
    (ah (sc2 Tryz.func108 (aT 1) (aT 3) (fun W v0 v1 hG h0 h1 => bmc (aa HP) hG.bel h0 h1))
    (ah (Fg (b := w.heap.size) (off := 0) rfl aF rfl rfl)
    Rg.bf)))))) ?_
   intro v3 V3 hG3 hv3 ma
   simp only [Rg.puts, Act.put, tA]
   have e5 : v3 5 = .pointer (some ⟨w.heap.size, 7, none⟩) := hv3 5 de
   simp only [e5]
   have hO := hG3.1
   refine jq hO 2 [.k (eK h)] [.q x] [.q a] [] rfl Es rfl (show ax [.q a] V3 (v3 4) from hv3 4 de) rfl rfl rfl ?_
   intro Gl gm hk0
   replace hO := gm
   clear gm
   clear HO
   have HO := hide hO
   clear hO hG3 hv3 ma hk0
   try clear e5
   go_upto_region 7 with fail
   refine Rg.dh 1 29 (Rg.pick [ax [.k (eK h), .q a]]) (ay w _ Gl) eu [] kr rfl (Rg.dw.pick ⟨az _, trivial⟩) (ay.begin (aa HO))
    (ah (ic Oz Bv aF [] [.k (eK h), .q a] [])
    Rg.bf) ?_
   intro v4 V4 hG4 hv4 sw
   simp only [Rg.puts, Act.put, tA]
   have hO := hG4.1
   refine jq hO 0 [] zM [.k (eK h), .q a] [] rfl Bn rfl (show ax [.k (eK h), .q a] V4 (v4 0) from hv4 0 de) rfl rfl rfl ?_
   intro Dk gm hk0
   replace hO := gm
   clear gm
   clear HO
   have HO := hide hO
   clear hO hG4 hv4 sw hk0
   go_wp2_with fail
   exact Cs Tryz.results119 Ia rfl (aa HO) me0 rfl rfl
theorem ajw {f : Nat → Int} {x : Rat} (w : World) (u0 : Value) (h0 : ax [.k (eK f), .q x] w u0) : Calls Tryz.prog 105 #[u0] w (ib (Zo (ni f x)) w) := by
 obtain ⟨t, ht⟩ : ∃ t, t = ni f x := ⟨_, rfl⟩
 rw [← ht]
 have HR := hide ht
 clear ht
 obtain ⟨Ii, Ee, Cu, c0a, Cr, Jw, Kc, Gw, c0b, Gp, rfl, f0a, Gs⟩ := Vk h0
 go_enter Tryz.func105, Tryz.ntmps105
 go_upto_region 1 with fail
 have hO := (Own.push (T := 44) (ls := zU) (Own.push (T := 118) (ls := [.k (eK f), .q x]) (Own.nil w) (fo.e (fo.q f0a Gs rfl)) (w.heap.size) rfl) (fo.below (by repeat (first | exact Below.refl _ _ | refine gy ?_ _)) (fo.vs w [.int .i64 0, .int .i64 0, .int .i64 0, .int .i64 0, .int .i64 0, .int .i64 0, .int .i64 0, .int .i64 0, .int .i64 0] rfl)) (w.heap.size + 1) (by simp only [World.size_alloc]))
 generalize (w.alloc (.cells #[.int .i64 (f 0), .int .i64 (f 1), .int .i64 (f 2), .int .i64 (f 3), .int .i64 (f 4), .int .i64 (f 5), .int .i64 (f 6), .int .i64 Ii, .bool Ee, .slice Cu (List.length Cr) c0a, .int .i64 Jw, .bool Kc, .slice Gw (List.length Gp) c0b] 118)).alloc (.cells #[.int .i64 0, .int .i64 0, .int .i64 0, .int .i64 0, .int .i64 0, .int .i64 0, .int .i64 0, .int .i64 0, .int .i64 0] 44) = W0 at *
 have HO := hide hO
 clear hO
 by_cases g1 : Ad f
 ·
  by_cases g2 : (Wd.told x).e = 0
  ·
   have k1 : decide (Ad f) = true := decide_eq_true g1
   have k2 : ((Wd.told x).e != 0) = false := by simp [bne, beq_iff_eq.2 g2]
   have hr : t = ⟨f, (Wd.told x).n, (Wd.told x).d, 0⟩ := by rw [aa HR]; unfold ni; rw [if_pos g1, if_pos g2]
   subst hr
   clear HR
   go_upto_region 1 with fail
   refine Rg.dh 4 25 (Rg.pick [Rg.au (.pointer (some ⟨w.heap.size, 0, none⟩)), ax [.k (eK f)], Rg.au (.bool true), Rg.au (.bool false)]) (ay w _ W0) eu [] kr rfl (Rg.dw.pick ⟨Rg.ae _, az _, Rg.ae _, Rg.ae _, trivial⟩) (ay.begin (aa HO))
    (ah (Cq (b := w.heap.size) (off := 0) rfl aF rfl rfl)
    (ah (ic Gn qg (aT 0) [] [.k (eK f)] [.q x])
    (ah (sc1 Tryz.func96 (aT 1) (fun W v0 hG h0 => Rn _ W _ h0 k1))
    (ah (zb rfl (aT 2) rfl rfl)
    Rg.bf)))) ?_
   intro v1 V1 hG1 hv1 hne1
   simp only [Rg.puts, Act.put, tA]
   have e3 : v1 3 = .bool false := hv1 3 de
   simp only [e3]
   have hO := hG1.1
   clear HO
   have HO := hide hO
   clear hO hG1 hv1 hne1
   try clear e3
   go_upto_region 3 with fail
   refine Rg.dh 7 25 (Rg.pick [Rg.au (.pointer (some ⟨w.heap.size, 7, none⟩)), ax [.q x], kz [ax [iv (Wd.told x).n, iv (Wd.told x).d], Rg.au (.int .i64 (Wd.told x).e)], kz [ax [iv (Wd.told x).n, iv (Wd.told x).d], Rg.au (.int .i64 (Wd.told x).e)], ax [iv (Wd.told x).n, iv (Wd.told x).d], Rg.au (.int .i64 (Wd.told x).e), nk 23 zR V1.heap.size]) (ay w _ V1) eu [6] kr rfl (Rg.dw.pick ⟨Rg.ae _, az _, jf ⟨(az _), (Rg.ae _), trivial⟩, jf ⟨(az _), (Rg.ae _), trivial⟩, az _, Rg.ae _, ny _ _ _, trivial⟩) (ay.begin (aa HO))
    (ah (Fg (b := w.heap.size) (off := 0) rfl aF rfl rfl)
    (ah (ic Eg qg (aT 0) [.k (eK f)] [.q x] [])
    (ah (sc1 Tryz.func69 (aT 1) (fun W v0 hG h0 => ahe h0))
    (ah (di rfl (aT 2))
    (ah (ky (ts := [ax [iv (Wd.told x).n, iv (Wd.told x).d], Rg.au (.int .i64 (Wd.told x).e)]) rfl (aT 3) (of_decide_eq_true rfl) rfl)
    (ah (ky (ts := [ax [iv (Wd.told x).n, iv (Wd.told x).d], Rg.au (.int .i64 (Wd.told x).e)]) rfl (aT 3) (of_decide_eq_true rfl) rfl)
    (ah (oq Gc rfl ay.step ay.size rfl (qp (by intro j hj; simp at hj; (repeat' (first | (rcases hj with rfl | hj))) <;> first | (subst hj; exact ⟨_, _, _, rfl⟩) | exact ⟨_, _, _, rfl⟩)))
    Rg.bf))))))) ?_
   intro v2 V2 hG2 hv2 hne2
   simp only [Rg.puts, Act.put, tA]
   have e5 : v2 5 = .int .i64 (Wd.told x).e := hv2 5 de
   obtain ⟨bga, e6, ui, zy⟩ := (show nk 23 zR V1.heap.size V2 (v2 6) from hv2 6 de)
   simp only [e5, e6]
   have hO := hG2.1
   replace hO := Own.add (aa HO) hG2.2 ui zy
   clear ui zy
   refine jq hO 0 [] zR [iv (Wd.told x).n, iv (Wd.told x).d] [] rfl qz rfl (show ax [iv (Wd.told x).n, iv (Wd.told x).d] V2 (v2 4) from hv2 4 de) rfl rfl rfl ?_
   intro Et gm hk0
   replace hO := gm
   clear gm
   clear HO
   have HO := hide hO
   clear hO hG2 hv2 hne2 hk0
   try clear e5 e6
   go_upto_region 4 with fail
   refine Rg.dh 2 25 (Rg.pick [Rg.au (.int .i64 (Wd.told x).e), Rg.au (.bool false)]) (ay w _ Et) eu [] kr rfl (Rg.dw.pick ⟨Rg.ae _, Rg.ae _, trivial⟩) (ay.begin (aa HO))
    (ah (di rfl aF)
    (ah (qy rfl (aT 0) (Rg.iy _) rfl k2)
    Rg.bf)) ?_
   intro v3 V3 hG3 hv3 ma
   simp only [Rg.puts, Act.put, tA]
   have e1 : v3 1 = .bool false := hv3 1 de
   simp only [e1]
   have hO := hG3.1
   clear HO
   have HO := hide hO
   clear hO hG3 hv3 ma
   try clear e1
   go_upto_region 6 with fail
   refine Rg.dh 4 25 (Rg.pick [Rg.au (.pointer (some ⟨w.heap.size, 0, none⟩)), ax [.k (eK f)], ax [iv (Wd.told x).n, iv (Wd.told x).d], ax [.k (eK f), iv (Wd.told x).n, iv (Wd.told x).d]]) (ay w _ V3) eu [] kr rfl (Rg.dw.pick ⟨Rg.ae _, az _, az _, az _, trivial⟩) (ay.begin (aa HO))
    (ah (Cq (b := w.heap.size) (off := 0) rfl aF rfl rfl)
    (ah (ic Gn Bv (aT 0) [] [.k (eK f)] [.q x])
    (ah (ic uf me0 aF [] [iv (Wd.told x).n, iv (Wd.told x).d] [])
    (ah (Hf ajz rfl (aT 1) (aT 2) rfl rfl rfl)
    Rg.bf)))) ?_
   intro v4 V4 hG4 hv4 sw
   simp only [Rg.puts, Act.put, tA]
   have hO := hG4.1
   refine jq hO 1 [] zU [.k (eK f), iv (Wd.told x).n, iv (Wd.told x).d] [] rfl zo rfl (show ax [.k (eK f), iv (Wd.told x).n, iv (Wd.told x).d] V4 (v4 3) from hv4 3 de) rfl rfl rfl ?_
   intro Dk gm hk0
   replace hO := gm
   clear gm
   clear HO
   have HO := hide hO
   clear hO hG4 hv4 sw hk0
   go_wp2_with fail
   exact uo Tryz.results105 Hz rfl rfl (aa HO) qg rfl rfl
  ·
   have k1 : decide (Ad f) = true := decide_eq_true g1
   have k2 : ((Wd.told x).e != 0) = true := by simp [bne, beq_eq_false_iff_ne.2 g2]
   have hr : t = ⟨z7, 0, 0, (Wd.told x).e⟩ := by rw [aa HR]; unfold ni; rw [if_pos g1, if_neg g2]
   subst hr
   clear HR
   go_upto_region 1 with fail
   refine Rg.dh 4 25 (Rg.pick [Rg.au (.pointer (some ⟨w.heap.size, 0, none⟩)), ax [.k (eK f)], Rg.au (.bool true), Rg.au (.bool false)]) (ay w _ W0) eu [] kr rfl (Rg.dw.pick ⟨Rg.ae _, az _, Rg.ae _, Rg.ae _, trivial⟩) (ay.begin (aa HO))
    (ah (Cq (b := w.heap.size) (off := 0) rfl aF rfl rfl)
    (ah (ic Gn qg (aT 0) [] [.k (eK f)] [.q x])
    (ah (sc1 Tryz.func96 (aT 1) (fun W v0 hG h0 => Rn _ W _ h0 k1))
    (ah (zb rfl (aT 2) rfl rfl)
    Rg.bf)))) ?_
   intro v1 V1 hG1 hv1 hne1
   simp only [Rg.puts, Act.put, tA]
   have e3 : v1 3 = .bool false := hv1 3 de
   simp only [e3]
   have hO := hG1.1
   clear HO
   have HO := hide hO
   clear hO hG1 hv1 hne1
   try clear e3
   go_upto_region 3 with fail
   refine Rg.dh 7 25 (Rg.pick [Rg.au (.pointer (some ⟨w.heap.size, 7, none⟩)), ax [.q x], kz [ax [iv (Wd.told x).n, iv (Wd.told x).d], Rg.au (.int .i64 (Wd.told x).e)], kz [ax [iv (Wd.told x).n, iv (Wd.told x).d], Rg.au (.int .i64 (Wd.told x).e)], ax [iv (Wd.told x).n, iv (Wd.told x).d], Rg.au (.int .i64 (Wd.told x).e), nk 23 zR V1.heap.size]) (ay w _ V1) eu [6] kr rfl (Rg.dw.pick ⟨Rg.ae _, az _, jf ⟨(az _), (Rg.ae _), trivial⟩, jf ⟨(az _), (Rg.ae _), trivial⟩, az _, Rg.ae _, ny _ _ _, trivial⟩) (ay.begin (aa HO))
    (ah (Fg (b := w.heap.size) (off := 0) rfl aF rfl rfl)
    (ah (ic Eg qg (aT 0) [.k (eK f)] [.q x] [])
    (ah (sc1 Tryz.func69 (aT 1) (fun W v0 hG h0 => ahe h0))
    (ah (di rfl (aT 2))
    (ah (ky (ts := [ax [iv (Wd.told x).n, iv (Wd.told x).d], Rg.au (.int .i64 (Wd.told x).e)]) rfl (aT 3) (of_decide_eq_true rfl) rfl)
    (ah (ky (ts := [ax [iv (Wd.told x).n, iv (Wd.told x).d], Rg.au (.int .i64 (Wd.told x).e)]) rfl (aT 3) (of_decide_eq_true rfl) rfl)
    (ah (oq Gc rfl ay.step ay.size rfl (qp (by intro j hj; simp at hj; (repeat' (first | (rcases hj with rfl | hj))) <;> first | (subst hj; exact ⟨_, _, _, rfl⟩) | exact ⟨_, _, _, rfl⟩)))
    Rg.bf))))))) ?_
   intro v2 V2 hG2 hv2 hne2
   simp only [Rg.puts, Act.put, tA]
   have e5 : v2 5 = .int .i64 (Wd.told x).e := hv2 5 de
   obtain ⟨bga, e6, ui, zy⟩ := (show nk 23 zR V1.heap.size V2 (v2 6) from hv2 6 de)
   simp only [e5, e6]
   have hO := hG2.1
   replace hO := Own.add (aa HO) hG2.2 ui zy
   clear ui zy
   refine jq hO 0 [] zR [iv (Wd.told x).n, iv (Wd.told x).d] [] rfl qz rfl (show ax [iv (Wd.told x).n, iv (Wd.told x).d] V2 (v2 4) from hv2 4 de) rfl rfl rfl ?_
   intro Et gm hk0
   replace hO := gm
   clear gm
   clear HO
   have HO := hide hO
   clear hO hG2 hv2 hne2 hk0
   try clear e5 e6
   go_upto_region 4 with fail
   refine Rg.dh 2 25 (Rg.pick [Rg.au (.int .i64 (Wd.told x).e), Rg.au (.bool true)]) (ay w _ Et) eu [] kr rfl (Rg.dw.pick ⟨Rg.ae _, Rg.ae _, trivial⟩) (ay.begin (aa HO))
    (ah (di rfl aF)
    (ah (qy rfl (aT 0) (Rg.iy _) rfl k2)
    Rg.bf)) ?_
   intro v3 V3 hG3 hv3 ma
   simp only [Rg.puts, Act.put, tA]
   have e1 : v3 1 = .bool true := hv3 1 de
   simp only [e1]
   have hO := hG3.1
   clear HO
   have HO := hide hO
   clear hO hG3 hv3 ma
   try clear e1
   go_upto_region 5 with fail
   refine Rg.dh 2 25 (Rg.pick [ax [.k (eK z7), iv 0, iv 0], Rg.au (.int .i64 (Wd.told x).e)]) (ay w _ V3) eu [] kr rfl (Rg.dw.pick ⟨az _, Rg.ae _, trivial⟩) (ay.begin (aa HO))
    (ah (ala rfl rfl)
    (ah (di rfl aF)
    Rg.bf)) ?_
   intro v4 V4 hG4 hv4 sw
   simp only [Rg.puts, Act.put, tA]
   have e1 : v4 1 = .int .i64 (Wd.told x).e := hv4 1 de
   simp only [e1]
   have hO := hG4.1
   refine jq hO 1 [] zU [.k (eK z7), iv 0, iv 0] [] rfl zo rfl (show ax [.k (eK z7), iv 0, iv 0] V4 (v4 0) from hv4 0 de) rfl rfl rfl ?_
   intro Dk gm hk0
   replace hO := gm
   clear gm
   clear HO
   have HO := hide hO
   clear hO hG4 hv4 sw hk0
   try clear e1
   go_wp2_with fail
   exact uo Tryz.results105 Hz rfl rfl (aa HO) qg rfl rfl
 ·
  have k1 : decide (Ad f) = false := decide_eq_false g1
  have hr : t = ⟨z7, 0, 0, 3⟩ := by rw [aa HR]; exact if_neg g1
  subst hr
  clear HR
  go_upto_region 1 with fail
  refine Rg.dh 4 25 (Rg.pick [Rg.au (.pointer (some ⟨w.heap.size, 0, none⟩)), ax [.k (eK f)], Rg.au (.bool false), Rg.au (.bool true)]) (ay w _ W0) eu [] kr rfl (Rg.dw.pick ⟨Rg.ae _, az _, Rg.ae _, Rg.ae _, trivial⟩) (ay.begin (aa HO))
   (ah (Cq (b := w.heap.size) (off := 0) rfl aF rfl rfl)
   (ah (ic Gn qg (aT 0) [] [.k (eK f)] [.q x])
   (ah (sc1 Tryz.func96 (aT 1) (fun W v0 hG h0 => Rn _ W _ h0 k1))
   (ah (zb rfl (aT 2) rfl rfl)
   Rg.bf)))) ?_
  intro v1 V1 hG1 hv1 hne1
  simp only [Rg.puts, Act.put, tA]
  have e3 : v1 3 = .bool true := hv1 3 de
  simp only [e3]
  have hO := hG1.1
  clear HO
  have HO := hide hO
  clear hO hG1 hv1 hne1
  try clear e3
  go_upto_region 2 with fail
  refine Rg.dh 1 25 (Rg.pick [ax [.k (eK z7), iv 0, iv 0]]) (ay w _ V1) eu [] kr rfl (Rg.dw.pick ⟨az _, trivial⟩) (ay.begin (aa HO))
   (ah (ala rfl rfl)
   Rg.bf) ?_
  intro v2 V2 hG2 hv2 hne2
  simp only [Rg.puts, Act.put, tA]
  have hO := hG2.1
  refine jq hO 0 [] zU [.k (eK z7), iv 0, iv 0] [] rfl zo rfl (show ax [.k (eK z7), iv 0, iv 0] V2 (v2 0) from hv2 0 de) rfl rfl rfl ?_
  intro Et gm hk0
  replace hO := gm
  clear gm
  clear HO
  have HO := hide hO
  clear hO hG2 hv2 hne2 hk0
  go_wp2_with fail
  exact uo Tryz.results105 Hz rfl rfl (aa HO) me0 rfl rfl
end Sb


namespace Sb
def axi (f g : Nat → Int) : Prop := f 0 = g 0 ∧ f 1 = g 1 ∧ f 2 = g 2 ∧ f 3 = g 3 ∧ f 4 = g 4 ∧ f 5 = g 5 ∧ f 6 = g 6
instance (f g : Nat → Int) : Decidable (axi f g) := by unfold axi; infer_instance
theorem aud : (Tryz.prog.info? 3).map (fun i => i.size) = some 1 := by kernel_rfl
end Sb


namespace Sb
theorem ajx {f : Nat → Int} {n d : Int} (w : World) (u0 : Value) (h0 : ax [.k (eK f), iv n, iv d] w u0) : Calls Tryz.prog 31 #[u0] w (ib (Rg.au (.int .i64 (De f n d))) w) := by
 obtain ⟨v, hv⟩ : ∃ v, v = De f n d := ⟨_, rfl⟩
 rw [← hv]
 have HV := hide hv
 clear hv
 have hu0 := Ah h0
 subst hu0
 go_enter Tryz.func31, Tryz.ntmps31
 go_upto_region 1 with fail
 have hO := (Own.push (T := 44) (ls := [.k (eK f), iv n, iv d]) (Own.nil w) (fo.e (fo.v (kg _) (fo.v (kg _) rfl))) (w.heap.size) rfl)
 generalize w.alloc (.cells #[.int .i64 (f 0), .int .i64 (f 1), .int .i64 (f 2), .int .i64 (f 3), .int .i64 (f 4), .int .i64 (f 5), .int .i64 (f 6), .int .i64 n, .int .i64 d] 44) = W0 at *
 have HO := hide hO
 clear hO

 go_wp2_with fail
 go_loopw [3] (fun vk wr => ∃ k : Nat, k ≤ 7 ∧ vk = .int .i64 ((k : Nat) : Int) ∧ (∀ j, j < k → -9 ≤ f j ∧ f j ≤ 9) ∧ Hid (Own w [(w.heap.size, 44, [.k (eK f), iv n, iv d])] wr)) (fun vk _ => 7 - (intOf vk).toNat)
 case atStart => exact ⟨0, by omega, rfl, (by intro j hj; omega), HO⟩
 case round =>
  obtain ⟨k, hk, rfl, hall, HO⟩ := hrel
  have HK := hide hk
  have Iw := hide hall
  clear hk hall
  by_cases g1 : k < 7
  ·
   have d1 : decide ((k : Int) < 7) = true := decide_eq_true om
   have yc := hide g1
   clear g1
   go_upto_region 2 with fail
   refine Rg.dh 2 30 (Rg.pick [Rg.au (.int .i64 (k : Int)), Rg.au (.bool true)]) (ay w _ wr) eu [] kr rfl (Rg.dw.pick ⟨Rg.ae _, Rg.ae _, trivial⟩) (ay.begin (aa HO))
    (ah (di rfl aF)
    (ah (rz rfl (aT 0) (Rg.iy _) rfl d1)
    Rg.bf)) ?_
   intro v1 V1 hG1 hv1 hne1
   simp only [Rg.puts, Act.put, tA]
   have e1 : v1 1 = .bool true := hv1 1 de
   simp only [e1]
   have hO := hG1.1
   clear HO
   have HO := hide hO
   clear hO hG1 hv1 hne1
   try clear e1
   clear d1
   by_cases g2 : f k < -9
   ·
    have k2 : decide (f k < -9) = true := decide_eq_true g2
    have hv : v = 1 := by rw [aa HV]; exact if_neg (fun h => by have := h.1 k (aa yc); omega)
    subst hv
    clear HV
    go_upto_region 4 with fail
    refine Rg.dh 12 30 (Rg.pick [Rg.au (.int .i64 (k : Int)), Rg.au (.pointer (some ⟨w.heap.size, 0, none⟩)), Rg.au (.pointer (some ⟨w.heap.size, k, none⟩)), Rg.au (.int .i64 (f k)), Rg.au (.bool true), Rg.au (.bool true), Rg.au undef, Rg.au undef, Rg.au undef, Rg.au undef, Rg.au undef, Rg.au (.bool true)]) (ay w _ V1) eu [] kr rfl (Rg.dw.pick ⟨Rg.ae _, Rg.ae _, Rg.ae _, Rg.ae _, Rg.ae _, Rg.ae _, Rg.ae _, Rg.ae _, Rg.ae _, Rg.ae _, Rg.ae _, Rg.ae _, trivial⟩) (ay.begin (aa HO))
     (ah (di rfl aF)
     (ah (zw (b := w.heap.size) (off := 0) rfl aF rfl rfl)
     (ah (Fe (b := w.heap.size) (k := k) rfl (aT 1) (aT 0) (aa yc) rfl)
     (ah (Lf (f := f) me0 rfl (aT 2) (aa yc) rfl rfl)
     (ah (rz rfl (aT 3) (Rg.iy _) rfl k2)
     (ah (di rfl (aT 4))
     (Rg.df (Rg.mf (d := 13) rfl kr rfl rfl mg rfl rfl)
     (Rg.df (Rg.mf (d := 13) rfl kr rfl rfl mg rfl rfl)
     (Rg.df (Rg.mf (d := 13) rfl kr rfl rfl mg rfl rfl)
     (Rg.df (Rg.mf (d := 13) rfl kr rfl rfl mg rfl rfl)
     (Rg.df (Rg.mf (d := 13) rfl kr rfl rfl mg rfl rfl)
     (ah (vg rfl (aT 5) (Rg.iy _))
     Rg.bf)))))))))))) ?_
    intro v2 V2 hG2 hv2 hne2
    simp only [Rg.puts, Act.put, tA]
    have e11 : v2 11 = .bool true := hv2 11 de
    simp only [e11]
    have hO := hG2.1
    clear HO
    have HO := hide hO
    clear hO hG2 hv2 hne2
    try clear e11
    go_upto_region 5 with fail
    refine Rg.dh 1 30 (Rg.pick [Rg.au (.int .i64 1)]) (ay w _ V2) eu [] kr rfl (Rg.dw.pick ⟨Rg.ae _, trivial⟩) (ay.begin (aa HO))
     (ah (jk rfl (Rg.iy _))
     Rg.bf) ?_
    intro v3 V3 hG3 hv3 ma
    simp only [Rg.puts, Act.put, tA]
    have e0 : v3 0 = .int .i64 1 := hv3 0 de
    simp only [e0]
    have hO := hG3.1
    clear HO
    have HO := hide hO
    clear hO hG3 hv3 ma
    try clear e0
    go_wp2_with fail
    exact xw Tryz.results31 rfl (aa HO).bel rfl
   ·
    by_cases g3 : 9 < f k
    ·
     have k2 : decide (f k < -9) = false := decide_eq_false g2
     have k3 : decide (9 < f k) = true := decide_eq_true g3
     have hv : v = 1 := by rw [aa HV]; exact if_neg (fun h => by have := h.1 k (aa yc); omega)
     subst hv
     clear HV
     go_upto_region 4 with fail
     refine Rg.dh 12 30 (Rg.pick [Rg.au (.int .i64 (k : Int)), Rg.au (.pointer (some ⟨w.heap.size, 0, none⟩)), Rg.au (.pointer (some ⟨w.heap.size, k, none⟩)), Rg.au (.int .i64 (f k)), Rg.au (.bool false), Rg.au (.bool false), Rg.au (.int .i64 (k : Int)), Rg.au (.pointer (some ⟨w.heap.size, 0, none⟩)), Rg.au (.pointer (some ⟨w.heap.size, k, none⟩)), Rg.au (.int .i64 (f k)), Rg.au (.bool true), Rg.au (.bool true)]) (ay w _ V1) eu [] kr rfl (Rg.dw.pick ⟨Rg.ae _, Rg.ae _, Rg.ae _, Rg.ae _, Rg.ae _, Rg.ae _, Rg.ae _, Rg.ae _, Rg.ae _, Rg.ae _, Rg.ae _, Rg.ae _, trivial⟩) (ay.begin (aa HO))
      (ah (di rfl aF)
      (ah (zw (b := w.heap.size) (off := 0) rfl aF rfl rfl)
      (ah (Fe (b := w.heap.size) (k := k) rfl (aT 1) (aT 0) (aa yc) rfl)
      (ah (Lf (f := f) me0 rfl (aT 2) (aa yc) rfl rfl)
      (ah (rz rfl (aT 3) (Rg.iy _) rfl k2)
      (ah (di rfl (aT 4))
      (Rg.df (Rg.fu (d := 13) rfl kr rfl (di rfl aF))
      (Rg.df (Rg.fu (d := 13) rfl kr rfl (zw (b := w.heap.size) (off := 0) rfl aF rfl rfl))
      (Rg.df (Rg.fu (d := 13) rfl kr rfl (Fe (b := w.heap.size) (k := k) rfl (aT 7) (aT 6) (aa yc) rfl))
      (Rg.df (Rg.fu (d := 13) rfl kr rfl (Lf (f := f) me0 rfl (aT 8) (aa yc) rfl rfl))
      (Rg.df (Rg.fu (d := 13) rfl kr rfl (Va rfl (aT 9) (Rg.iy _) rfl k3))
      (ah (pg rfl (aT 5) (aT 10))
      Rg.bf)))))))))))) ?_
     intro v2 V2 hG2 hv2 hne2
     simp only [Rg.puts, Act.put, tA]
     have e11 : v2 11 = .bool true := hv2 11 de
     simp only [e11]
     have hO := hG2.1
     clear HO
     have HO := hide hO
     clear hO hG2 hv2 hne2
     try clear e11
     go_upto_region 5 with fail
     refine Rg.dh 1 30 (Rg.pick [Rg.au (.int .i64 1)]) (ay w _ V2) eu [] kr rfl (Rg.dw.pick ⟨Rg.ae _, trivial⟩) (ay.begin (aa HO))
      (ah (jk rfl (Rg.iy _))
      Rg.bf) ?_
     intro v3 V3 hG3 hv3 ma
     simp only [Rg.puts, Act.put, tA]
     have e0 : v3 0 = .int .i64 1 := hv3 0 de
     simp only [e0]
     have hO := hG3.1
     clear HO
     have HO := hide hO
     clear hO hG3 hv3 ma
     try clear e0
     go_wp2_with fail
     exact xw Tryz.results31 rfl (aa HO).bel rfl
    ·
     have k2 : decide (f k < -9) = false := decide_eq_false g2
     have k3 : decide (9 < f k) = false := decide_eq_false g3
     have HN := hide (show ∀ j, j < k + 1 → -9 ≤ f j ∧ f j ≤ 9 from fun j hj => by
      rcases Nat.lt_succ_iff_lt_or_eq.1 hj with h | rfl
      ·
       exact (aa Iw) j h
      ·
       omega)
     clear g2 g3
     go_upto_region 4 with fail
     refine Rg.dh 12 30 (Rg.pick [Rg.au (.int .i64 (k : Int)), Rg.au (.pointer (some ⟨w.heap.size, 0, none⟩)), Rg.au (.pointer (some ⟨w.heap.size, k, none⟩)), Rg.au (.int .i64 (f k)), Rg.au (.bool false), Rg.au (.bool false), Rg.au (.int .i64 (k : Int)), Rg.au (.pointer (some ⟨w.heap.size, 0, none⟩)), Rg.au (.pointer (some ⟨w.heap.size, k, none⟩)), Rg.au (.int .i64 (f k)), Rg.au (.bool false), Rg.au (.bool false)]) (ay w _ V1) eu [] kr rfl (Rg.dw.pick ⟨Rg.ae _, Rg.ae _, Rg.ae _, Rg.ae _, Rg.ae _, Rg.ae _, Rg.ae _, Rg.ae _, Rg.ae _, Rg.ae _, Rg.ae _, Rg.ae _, trivial⟩) (ay.begin (aa HO))
      (ah (di rfl aF)
      (ah (zw (b := w.heap.size) (off := 0) rfl aF rfl rfl)
      (ah (Fe (b := w.heap.size) (k := k) rfl (aT 1) (aT 0) (aa yc) rfl)
      (ah (Lf (f := f) me0 rfl (aT 2) (aa yc) rfl rfl)
      (ah (rz rfl (aT 3) (Rg.iy _) rfl k2)
      (ah (di rfl (aT 4))
      (Rg.df (Rg.fu (d := 13) rfl kr rfl (di rfl aF))
      (Rg.df (Rg.fu (d := 13) rfl kr rfl (zw (b := w.heap.size) (off := 0) rfl aF rfl rfl))
      (Rg.df (Rg.fu (d := 13) rfl kr rfl (Fe (b := w.heap.size) (k := k) rfl (aT 7) (aT 6) (aa yc) rfl))
      (Rg.df (Rg.fu (d := 13) rfl kr rfl (Lf (f := f) me0 rfl (aT 8) (aa yc) rfl rfl))
      (Rg.df (Rg.fu (d := 13) rfl kr rfl (Va rfl (aT 9) (Rg.iy _) rfl k3))
      (ah (pg rfl (aT 5) (aT 10))
      Rg.bf)))))))))))) ?_
     intro v2 V2 hG2 hv2 hne2
     simp only [Rg.puts, Act.put, tA]
     have e11 : v2 11 = .bool false := hv2 11 de
     simp only [e11]
     have hO := hG2.1
     clear HO
     have HO := hide hO
     clear hO hG2 hv2 hne2
     try clear e11
     clear k2 k3
     go_wp2_with fail
     go_roundw
     case rel =>
      exact ⟨k + 1, by have := aa yc; omega, Ld (aa yc) om, aa HN, HO⟩
     case measure =>
      have h1 := aa yc
      clear HO
      rw [Jp h1 om]
      exact measS h1
  ·
   obtain rfl : k = 7 := by have := aa HK; omega
   clear g1
   have HF := hide (show Ad f from aa Iw)
   clear Iw
   go_upto_region 2 with fail
   refine Rg.dh 2 30 (Rg.pick [Rg.au (.int .i64 ((7 : Nat) : Int)), Rg.au (.bool false)]) (ay w _ wr) eu [] kr rfl (Rg.dw.pick ⟨Rg.ae _, Rg.ae _, trivial⟩) (ay.begin (aa HO))
    (ah (di rfl aF)
    (ah (rz rfl (aT 0) (Rg.iy _) rfl rfl)
    Rg.bf)) ?_
   intro v1 V1 hG1 hv1 hne1
   simp only [Rg.puts, Act.put, tA]
   have e1 : v1 1 = .bool false := hv1 1 de
   simp only [e1]
   have hO := hG1.1
   clear HO
   have HO := hide hO
   clear hO hG1 hv1 hne1
   try clear e1
   by_cases g2 : Wd.oo n d
   ·
    by_cases g3 : n ≤ 0
    ·
     have k2 : decide (Wd.oo n d) = true := decide_eq_true g2
     have k3 : decide (n ≤ 0) = true := decide_eq_true g3
     have hv : v = 1 := by rw [aa HV]; exact if_neg (fun h => absurd h.2.2 om)
     subst hv
     clear HV
     go_upto_region 6 with fail
     refine Rg.dh 10 30 (Rg.pick [Rg.au (.pointer (some ⟨w.heap.size, 7, none⟩)), ax [iv n, iv d], Rg.au (.bool true), Rg.au (.bool false), Rg.au (.bool false), Rg.au (.pointer (some ⟨w.heap.size, 7, none⟩)), Rg.au (.pointer (some ⟨w.heap.size, 7, none⟩)), Rg.au (.int .i64 n), Rg.au (.bool true), Rg.au (.bool true)]) (ay w _ V1) eu [] kr rfl (Rg.dw.pick ⟨Rg.ae _, az _, Rg.ae _, Rg.ae _, Rg.ae _, Rg.ae _, Rg.ae _, Rg.ae _, Rg.ae _, Rg.ae _, trivial⟩) (ay.begin (aa HO))
      (ah (Ak (b := w.heap.size) (off := 0) rfl aF rfl rfl)
      (ah (ic uf me0 (aT 0) [.k (eK f)] [iv n, iv d] [])
      (ah (sc1 Tryz.func70 (aT 1) (fun W v0 hG h0 => k2 ▸ atn h0))
      (ah (zb rfl (aT 2) rfl rfl)
      (ah (di rfl (aT 3))
      (Rg.df (Rg.fu (d := 24) rfl kr rfl (Ak (b := w.heap.size) (off := 0) rfl aF rfl rfl))
      (Rg.df (Rg.fu (d := 24) rfl kr rfl (Co (b := w.heap.size) (off := 7) rfl (aT 5) rfl rfl))
      (Rg.df (Rg.fu (d := 24) rfl kr rfl (Lg Di me0 (aT 6) [.k (eK f)] [iv d] rfl))
      (Rg.df (Rg.fu (d := 24) rfl kr rfl (acx rfl (aT 7) (Rg.iy _) rfl k3))
      (ah (pg rfl (aT 4) (aT 8))
      Rg.bf)))))))))) ?_
     intro v2 V2 hG2 hv2 hne2
     simp only [Rg.puts, Act.put, tA]
     have e9 : v2 9 = .bool true := hv2 9 de
     simp only [e9]
     have hO := hG2.1
     clear HO
     have HO := hide hO
     clear hO hG2 hv2 hne2
     try clear e9
     go_upto_region 7 with fail
     refine Rg.dh 1 30 (Rg.pick [Rg.au (.int .i64 1)]) (ay w _ V2) eu [] kr rfl (Rg.dw.pick ⟨Rg.ae _, trivial⟩) (ay.begin (aa HO))
      (ah (jk rfl (Rg.iy _))
      Rg.bf) ?_
     intro v3 V3 hG3 hv3 ma
     simp only [Rg.puts, Act.put, tA]
     have e0 : v3 0 = .int .i64 1 := hv3 0 de
     simp only [e0]
     have hO := hG3.1
     clear HO
     have HO := hide hO
     clear hO hG3 hv3 ma
     try clear e0
     go_wp2_with fail
     exact xw Tryz.results31 rfl (aa HO).bel rfl
    ·
     have k2 : decide (Wd.oo n d) = true := decide_eq_true g2
     have k3 : decide (n ≤ 0) = false := decide_eq_false g3
     have hv : v = 0 := by rw [aa HV]; exact if_pos ⟨aa HF, g2, by omega⟩
     subst hv
     clear HV
     go_upto_region 6 with fail
     refine Rg.dh 10 30 (Rg.pick [Rg.au (.pointer (some ⟨w.heap.size, 7, none⟩)), ax [iv n, iv d], Rg.au (.bool true), Rg.au (.bool false), Rg.au (.bool false), Rg.au (.pointer (some ⟨w.heap.size, 7, none⟩)), Rg.au (.pointer (some ⟨w.heap.size, 7, none⟩)), Rg.au (.int .i64 n), Rg.au (.bool false), Rg.au (.bool false)]) (ay w _ V1) eu [] kr rfl (Rg.dw.pick ⟨Rg.ae _, az _, Rg.ae _, Rg.ae _, Rg.ae _, Rg.ae _, Rg.ae _, Rg.ae _, Rg.ae _, Rg.ae _, trivial⟩) (ay.begin (aa HO))
      (ah (Ak (b := w.heap.size) (off := 0) rfl aF rfl rfl)
      (ah (ic uf me0 (aT 0) [.k (eK f)] [iv n, iv d] [])
      (ah (sc1 Tryz.func70 (aT 1) (fun W v0 hG h0 => k2 ▸ atn h0))
      (ah (zb rfl (aT 2) rfl rfl)
      (ah (di rfl (aT 3))
      (Rg.df (Rg.fu (d := 24) rfl kr rfl (Ak (b := w.heap.size) (off := 0) rfl aF rfl rfl))
      (Rg.df (Rg.fu (d := 24) rfl kr rfl (Co (b := w.heap.size) (off := 7) rfl (aT 5) rfl rfl))
      (Rg.df (Rg.fu (d := 24) rfl kr rfl (Lg Di me0 (aT 6) [.k (eK f)] [iv d] rfl))
      (Rg.df (Rg.fu (d := 24) rfl kr rfl (acx rfl (aT 7) (Rg.iy _) rfl k3))
      (ah (pg rfl (aT 4) (aT 8))
      Rg.bf)))))))))) ?_
     intro v2 V2 hG2 hv2 hne2
     simp only [Rg.puts, Act.put, tA]
     have e9 : v2 9 = .bool false := hv2 9 de
     simp only [e9]
     have hO := hG2.1
     clear HO
     have HO := hide hO
     clear hO hG2 hv2 hne2
     try clear e9
     go_upto_region 8 with fail
     refine Rg.dh 1 30 (Rg.pick [Rg.au (.int .i64 0)]) (ay w _ V2) eu [] kr rfl (Rg.dw.pick ⟨Rg.ae _, trivial⟩) (ay.begin (aa HO))
      (ah (jk rfl (Rg.iy _))
      Rg.bf) ?_
     intro v3 V3 hG3 hv3 ma
     simp only [Rg.puts, Act.put, tA]
     have e0 : v3 0 = .int .i64 0 := hv3 0 de
     simp only [e0]
     have hO := hG3.1
     clear HO
     have HO := hide hO
     clear hO hG3 hv3 ma
     try clear e0
     go_wp2_with fail
     exact xw Tryz.results31 rfl (aa HO).bel rfl
   ·
    have k2 : decide (Wd.oo n d) = false := decide_eq_false g2
    have hv : v = 1 := by rw [aa HV]; exact if_neg (fun h => g2 h.2.1)
    subst hv
    clear HV
    go_upto_region 6 with fail
    refine Rg.dh 10 30 (Rg.pick [Rg.au (.pointer (some ⟨w.heap.size, 7, none⟩)), ax [iv n, iv d], Rg.au (.bool false), Rg.au (.bool true), Rg.au (.bool true), Rg.au undef, Rg.au undef, Rg.au undef, Rg.au undef, Rg.au (.bool true)]) (ay w _ V1) eu [] kr rfl (Rg.dw.pick ⟨Rg.ae _, az _, Rg.ae _, Rg.ae _, Rg.ae _, Rg.ae _, Rg.ae _, Rg.ae _, Rg.ae _, Rg.ae _, trivial⟩) (ay.begin (aa HO))
     (ah (Ak (b := w.heap.size) (off := 0) rfl aF rfl rfl)
     (ah (ic uf me0 (aT 0) [.k (eK f)] [iv n, iv d] [])
     (ah (sc1 Tryz.func70 (aT 1) (fun W v0 hG h0 => k2 ▸ atn h0))
     (ah (zb rfl (aT 2) rfl rfl)
     (ah (di rfl (aT 3))
     (Rg.df (Rg.mf (d := 24) rfl kr rfl rfl mg rfl rfl)
     (Rg.df (Rg.mf (d := 24) rfl kr rfl rfl mg rfl rfl)
     (Rg.df (Rg.mf (d := 24) rfl kr rfl rfl mg rfl rfl)
     (Rg.df (Rg.mf (d := 24) rfl kr rfl rfl mg rfl rfl)
     (ah (vg rfl (aT 4) (Rg.iy _))
     Rg.bf)))))))))) ?_
    intro v2 V2 hG2 hv2 hne2
    simp only [Rg.puts, Act.put, tA]
    have e9 : v2 9 = .bool true := hv2 9 de
    simp only [e9]
    have hO := hG2.1
    clear HO
    have HO := hide hO
    clear hO hG2 hv2 hne2
    try clear e9
    go_upto_region 7 with fail
    refine Rg.dh 1 30 (Rg.pick [Rg.au (.int .i64 1)]) (ay w _ V2) eu [] kr rfl (Rg.dw.pick ⟨Rg.ae _, trivial⟩) (ay.begin (aa HO))
     (ah (jk rfl (Rg.iy _))
     Rg.bf) ?_
    intro v3 V3 hG3 hv3 ma
    simp only [Rg.puts, Act.put, tA]
    have e0 : v3 0 = .int .i64 1 := hv3 0 de
    simp only [e0]
    have hO := hG3.1
    clear HO
    have HO := hide hO
    clear hO hG3 hv3 ma
    try clear e0
    go_wp2_with fail
    exact xw Tryz.results31 rfl (aa HO).bel rfl
end Sb


namespace Sb
theorem bbh {f g : Nat → Int} {n d p q : Int} (h : yo f n d g p q = 0) : Gg f n d ∧ Gg g p q := by
 unfold yo De at h
 by_cases k : Gg f n d
 ·
  rw [if_pos k, if_pos rfl] at h
  by_cases k2 : Gg g p q
  ·
   exact ⟨k, k2⟩
  ·
   rw [if_neg k2] at h; omega
 ·
  rw [if_neg k, if_neg de] at h; omega
theorem bbi {f g : Nat → Int} {n d p q : Int} (h : ¬ (Gg f n d ∧ Gg g p q)) : yo f n d g p q = 1 := by
 unfold yo De
 by_cases k : Gg f n d
 ·
  rw [if_pos k, if_pos rfl, if_neg (fun k2 => h ⟨k, k2⟩)]
 ·
  rw [if_neg k]; rfl
theorem avy {f g : Nat → Int} {n d p q : Int} (h : Gg f n d ∧ Gg g p q) : yo f n d g p q = 0 := by
 unfold yo De
 rw [if_pos h.1, if_pos rfl, if_pos h.2]
theorem bao {f : Nat → Int} {n d : Int} (h : Gg f n d) : 0 < Wd.qR n d := by
 have h1 := (Wd.Nl h.2.1).1
 have h2 : 0 < (Wd.qR n d).num := by rw [h1]; have := h.2.2; omega
 have h3 : 0 ≤ Wd.qR n d := Rat.num_nonneg.1 om
 refine Rat.lt_of_le_of_ne h3 (fun e => ?_)
 rw [← e] at h2
 exact absurd h2 de
theorem ajk {f : Nat → Int} {n d : Int} (h : Gg f n d) : (Wd.qR n d).num ≠ 0 := by
 have h1 := (Wd.Nl h.2.1).1
 rw [h1]; have := h.2.2; omega
theorem arc {f g pp h : Nat → Int} {n d p q m : Int} {y a : Rat} (t : Zp) (w : World) (hT : qm w) (u0 : Value) (h0 : ax [.k (eK f), iv n, iv d] w u0) (u1 : Value) (h1 : ax [.k (eK g), iv p, iv q] w u1)
  (hm : -((9 : Nat) : Int) ≤ m ∧ m ≤ (9 : Nat)) (he : xk (Wd.qR p q) m = y ∧ (Wd.qR n d) * y = a)
  (ha : Gg f n d → Gg g p q → (∀ j, j < 7 → wrap64 (g j * m) = pp j) ∧ (∀ j, j < 7 → wrap64 (f j + pp j) = h j))
  (hr : ((yo f n d g p q) ≠ 0 → t = ⟨z7, 0, 0, (yo f n d g p q)⟩) ∧ ((yo f n d g p q) = 0 → t = ni h a)) :
  Calls Tryz.prog 98 #[u0, u1, .int .i64 m] w (ib (Zo t) w) := by
 have HM := hide hm
 have HE := hide he
 have HA := hide ha
 have HR := hide hr
 have HT := hide hT
 clear hm he ha hr hT
 have hu0 := Ah h0
 subst hu0
 have hu1 := Ah h1
 subst hu1
 go_enter Tryz.func98, Tryz.ntmps98
 go_upto_region 1 with fail
 have hO := (Own.push (T := 44) (ls := zU) (Own.push (T := 44) (ls := [.k (eK g), iv p, iv q]) (Own.push (T := 44) (ls := [.k (eK f), iv n, iv d]) (Own.nil w) (fo.e (fo.v (kg _) (fo.v (kg _) rfl))) (w.heap.size) rfl) (fo.below (by repeat (first | exact Below.refl _ _ | refine gy ?_ _)) (fo.e (fo.v (kg _) (fo.v (kg _) rfl)))) (w.heap.size + 1) (by simp only [World.size_alloc])) (fo.below (by repeat (first | exact Below.refl _ _ | refine gy ?_ _)) (fo.vs w [.int .i64 0, .int .i64 0, .int .i64 0, .int .i64 0, .int .i64 0, .int .i64 0, .int .i64 0, .int .i64 0, .int .i64 0] rfl)) (w.heap.size + 2) (by simp only [World.size_alloc]))
 generalize ((w.alloc (.cells #[.int .i64 (f 0), .int .i64 (f 1), .int .i64 (f 2), .int .i64 (f 3), .int .i64 (f 4), .int .i64 (f 5), .int .i64 (f 6), .int .i64 n, .int .i64 d] 44)).alloc (.cells #[.int .i64 (g 0), .int .i64 (g 1), .int .i64 (g 2), .int .i64 (g 3), .int .i64 (g 4), .int .i64 (g 5), .int .i64 (g 6), .int .i64 p, .int .i64 q] 44)).alloc (.cells #[.int .i64 0, .int .i64 0, .int .i64 0, .int .i64 0, .int .i64 0, .int .i64 0, .int .i64 0, .int .i64 0, .int .i64 0] 44) = W0 at *
 have HO := hide hO
 clear hO
 go_upto_region 1 with fail
 refine Rg.dh 4 26 (Rg.pick [ax [.k (eK f), iv n, iv d], ax [.k (eK g), iv p, iv q], Rg.au (.int .i64 (yo f n d g p q)), Rg.au (.int .i64 (yo f n d g p q))]) (ay w _ W0) eu [] kr rfl (Rg.dw.pick ⟨az _, az _, Rg.ae _, Rg.ae _, trivial⟩) (ay.begin (aa HO))
  (ah (ic wy Bv aF [] [.k (eK f), iv n, iv d] [])
  (ah (ic wy qg aF [] [.k (eK g), iv p, iv q] [])
  (ah (sc2 Tryz.func107 (aT 0) (aT 1) (fun W v0 v1 hG h0 h1 => bfx W ((aa HT).below hG.bel) _ h0 _ h1))
  (ah (jk rfl (aT 2))
  Rg.bf)))) ?_
 intro v1 V1 hG1 hv1 hne1
 simp only [Rg.puts, Act.put, tA]
 have e2 : v1 2 = .int .i64 (yo f n d g p q) := hv1 2 de
 have e3 : v1 3 = .int .i64 (yo f n d g p q) := hv1 3 de
 simp only [e2, e3]
 have hO := hG1.1
 clear HO
 have HO := hide hO
 clear hO hG1 hv1 hne1
 try clear e2 e3
 by_cases g0 : (yo f n d g p q) = 0
 ·
  have k1 : ((yo f n d g p q) != 0) = false := by simp [bne, beq_iff_eq.2 g0]
  have hr := (aa HR).2 g0
  have xx := hide (bbh g0)
  have HA2 := hide ((aa HA) (aa xx).1 (aa xx).2)
  clear HR HA
  subst hr
  go_upto_region 2 with fail
  refine Rg.dh 2 26 (Rg.pick [Rg.au (.int .i64 (yo f n d g p q)), Rg.au (.bool false)]) (ay w _ V1) eu [] kr rfl (Rg.dw.pick ⟨Rg.ae _, Rg.ae _, trivial⟩) (ay.begin (aa HO))
   (ah (di rfl aF)
   (ah (qy rfl (aT 0) (Rg.iy _) rfl k1)
   Rg.bf)) ?_
  intro v2 V2 hG2 hv2 hne2
  simp only [Rg.puts, Act.put, tA]
  have e1 : v2 1 = .bool false := hv2 1 de
  simp only [e1]
  have hO := hG2.1
  clear HO
  have HO := hide hO
  clear hO hG2 hv2 hne2
  try clear e1
  clear k1 g0
  go_upto_region 4 with fail
  refine Rg.region 10 26 (Rg.pick [ax [.k (eK f), iv n, iv d], ax [.k (eK f), .q (Wd.qR n d)], ax [.k (eK g), iv p, iv q], ax [.k (eK g), .q (Wd.qR p q)], Rg.au (.int .i64 m), ax [.k (eK pp), .q y], ax [.k (eK h), .q a], kz [ax [.k (eK (ni h a).f), iv (ni h a).n, iv (ni h a).d], Rg.au (.int .i64 (ni h a).e)], ax [.k (eK (ni h a).f), iv (ni h a).n, iv (ni h a).d], Rg.au (.int .i64 (ni h a).e)]) (ay w _ V2) eu [] kr kr rfl (Rg.dw.pick ⟨az _, az _, az _, az _, Rg.ae _, az _, az _, jf ⟨(az _), (Rg.ae _), trivial⟩, az _, Rg.ae _, trivial⟩) (ay.start (aa HO))
   (ah (ic wy Bv aF [] [.k (eK f), iv n, iv d] [])
   (ah (sc1 Tryz.func103 (aT 0) (fun W v0 hG h0 => adg (aa xx).1.2.1 W _ h0))
   (ah (ic wy qg aF [] [.k (eK g), iv p, iv q] [])
   (ah (sc1 Tryz.func103 (aT 2) (fun W v0 hG h0 => adg (aa xx).2.2.1 W _ h0))
   (ah (di rfl aF)
   (ah (sc2 Tryz.func104 (aT 3) (aT 4) (fun W v0 v1 hG h0 h1 => by cases h1; exact abh W _ h0 (aa HA2).1 (fun W v0 hb h0 => (aa HE).1 ▸ ahf (K := 1) (b := 9) (Dg (aa xx).2.2.1) (ajk (aa xx).2) (aa HM) om om W v0 h0)))
   (ah (sc2 Tryz.func119 (aT 1) (aT 5) (fun W v0 v1 hG h0 h1 => Nj W _ h0 _ h1 (aa HA2).2 (fun W' v0 v1 hb h0 h1 => (aa HE).2 ▸ Rm ((aa HT).below (bg hG.bel hb)) ((Dg (aa xx).1.2.1).mono om om) ((aa HE).1 ▸ Sm.xk (b := 9) (Dg (aa xx).2.2.1) (ajk (aa xx).2) (aa HM) om) h0 h1)))
   (ah (sc1 Tryz.func105 (aT 6) (fun W v0 hG h0 => ajw W _ h0))
   (ah (ky (ts := [ax [.k (eK (ni h a).f), iv (ni h a).n, iv (ni h a).d], Rg.au (.int .i64 (ni h a).e)]) rfl (aT 7) (of_decide_eq_true rfl) rfl)
   (ah (ky (ts := [ax [.k (eK (ni h a).f), iv (ni h a).n, iv (ni h a).d], Rg.au (.int .i64 (ni h a).e)]) rfl (aT 7) (of_decide_eq_true rfl) rfl)
   Rg.bf)))))))))) ?_
  intro v3 V3 hG3 hv3 ma
  simp only [Rg.puts, Act.put, tA]
  have e9 : v3 9 = .int .i64 (ni h a).e := hv3 9 de
  simp only [e9]
  have hO := hG3.1
  refine jq hO 0 [] zU [.k (eK (ni h a).f), iv (ni h a).n, iv (ni h a).d] [] rfl zo rfl (show ax [.k (eK (ni h a).f), iv (ni h a).n, iv (ni h a).d] V3 (v3 8) from hv3 8 de) rfl rfl rfl ?_
  intro Gl gm hk0
  replace hO := gm
  clear gm
  clear HO
  have HO := hide hO
  clear hO hG3 hv3 ma hk0
  try clear e9
  go_wp2_with fail
  exact uo Tryz.results98 Hz rfl rfl (aa HO) me0 rfl rfl
 ·
  have k1 : ((yo f n d g p q) != 0) = true := by simp [bne, beq_eq_false_iff_ne.2 g0]
  have hr := (aa HR).1 g0
  clear HR
  subst hr
  go_upto_region 2 with fail
  refine Rg.dh 2 26 (Rg.pick [Rg.au (.int .i64 (yo f n d g p q)), Rg.au (.bool true)]) (ay w _ V1) eu [] kr rfl (Rg.dw.pick ⟨Rg.ae _, Rg.ae _, trivial⟩) (ay.begin (aa HO))
   (ah (di rfl aF)
   (ah (qy rfl (aT 0) (Rg.iy _) rfl k1)
   Rg.bf)) ?_
  intro v2 V2 hG2 hv2 hne2
  simp only [Rg.puts, Act.put, tA]
  have e1 : v2 1 = .bool true := hv2 1 de
  simp only [e1]
  have hO := hG2.1
  clear HO
  have HO := hide hO
  clear hO hG2 hv2 hne2
  try clear e1
  go_upto_region 3 with fail
  refine Rg.dh 2 26 (Rg.pick [ax [.k (eK z7), iv 0, iv 0], Rg.au (.int .i64 (yo f n d g p q))]) (ay w _ V2) eu [] kr rfl (Rg.dw.pick ⟨az _, Rg.ae _, trivial⟩) (ay.begin (aa HO))
   (ah (ala rfl rfl)
   (ah (di rfl aF)
   Rg.bf)) ?_
  intro v3 V3 hG3 hv3 ma
  simp only [Rg.puts, Act.put, tA]
  have e1 : v3 1 = .int .i64 (yo f n d g p q) := hv3 1 de
  simp only [e1]
  have hO := hG3.1
  refine jq hO 0 [] zU [.k (eK z7), iv 0, iv 0] [] rfl zo rfl (show ax [.k (eK z7), iv 0, iv 0] V3 (v3 0) from hv3 0 de) rfl rfl rfl ?_
  intro Gl gm hk0
  replace hO := gm
  clear gm
  clear HO
  have HO := hide hO
  clear hO hG3 hv3 ma hk0
  try clear e1
  go_wp2_with fail
  exact uo Tryz.results98 Hz rfl rfl (aa HO) me0 rfl rfl
noncomputable def Oj (f : Nat → Int) (n d : Int) (g : Nat → Int) (p q m : Int) : Zp := if yo f n d g p q = 0 then ni (fun j => f j + g j * m) ((Wd.qR n d) * xk (Wd.qR p q) m) else ⟨z7, 0, 0, 1⟩
theorem avc {f g : Nat → Int} {m : Int} (hf : Ad f) (hg : Ad g) (hm : -9 ≤ m ∧ m ≤ 9) : (∀ j, j < 7 → wrap64 (g j * m) = g j * m) ∧ (∀ j, j < 7 → wrap64 (f j + g j * m) = f j + g j * m) := by
 have key : ∀ j, j < 7 → -81 ≤ g j * m ∧ g j * m ≤ 81 := fun j hj => by
  have h1 := hg j hj
  have h2 := Int.natAbs_mul (g j) m
  have h3 : (g j).natAbs * m.natAbs ≤ 9 * 9 := Nat.mul_le_mul om om
  omega
 exact ⟨fun j hj => IntWalk.wrap64_in _ (by have := key j hj; omega), fun j hj => IntWalk.wrap64_in _ (by have := key j hj; have := hf j hj; omega)⟩
theorem bbe {f g : Nat → Int} {n d p q m : Int} (hm : -9 ≤ m ∧ m ≤ 9) (w : World) (hT : qm w) (u0 : Value) (h0 : ax [.k (eK f), iv n, iv d] w u0) (u1 : Value) (h1 : ax [.k (eK g), iv p, iv q] w u1) :
  Calls Tryz.prog 98 #[u0, u1, .int .i64 m] w (ib (Zo (Oj f n d g p q m)) w) := by
 refine arc (pp := fun j => g j * m) (h := fun j => f j + g j * m) _ w hT u0 h0 u1 h1 hm ⟨rfl, rfl⟩ (fun o1 o2 => avc o1.1 o2.1 hm) ⟨fun h => ?_, fun h => ?_⟩
 ·
  unfold Oj
  rw [if_neg h, bbi (fun k => h (avy k))]
 ·
  unfold Oj
  rw [if_pos h]
theorem _root_.Go.Proofs.YtfgeaakhlcaibaaGreatDoor.sc3 {P : Program} {Q : Exit → Act → World → Prop} {l : List Oper} {n : Nat} {T : Nat → World → Value → Prop} {w V : World} {bs : List Sb.xh} {al : List Nat} {a0 : Act} {k F d : Nat} {fn : Func} {ats : Array TypeId} {ty : TypeId} {pos : String} {af : Array Edge} {gd : Option (Nat × Bool)} {x1 x2 x3 : Operand} {A1 A2 A3 : World → Value → Prop} (hF : P.funcs[F]? = some fn) (h1 : Rg.ig l n T a0 k x1 A1) (h2 : Rg.ig l n T a0 k x2 A2) (h3 : Rg.ig l n T a0 k x3 A3) (hc : ∀ (W : World) (v1 v2 v3 : Value), Sb.ay w bs V W → A1 W v1 → A2 W v2 → A3 W v3 → Calls P F #[v1, v2, v3] W fun e w' => ∃ u, e = .returned u ∧ eu W w' ∧ T k w' u) (hn : (!(fn.name == "runtime.NumGoroutine") && fn.body.isSome) = true := by kernel_rfl) (hal : al.contains k = false := by rfl) :
  Rg.Step P Q l n T (Sb.ay w bs V) eu al a0 k { dst := some d, op := .call { callee := .value (.func F), args := #[x1, x2, x3], argTypes := ats }, type := ty, pos := pos, after := af, guard := gd } := aje hF hn hal Sb.ay.step h1 h2 h3 hc
theorem bfv {f g : Nat → Int} {n d p q : Int} (w : World) (hT : qm w) (u0 : Value) (h0 : ax [.k (eK f), iv n, iv d] w u0) (u1 : Value) (h1 : ax [.k (eK g), iv p, iv q] w u1) :
  Calls Tryz.prog 33 #[u0, u1] w (ib (Zo (Oj f n d g p q 1)) w) := by
 obtain ⟨t, ht⟩ : ∃ t, Oj f n d g p q 1 = t := ⟨_, rfl⟩
 rw [ht]
 have HE := hide ht
 have HT := hide hT
 clear ht hT
 have hu0 := Ah h0
 subst hu0
 have hu1 := Ah h1
 subst hu1
 go_enter Tryz.func33, Tryz.ntmps33
 go_upto_region 1 with fail
 have hO := (Own.push (T := 44) (ls := zU) (Own.push (T := 44) (ls := [.k (eK g), iv p, iv q]) (Own.push (T := 44) (ls := [.k (eK f), iv n, iv d]) (Own.nil w) (fo.e (fo.v (kg _) (fo.v (kg _) rfl))) (w.heap.size) rfl) (fo.below (by repeat (first | exact Below.refl _ _ | refine gy ?_ _)) (fo.e (fo.v (kg _) (fo.v (kg _) rfl)))) (w.heap.size + 1) (by simp only [World.size_alloc])) (fo.below (by repeat (first | exact Below.refl _ _ | refine gy ?_ _)) (fo.vs w [.int .i64 0, .int .i64 0, .int .i64 0, .int .i64 0, .int .i64 0, .int .i64 0, .int .i64 0, .int .i64 0, .int .i64 0] rfl)) (w.heap.size + 2) (by simp only [World.size_alloc]))
 generalize ((w.alloc (.cells #[.int .i64 (f 0), .int .i64 (f 1), .int .i64 (f 2), .int .i64 (f 3), .int .i64 (f 4), .int .i64 (f 5), .int .i64 (f 6), .int .i64 n, .int .i64 d] 44)).alloc (.cells #[.int .i64 (g 0), .int .i64 (g 1), .int .i64 (g 2), .int .i64 (g 3), .int .i64 (g 4), .int .i64 (g 5), .int .i64 (g 6), .int .i64 p, .int .i64 q] 44)).alloc (.cells #[.int .i64 0, .int .i64 0, .int .i64 0, .int .i64 0, .int .i64 0, .int .i64 0, .int .i64 0, .int .i64 0, .int .i64 0] 44) = W0 at *
 have HO := hide hO
 clear hO
 go_upto_region 1 with fail
 refine Rg.dh 5 11 (Rg.pick [ax [.k (eK f), iv n, iv d], ax [.k (eK g), iv p, iv q], kz [ax [.k (eK t.f), iv t.n, iv t.d], Rg.au (.int .i64 t.e)], ax [.k (eK t.f), iv t.n, iv t.d], Rg.au (.int .i64 t.e)]) (ay w _ W0) eu [] kr rfl (Rg.dw.pick ⟨az _, az _, jf ⟨(az _), (Rg.ae _), trivial⟩, az _, Rg.ae _, trivial⟩) (ay.begin (aa HO))
  (ah (ic wy Bv aF [] [.k (eK f), iv n, iv d] [])
  (ah (ic wy qg aF [] [.k (eK g), iv p, iv q] [])
  (ah (sc3 Tryz.func98 (aT 0) (aT 1) (Rg.iy _) (fun W v0 v1 v2 hG h0 h1 h2 => by cases h2; exact (aa HE) ▸ bbe om W ((aa HT).below hG.bel) _ h0 _ h1))
  (ah (ky (ts := [ax [.k (eK t.f), iv t.n, iv t.d], Rg.au (.int .i64 t.e)]) rfl (aT 2) (of_decide_eq_true rfl) rfl)
  (ah (ky (ts := [ax [.k (eK t.f), iv t.n, iv t.d], Rg.au (.int .i64 t.e)]) rfl (aT 2) (of_decide_eq_true rfl) rfl)
  Rg.bf))))) ?_
 intro v1 V1 hG1 hv1 hne1
 simp only [Rg.puts, Act.put, tA]
 have e4 : v1 4 = .int .i64 t.e := hv1 4 de
 simp only [e4]
 have hO := hG1.1
 refine jq hO 0 [] zU [.k (eK t.f), iv t.n, iv t.d] [] rfl zo rfl (show ax [.k (eK t.f), iv t.n, iv t.d] V1 (v1 3) from hv1 3 de) rfl rfl rfl ?_
 intro za gm hk0
 replace hO := gm
 clear gm
 clear HO
 have HO := hide hO
 clear hO hG1 hv1 hne1 hk0
 try clear e4
 go_wp2_with fail
 exact uo Tryz.results33 Hz rfl rfl (aa HO) me0 rfl rfl
end Sb


namespace Sb
end Sb

end Go.Proofs.YtfgeaakhlcaibaaGreatDoor
