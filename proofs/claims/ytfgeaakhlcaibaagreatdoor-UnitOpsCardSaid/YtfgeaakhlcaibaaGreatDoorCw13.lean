/- Texts beneath a law of layer 1. -/
import Derived.Test.YtfgeaakhlcaibaaGreatDoorCw12
import Derived.ChangeKeysEq
set_option maxRecDepth 100000
set_option maxHeartbeats 16000000
namespace Go.Proofs.YtfgeaakhlcaibaaGreatDoor
open Go.RowKit

namespace Sb
def qf (f : Nat → Int) (n d : Int) : Prop := Ca f ∧ Wd.qy n d ∧ 1 ≤ n
instance (f : Nat → Int) (n d : Int) : Decidable (qf f n d) := by unfold qf; infer_instance
def xy (f : Nat → Int) (n d : Int) : Int := if qf f n d then 0 else 1
structure Sd where
 f : Nat → Int
 n : Int
 d : Int
 e : Int
abbrev Kv (t : Sd) : World → Value → Prop := jk [au [.k (eK t.f), iv t.n, iv t.d], Rg.ai (.int .i64 t.e)]
def gp (f : Nat → Int) (x : Rat) : Sd := if Ca f then (if (Wd.told x).e = 0 then ⟨f, (Wd.told x).n, (Wd.told x).d, 0⟩ else ⟨z7, 0, 0, (Wd.told x).e⟩) else ⟨z7, 0, 0, 3⟩
theorem Hl {W : World} {v0 : Value} {n d : Int} (hT : qa W) (h0 : au [iv n, iv d] W v0) : Calls Tryz.prog 66 #[v0] W (ik (Rg.ai (.int .i64 (Oy n d))) W) := by
 rw [Fv h0]
 exact (ayr n d W hT).mono fun e w' h => Zu h
theorem ahq {W : World} {v0 : Value} {x : Rat} (h0 : au [.q x] W v0) : Calls Tryz.prog 69 #[v0] W (ik (jk [au [.v (.int .i64 (Wd.told x).n), .v (.int .i64 (Wd.told x).d)], Rg.ai (.int .i64 (Wd.told x).e)]) W) :=
 (bhr h0).mono fun e w' ⟨u, h1, h2, h3⟩ => ⟨u, h1, h2, by rw [h3]; exact ⟨[_, _], rfl, _, _, rfl, Af _ _ _, _, _, rfl, rfl, rfl⟩⟩
theorem Ku {f : Nat → Int} {n d : Int} (w : World) (hT : qa w) (u0 : Value) (h0 : au [.k (eK f), iv n, iv d] w u0) : Calls Tryz.prog 30 #[u0] w (ik (Rg.ai (.int .i64 (xy f n d))) w) := by
 obtain ⟨v, hv⟩ : ∃ v, v = xy f n d := ⟨_, rfl⟩
 rw [← hv]
 have HV := hide hv
 have HT := hide hT
 clear hv hT
 have hu0 := pg h0
 subst hu0
 go_enter Tryz.func30, Tryz.ntmps30
 go_upto_region 1 with fail
 have hO := (Own.push (T := 44) (ls := [.k (eK f), iv n, iv d]) (Own.nil w) (eu.e (eu.v (iw _) (eu.v (iw _) rfl))) (w.heap.size) rfl)
 generalize w.alloc (.cells #[.int .i64 (f 0), .int .i64 (f 1), .int .i64 (f 2), .int .i64 (f 3), .int .i64 (f 4), .int .i64 (f 5), .int .i64 (f 6), .int .i64 n, .int .i64 d] 44) = W0 at *
 have HO := hide hO
 clear hO
 by_cases g1 : Ca f
 ·
  by_cases g2 : Wd.qy n d
  ·
   by_cases g3 : n < 1
   ·
    have k1 : decide (Ca f) = true := decide_eq_true g1
    have k2 : Oy n d = 0 := if_pos g2
    have k3 : decide (n < 1) = true := decide_eq_true g3
    have hv : v = 1 := by rw [aa HV]; exact if_neg (fun h => absurd h.2.2 om)
    subst hv
    clear HV
    go_upto_region 1 with fail
    refine Rg.bg 16 19 (Rg.pick [Rg.ai (.pointer (some ⟨w.heap.size, 0, none⟩)), au [.k (eK f)], Rg.ai (.bool true), Rg.ai (.bool false), Rg.ai (.bool false), Rg.ai (.pointer (some ⟨w.heap.size, 7, none⟩)), au [iv n, iv d], Rg.ai (.int .i64 0), Rg.ai (.bool false), Rg.ai (.bool false), Rg.ai (.bool false), Rg.ai (.pointer (some ⟨w.heap.size, 7, none⟩)), Rg.ai (.pointer (some ⟨w.heap.size, 7, none⟩)), Rg.ai (.int .i64 n), Rg.ai (.bool true), Rg.ai (.bool true)]) (az w _ W0) dm [] kr rfl (Rg.df.pick ⟨Rg.ae _, ay _, Rg.ae _, Rg.ae _, Rg.ae _, Rg.ae _, ay _, Rg.ae _, Rg.ae _, Rg.ae _, Rg.ae _, Rg.ae _, Rg.ae _, Rg.ae _, Rg.ae _, Rg.ae _, trivial⟩) (az.begin (aa HO))
     (ag (sw (b := w.heap.size) (off := 0) rfl aF rfl rfl)
     (ag (fw xw me0 (aT 0) [] [.k (eK f)] [iv n, iv d])
     (ag (sc1 Tryz.func96 (aT 1) (fun W v0 hG h0 => Sa _ W _ h0 k1))
     (ag (uf rfl (aT 2) rfl rfl)
     (ag (cz rfl (aT 3))
     (Rg.cu (Rg.ek (d := 7) rfl kr rfl (vo (b := w.heap.size) (off := 0) rfl aF rfl rfl))
     (Rg.cu (Rg.ek (d := 7) rfl kr rfl (fw qi me0 (aT 5) [.k (eK f)] [iv n, iv d] []))
     (Rg.cu (Rg.ek (d := 7) rfl kr rfl (Bt Tryz.func66 kr rfl az.step (aT 6) (fun W v0 hG h0 => k2 ▸ Hl ((aa HT).below hG.bel) h0)))
     (Rg.cu (Rg.ek (d := 7) rfl kr rfl (mq rfl (aT 7) (Rg.jc _) rfl rfl))
     (ag (qb rfl (aT 4) (aT 8))
     (ag (cz rfl (aT 9))
     (Rg.cu (Rg.ek (d := 13) rfl kr rfl (vo (b := w.heap.size) (off := 0) rfl aF rfl rfl))
     (Rg.cu (Rg.ek (d := 13) rfl kr rfl (Kc (b := w.heap.size) (off := 7) rfl (aT 11) rfl rfl))
     (Rg.cu (Rg.ek (d := 13) rfl kr rfl (Ra Ib me0 (aT 12) [.k (eK f)] [iv d] rfl))
     (Rg.cu (Rg.ek (d := 13) rfl kr rfl (ry rfl (aT 13) (Rg.jc _) rfl k3))
     (ag (qb rfl (aT 10) (aT 14))
     Rg.bf)))))))))))))))) ?_
    intro v1 V1 hG1 hv1 hne1
    simp only [Rg.puts, Act.put, tA]
    have e15 : v1 15 = .bool true := hv1 15 de
    simp only [e15]
    have hO := hG1.1
    clear HO
    have HO := hide hO
    clear hO hG1 hv1 hne1
    try clear e15
    go_upto_region 2 with fail
    refine Rg.bg 1 19 (Rg.pick [Rg.ai (.int .i64 1)]) (az w _ V1) dm [] kr rfl (Rg.df.pick ⟨Rg.ae _, trivial⟩) (az.begin (aa HO))
     (ag (ib rfl (Rg.jc _))
     Rg.bf) ?_
    intro v2 V2 hG2 hv2 hne2
    simp only [Rg.puts, Act.put, tA]
    have e0 : v2 0 = .int .i64 1 := hv2 0 de
    simp only [e0]
    have hO := hG2.1
    clear HO
    have HO := hide hO
    clear hO hG2 hv2 hne2
    try clear e0
    go_wp2_with fail
    exact yu Tryz.results30 rfl (aa HO).bel rfl
   ·
    have k1 : decide (Ca f) = true := decide_eq_true g1
    have k2 : Oy n d = 0 := if_pos g2
    have k3 : decide (n < 1) = false := decide_eq_false g3
    have hv : v = 0 := by rw [aa HV]; exact if_pos ⟨g1, g2, by omega⟩
    subst hv
    clear HV
    go_upto_region 1 with fail
    refine Rg.bg 16 19 (Rg.pick [Rg.ai (.pointer (some ⟨w.heap.size, 0, none⟩)), au [.k (eK f)], Rg.ai (.bool true), Rg.ai (.bool false), Rg.ai (.bool false), Rg.ai (.pointer (some ⟨w.heap.size, 7, none⟩)), au [iv n, iv d], Rg.ai (.int .i64 0), Rg.ai (.bool false), Rg.ai (.bool false), Rg.ai (.bool false), Rg.ai (.pointer (some ⟨w.heap.size, 7, none⟩)), Rg.ai (.pointer (some ⟨w.heap.size, 7, none⟩)), Rg.ai (.int .i64 n), Rg.ai (.bool false), Rg.ai (.bool false)]) (az w _ W0) dm [] kr rfl (Rg.df.pick ⟨Rg.ae _, ay _, Rg.ae _, Rg.ae _, Rg.ae _, Rg.ae _, ay _, Rg.ae _, Rg.ae _, Rg.ae _, Rg.ae _, Rg.ae _, Rg.ae _, Rg.ae _, Rg.ae _, Rg.ae _, trivial⟩) (az.begin (aa HO))
     (ag (sw (b := w.heap.size) (off := 0) rfl aF rfl rfl)
     (ag (fw xw me0 (aT 0) [] [.k (eK f)] [iv n, iv d])
     (ag (sc1 Tryz.func96 (aT 1) (fun W v0 hG h0 => Sa _ W _ h0 k1))
     (ag (uf rfl (aT 2) rfl rfl)
     (ag (cz rfl (aT 3))
     (Rg.cu (Rg.ek (d := 7) rfl kr rfl (vo (b := w.heap.size) (off := 0) rfl aF rfl rfl))
     (Rg.cu (Rg.ek (d := 7) rfl kr rfl (fw qi me0 (aT 5) [.k (eK f)] [iv n, iv d] []))
     (Rg.cu (Rg.ek (d := 7) rfl kr rfl (Bt Tryz.func66 kr rfl az.step (aT 6) (fun W v0 hG h0 => k2 ▸ Hl ((aa HT).below hG.bel) h0)))
     (Rg.cu (Rg.ek (d := 7) rfl kr rfl (mq rfl (aT 7) (Rg.jc _) rfl rfl))
     (ag (qb rfl (aT 4) (aT 8))
     (ag (cz rfl (aT 9))
     (Rg.cu (Rg.ek (d := 13) rfl kr rfl (vo (b := w.heap.size) (off := 0) rfl aF rfl rfl))
     (Rg.cu (Rg.ek (d := 13) rfl kr rfl (Kc (b := w.heap.size) (off := 7) rfl (aT 11) rfl rfl))
     (Rg.cu (Rg.ek (d := 13) rfl kr rfl (Ra Ib me0 (aT 12) [.k (eK f)] [iv d] rfl))
     (Rg.cu (Rg.ek (d := 13) rfl kr rfl (ry rfl (aT 13) (Rg.jc _) rfl k3))
     (ag (qb rfl (aT 10) (aT 14))
     Rg.bf)))))))))))))))) ?_
    intro v1 V1 hG1 hv1 hne1
    simp only [Rg.puts, Act.put, tA]
    have e15 : v1 15 = .bool false := hv1 15 de
    simp only [e15]
    have hO := hG1.1
    clear HO
    have HO := hide hO
    clear hO hG1 hv1 hne1
    try clear e15
    go_upto_region 3 with fail
    refine Rg.bg 1 19 (Rg.pick [Rg.ai (.int .i64 0)]) (az w _ V1) dm [] kr rfl (Rg.df.pick ⟨Rg.ae _, trivial⟩) (az.begin (aa HO))
     (ag (ib rfl (Rg.jc _))
     Rg.bf) ?_
    intro v2 V2 hG2 hv2 hne2
    simp only [Rg.puts, Act.put, tA]
    have e0 : v2 0 = .int .i64 0 := hv2 0 de
    simp only [e0]
    have hO := hG2.1
    clear HO
    have HO := hide hO
    clear hO hG2 hv2 hne2
    try clear e0
    go_wp2_with fail
    exact yu Tryz.results30 rfl (aa HO).bel rfl
  ·
   have k1 : decide (Ca f) = true := decide_eq_true g1
   have k2 : Oy n d = 1 := if_neg g2
   have hv : v = 1 := by rw [aa HV]; exact if_neg (fun h => g2 h.2.1)
   subst hv
   clear HV
   go_upto_region 1 with fail
   refine Rg.bg 16 19 (Rg.pick [Rg.ai (.pointer (some ⟨w.heap.size, 0, none⟩)), au [.k (eK f)], Rg.ai (.bool true), Rg.ai (.bool false), Rg.ai (.bool false), Rg.ai (.pointer (some ⟨w.heap.size, 7, none⟩)), au [iv n, iv d], Rg.ai (.int .i64 1), Rg.ai (.bool true), Rg.ai (.bool true), Rg.ai (.bool true), Rg.ai undef, Rg.ai undef, Rg.ai undef, Rg.ai undef, Rg.ai (.bool true)]) (az w _ W0) dm [] kr rfl (Rg.df.pick ⟨Rg.ae _, ay _, Rg.ae _, Rg.ae _, Rg.ae _, Rg.ae _, ay _, Rg.ae _, Rg.ae _, Rg.ae _, Rg.ae _, Rg.ae _, Rg.ae _, Rg.ae _, Rg.ae _, Rg.ae _, trivial⟩) (az.begin (aa HO))
    (ag (sw (b := w.heap.size) (off := 0) rfl aF rfl rfl)
    (ag (fw xw me0 (aT 0) [] [.k (eK f)] [iv n, iv d])
    (ag (sc1 Tryz.func96 (aT 1) (fun W v0 hG h0 => Sa _ W _ h0 k1))
    (ag (uf rfl (aT 2) rfl rfl)
    (ag (cz rfl (aT 3))
    (Rg.cu (Rg.ek (d := 7) rfl kr rfl (vo (b := w.heap.size) (off := 0) rfl aF rfl rfl))
    (Rg.cu (Rg.ek (d := 7) rfl kr rfl (fw qi me0 (aT 5) [.k (eK f)] [iv n, iv d] []))
    (Rg.cu (Rg.ek (d := 7) rfl kr rfl (Bt Tryz.func66 kr rfl az.step (aT 6) (fun W v0 hG h0 => k2 ▸ Hl ((aa HT).below hG.bel) h0)))
    (Rg.cu (Rg.ek (d := 7) rfl kr rfl (mq rfl (aT 7) (Rg.jc _) rfl rfl))
    (ag (qb rfl (aT 4) (aT 8))
    (ag (cz rfl (aT 9))
    (Rg.cu (Rg.ny (d := 13) rfl kr rfl rfl nz rfl rfl)
    (Rg.cu (Rg.ny (d := 13) rfl kr rfl rfl nz rfl rfl)
    (Rg.cu (Rg.ny (d := 13) rfl kr rfl rfl nz rfl rfl)
    (Rg.cu (Rg.ny (d := 13) rfl kr rfl rfl nz rfl rfl)
    (ag (xz rfl (aT 10) (Rg.jc _))
    Rg.bf)))))))))))))))) ?_
   intro v1 V1 hG1 hv1 hne1
   simp only [Rg.puts, Act.put, tA]
   have e15 : v1 15 = .bool true := hv1 15 de
   simp only [e15]
   have hO := hG1.1
   clear HO
   have HO := hide hO
   clear hO hG1 hv1 hne1
   try clear e15
   go_upto_region 2 with fail
   refine Rg.bg 1 19 (Rg.pick [Rg.ai (.int .i64 1)]) (az w _ V1) dm [] kr rfl (Rg.df.pick ⟨Rg.ae _, trivial⟩) (az.begin (aa HO))
    (ag (ib rfl (Rg.jc _))
    Rg.bf) ?_
   intro v2 V2 hG2 hv2 hne2
   simp only [Rg.puts, Act.put, tA]
   have e0 : v2 0 = .int .i64 1 := hv2 0 de
   simp only [e0]
   have hO := hG2.1
   clear HO
   have HO := hide hO
   clear hO hG2 hv2 hne2
   try clear e0
   go_wp2_with fail
   exact yu Tryz.results30 rfl (aa HO).bel rfl
 ·
  have k1 : decide (Ca f) = false := decide_eq_false g1
  have hv : v = 1 := by rw [aa HV]; exact if_neg (fun h => g1 h.1)
  subst hv
  clear HV
  go_upto_region 1 with fail
  refine Rg.bg 16 19 (Rg.pick [Rg.ai (.pointer (some ⟨w.heap.size, 0, none⟩)), au [.k (eK f)], Rg.ai (.bool false), Rg.ai (.bool true), Rg.ai (.bool true), Rg.ai undef, Rg.ai undef, Rg.ai undef, Rg.ai undef, Rg.ai (.bool true), Rg.ai (.bool true), Rg.ai undef, Rg.ai undef, Rg.ai undef, Rg.ai undef, Rg.ai (.bool true)]) (az w _ W0) dm [] kr rfl (Rg.df.pick ⟨Rg.ae _, ay _, Rg.ae _, Rg.ae _, Rg.ae _, Rg.ae _, Rg.ae _, Rg.ae _, Rg.ae _, Rg.ae _, Rg.ae _, Rg.ae _, Rg.ae _, Rg.ae _, Rg.ae _, Rg.ae _, trivial⟩) (az.begin (aa HO))
   (ag (sw (b := w.heap.size) (off := 0) rfl aF rfl rfl)
   (ag (fw xw me0 (aT 0) [] [.k (eK f)] [iv n, iv d])
   (ag (sc1 Tryz.func96 (aT 1) (fun W v0 hG h0 => Sa _ W _ h0 k1))
   (ag (uf rfl (aT 2) rfl rfl)
   (ag (cz rfl (aT 3))
   (Rg.cu (Rg.ny (d := 7) rfl kr rfl rfl nz rfl rfl)
   (Rg.cu (Rg.ny (d := 7) rfl kr rfl rfl nz rfl rfl)
   (Rg.cu (Rg.ny (d := 7) rfl kr rfl rfl nz rfl rfl)
   (Rg.cu (Rg.ny (d := 7) rfl kr rfl rfl nz rfl rfl)
   (ag (xz rfl (aT 4) (Rg.jc _))
   (ag (cz rfl (aT 9))
   (Rg.cu (Rg.ny (d := 13) rfl kr rfl rfl nz rfl rfl)
   (Rg.cu (Rg.ny (d := 13) rfl kr rfl rfl nz rfl rfl)
   (Rg.cu (Rg.ny (d := 13) rfl kr rfl rfl nz rfl rfl)
   (Rg.cu (Rg.ny (d := 13) rfl kr rfl rfl nz rfl rfl)
   (ag (xz rfl (aT 10) (Rg.jc _))
   Rg.bf)))))))))))))))) ?_
  intro v1 V1 hG1 hv1 hne1
  simp only [Rg.puts, Act.put, tA]
  have e15 : v1 15 = .bool true := hv1 15 de
  simp only [e15]
  have hO := hG1.1
  clear HO
  have HO := hide hO
  clear hO hG1 hv1 hne1
  try clear e15
  go_upto_region 2 with fail
  refine Rg.bg 1 19 (Rg.pick [Rg.ai (.int .i64 1)]) (az w _ V1) dm [] kr rfl (Rg.df.pick ⟨Rg.ae _, trivial⟩) (az.begin (aa HO))
   (ag (ib rfl (Rg.jc _))
   Rg.bf) ?_
  intro v2 V2 hG2 hv2 hne2
  simp only [Rg.puts, Act.put, tA]
  have e0 : v2 0 = .int .i64 1 := hv2 0 de
  simp only [e0]
  have hO := hG2.1
  clear HO
  have HO := hide hO
  clear hO hG2 hv2 hne2
  try clear e0
  go_wp2_with fail
  exact yu Tryz.results30 rfl (aa HO).bel rfl
def oq (f : Nat → Int) (n d : Int) (g : Nat → Int) (p q : Int) : Int := if xy f n d = 0 then xy g p q else 1
theorem ahv {f g : Nat → Int} {n d p q : Int} (w : World) (hT : qa w) (u0 : Value) (h0 : au [.k (eK f), iv n, iv d] w u0) (u1 : Value) (h1 : au [.k (eK g), iv p, iv q] w u1) : Calls Tryz.prog 107 #[u0, u1] w (ik (Rg.ai (.int .i64 (oq f n d g p q))) w) := by
 obtain ⟨v, hv⟩ : ∃ v, v = oq f n d g p q := ⟨_, rfl⟩
 rw [← hv]
 unfold oq at hv
 have HV := hide hv
 have HT := hide hT
 clear hv hT
 have hu0 := pg h0
 subst hu0
 have hu1 := pg h1
 subst hu1
 go_enter Tryz.func107, Tryz.ntmps107
 go_upto_region 1 with fail
 have hO := (Own.push (T := 44) (ls := [.k (eK g), iv p, iv q]) (Own.push (T := 44) (ls := [.k (eK f), iv n, iv d]) (Own.nil w) (eu.e (eu.v (iw _) (eu.v (iw _) rfl))) (w.heap.size) rfl) (eu.below (by repeat (first | exact Below.refl _ _ | refine gm ?_ _)) (eu.e (eu.v (iw _) (eu.v (iw _) rfl)))) (w.heap.size + 1) (by simp only [World.size_alloc]))
 generalize (w.alloc (.cells #[.int .i64 (f 0), .int .i64 (f 1), .int .i64 (f 2), .int .i64 (f 3), .int .i64 (f 4), .int .i64 (f 5), .int .i64 (f 6), .int .i64 n, .int .i64 d] 44)).alloc (.cells #[.int .i64 (g 0), .int .i64 (g 1), .int .i64 (g 2), .int .i64 (g 3), .int .i64 (g 4), .int .i64 (g 5), .int .i64 (g 6), .int .i64 p, .int .i64 q] 44) = W0 at *
 have HO := hide hO
 clear hO
 by_cases g1 : qf f n d
 ·
  have k1 : xy f n d = 0 := if_pos g1
  have hv : v = xy g p q := by rw [aa HV, k1]; rfl
  subst hv
  clear HV
  go_upto_region 1 with fail
  refine Rg.bg 3 13 (Rg.pick [au [.k (eK f), iv n, iv d], Rg.ai (.int .i64 0), Rg.ai (.int .i64 0)]) (az w _ W0) dm [] kr rfl (Rg.df.pick ⟨ay _, Rg.ae _, Rg.ae _, trivial⟩) (az.begin (aa HO))
   (ag (fw jb mf aF [] [.k (eK f), iv n, iv d] [])
   (ag (sc1 Tryz.func30 (aT 0) (fun W v0 hG h0 => k1 ▸ Ku W ((aa HT).below hG.bel) _ h0))
   (ag (ib rfl (aT 1))
   Rg.bf))) ?_
  intro v1 V1 hG1 hv1 hne1
  simp only [Rg.puts, Act.put, tA]
  have e1 : v1 1 = .int .i64 0 := hv1 1 de
  have e2 : v1 2 = .int .i64 0 := hv1 2 de
  simp only [e1, e2]
  have hO := hG1.1
  clear HO
  have HO := hide hO
  clear hO hG1 hv1 hne1
  try clear e1 e2
  clear k1 g1
  go_upto_region 2 with fail
  refine Rg.bg 2 13 (Rg.pick [Rg.ai (.int .i64 0), Rg.ai (.bool false)]) (az w _ V1) dm [] kr rfl (Rg.df.pick ⟨Rg.ae _, Rg.ae _, trivial⟩) (az.begin (aa HO))
   (ag (cz rfl aF)
   (ag (mq rfl (aT 0) (Rg.jc _) rfl rfl)
   Rg.bf)) ?_
  intro v2 V2 hG2 hv2 hne2
  simp only [Rg.puts, Act.put, tA]
  have e1 : v2 1 = .bool false := hv2 1 de
  simp only [e1]
  have hO := hG2.1
  clear HO
  have HO := hide hO
  clear hO hG2 hv2 hne2
  try clear e1
  go_upto_region 4 with fail
  refine Rg.bg 3 13 (Rg.pick [au [.k (eK g), iv p, iv q], Rg.ai (.int .i64 (xy g p q)), Rg.ai (.int .i64 (xy g p q))]) (az w _ V2) dm [] kr rfl (Rg.df.pick ⟨ay _, Rg.ae _, Rg.ae _, trivial⟩) (az.begin (aa HO))
   (ag (fw jb me0 aF [] [.k (eK g), iv p, iv q] [])
   (ag (sc1 Tryz.func30 (aT 0) (fun W v0 hG h0 => Ku W ((aa HT).below hG.bel) _ h0))
   (ag (ib rfl (aT 1))
   Rg.bf))) ?_
  intro v3 V3 hG3 hv3 ja
  simp only [Rg.puts, Act.put, tA]
  have e1 : v3 1 = .int .i64 (xy g p q) := hv3 1 de
  have e2 : v3 2 = .int .i64 (xy g p q) := hv3 2 de
  simp only [e1, e2]
  have hO := hG3.1
  clear HO
  have HO := hide hO
  clear hO hG3 hv3 ja
  try clear e1 e2
  go_wp2_with fail
  exact yu Tryz.results107 rfl (aa HO).bel rfl
 ·
  have k1 : xy f n d = 1 := if_neg g1
  have hv : v = 1 := by rw [aa HV, k1]; rfl
  subst hv
  clear HV
  go_upto_region 1 with fail
  refine Rg.bg 3 13 (Rg.pick [au [.k (eK f), iv n, iv d], Rg.ai (.int .i64 1), Rg.ai (.int .i64 1)]) (az w _ W0) dm [] kr rfl (Rg.df.pick ⟨ay _, Rg.ae _, Rg.ae _, trivial⟩) (az.begin (aa HO))
   (ag (fw jb mf aF [] [.k (eK f), iv n, iv d] [])
   (ag (sc1 Tryz.func30 (aT 0) (fun W v0 hG h0 => k1 ▸ Ku W ((aa HT).below hG.bel) _ h0))
   (ag (ib rfl (aT 1))
   Rg.bf))) ?_
  intro v1 V1 hG1 hv1 hne1
  simp only [Rg.puts, Act.put, tA]
  have e1 : v1 1 = .int .i64 1 := hv1 1 de
  have e2 : v1 2 = .int .i64 1 := hv1 2 de
  simp only [e1, e2]
  have hO := hG1.1
  clear HO
  have HO := hide hO
  clear hO hG1 hv1 hne1
  try clear e1 e2
  clear k1 g1
  go_upto_region 2 with fail
  refine Rg.bg 2 13 (Rg.pick [Rg.ai (.int .i64 1), Rg.ai (.bool true)]) (az w _ V1) dm [] kr rfl (Rg.df.pick ⟨Rg.ae _, Rg.ae _, trivial⟩) (az.begin (aa HO))
   (ag (cz rfl aF)
   (ag (mq rfl (aT 0) (Rg.jc _) rfl rfl)
   Rg.bf)) ?_
  intro v2 V2 hG2 hv2 hne2
  simp only [Rg.puts, Act.put, tA]
  have e1 : v2 1 = .bool true := hv2 1 de
  simp only [e1]
  have hO := hG2.1
  clear HO
  have HO := hide hO
  clear hO hG2 hv2 hne2
  try clear e1
  go_upto_region 3 with fail
  refine Rg.bg 2 13 (Rg.pick [Rg.ai (.int .i64 1), Rg.ai (.int .i64 1)]) (az w _ V2) dm [] kr rfl (Rg.df.pick ⟨Rg.ae _, Rg.ae _, trivial⟩) (az.begin (aa HO))
   (ag (cz rfl aF)
   (ag (ib rfl (aT 0))
   Rg.bf)) ?_
  intro v3 V3 hG3 hv3 ja
  simp only [Rg.puts, Act.put, tA]
  have e0 : v3 0 = .int .i64 1 := hv3 0 de
  have e1 : v3 1 = .int .i64 1 := hv3 1 de
  simp only [e0, e1]
  have hO := hG3.1
  clear HO
  have HO := hide hO
  clear hO hG3 hv3 ja
  try clear e0 e1
  go_wp2_with fail
  exact yu Tryz.results107 rfl (aa HO).bel rfl
theorem aab {f : Nat → Int} {n d : Int} (ok : Wd.qy n d) (w : World) (u0 : Value) (h0 : au [.k (eK f), iv n, iv d] w u0) : Calls Tryz.prog 103 #[u0] w (ik (au [.k (eK f), .q (Wd.qR n d)]) w) := by
 have rf := hide ok
 clear ok
 have hu0 := pg h0
 subst hu0
 go_enter Tryz.func103, Tryz.ntmps103
 go_upto_region 1 with fail
 have hO := (Own.push (T := 118) (ls := zM) (Own.push (T := 44) (ls := [.k (eK f), iv n, iv d]) (Own.nil w) (eu.e (eu.v (iw _) (eu.v (iw _) rfl))) (w.heap.size) rfl) (eu.below (by repeat (first | exact Below.refl _ _ | refine gm ?_ _)) (eu.vs w [.int .i64 0, .int .i64 0, .int .i64 0, .int .i64 0, .int .i64 0, .int .i64 0, .int .i64 0, .int .i64 0, .bool false, .slice none 0 0, .int .i64 0, .bool false, .slice none 0 0] rfl)) (w.heap.size + 1) (by simp only [World.size_alloc]))
 generalize (w.alloc (.cells #[.int .i64 (f 0), .int .i64 (f 1), .int .i64 (f 2), .int .i64 (f 3), .int .i64 (f 4), .int .i64 (f 5), .int .i64 (f 6), .int .i64 n, .int .i64 d] 44)).alloc (.cells #[.int .i64 0, .int .i64 0, .int .i64 0, .int .i64 0, .int .i64 0, .int .i64 0, .int .i64 0, .int .i64 0, .bool false, .slice none 0 0, .int .i64 0, .bool false, .slice none 0 0] 118) = W0 at *
 have HO := hide hO
 clear hO
 go_upto_region 1 with fail
 refine Rg.region 6 9 (Rg.pick [Rg.ai (.pointer (some ⟨w.heap.size, 0, none⟩)), au [.k (eK f)], Rg.ai (.pointer (some ⟨w.heap.size, 7, none⟩)), au [iv n, iv d], au [.q (Wd.qR n d)], au [.k (eK f), .q (Wd.qR n d)]]) (az w _ W0) dm [] kr kr rfl (Rg.df.pick ⟨Rg.ae _, ay _, Rg.ae _, ay _, ay _, ay _, trivial⟩) (az.start (aa HO))
  (ag (sw (b := w.heap.size) (off := 0) rfl aF rfl rfl)
  (ag (fw xw mf (aT 0) [] [.k (eK f)] [iv n, iv d])
  (ag (vo (b := w.heap.size) (off := 0) rfl aF rfl rfl)
  (ag (fw qi mf (aT 2) [.k (eK f)] [iv n, iv d] [])
  (ag (sc1 Tryz.func67 (aT 3) (fun W v0 hG h0 => ahs (aa rf) h0))
  (ag (Bv bav rfl (aT 1) (aT 4) rfl rfl rfl)
  Rg.bf)))))) ?_
 intro v1 V1 hG1 hv1 hne1
 simp only [Rg.puts, Act.put, tA]
 have hO := hG1.1
 refine ji hO 0 [] zM [.k (eK f), .q (Wd.qR n d)] [] rfl Bq rfl (show au [.k (eK f), .q (Wd.qR n d)] V1 (v1 5) from hv1 5 de) rfl rfl rfl ?_
 intro ui fu hk0
 replace hO := fu
 clear fu
 clear HO
 have HO := hide hO
 clear hO hG1 hv1 hne1 hk0
 go_wp2_with fail
 exact Am Tryz.results103 Ia rfl (aa HO) me0 rfl rfl
theorem Tv {f h : Nat → Int} {x a : Rat} {n : Int} (w : World) (u0 : Value) (h0 : au [.k (eK f), .q x] w u0) (hh : ∀ j, j < 7 → wrap64 (f j * n) = h j)
  (hp : ∀ W v0, Below w.heap.size w W → au [.q x] W v0 → Calls Tryz.prog 68 #[v0, .int .i64 n] W (ik (au [.q a]) W)) :
  Calls Tryz.prog 104 #[u0, .int .i64 n] w (ik (au [.k (eK h), .q a]) w) := by
 have HH := hide hh
 have HP := hide hp
 clear hh hp
 obtain ⟨Il, Cq, Bd, c0a, Az, Ke, Kj, Gw, c0b, Gq, rfl, f0a, Gt⟩ := Vo h0
 go_enter Tryz.func104, Tryz.ntmps104
 go_upto_region 1 with fail
 have hO := (Own.push (T := 118) (ls := zM) (Own.push (T := 118) (ls := [.k (eK f), .q x]) (Own.nil w) (eu.e (eu.q f0a Gt rfl)) (w.heap.size) rfl) (eu.below (by repeat (first | exact Below.refl _ _ | refine gm ?_ _)) (eu.vs w [.int .i64 0, .int .i64 0, .int .i64 0, .int .i64 0, .int .i64 0, .int .i64 0, .int .i64 0, .int .i64 0, .bool false, .slice none 0 0, .int .i64 0, .bool false, .slice none 0 0] rfl)) (w.heap.size + 1) (by simp only [World.size_alloc]))
 generalize (w.alloc (.cells #[.int .i64 (f 0), .int .i64 (f 1), .int .i64 (f 2), .int .i64 (f 3), .int .i64 (f 4), .int .i64 (f 5), .int .i64 (f 6), .int .i64 Il, .bool Cq, .slice Bd (List.length Az) c0a, .int .i64 Ke, .bool Kj, .slice Gw (List.length Gq) c0b] 118)).alloc (.cells #[.int .i64 0, .int .i64 0, .int .i64 0, .int .i64 0, .int .i64 0, .int .i64 0, .int .i64 0, .int .i64 0, .bool false, .slice none 0 0, .int .i64 0, .bool false, .slice none 0 0] 118) = W0 at *
 have HO := hide hO
 clear hO
 go_wp2_with fail
 go_loopw [6] (fun vk wr => ∃ k : Nat, k ≤ 7 ∧ vk = .int .i64 ((k : Nat) : Int) ∧ Hid (Own w [(w.heap.size + 1, 118, zM), (w.heap.size, 118, [.k (eK (Dw f h k)), .q x])] wr)) (fun vk _ => 7 - (intOf vk).toNat)
 case atStart => exact ⟨0, by omega, rfl, by rw [Td]; exact HO⟩
 case round =>
  obtain ⟨k, hk, rfl, HO⟩ := hrel
  have HK := hide hk
  clear hk
  by_cases g1 : k < 7
  ·
   have d1 : decide ((k : Int) < 7) = true := decide_eq_true om
   have uk := hide g1
   clear g1
   go_upto_region 2 with fail
   refine Rg.bg 1 24 (Rg.pick [Rg.ai (.bool true)]) (az w _ wr) dm [] kr rfl (Rg.df.pick ⟨Rg.ae _, trivial⟩) (az.begin (aa HO))
    (ag (ry rfl aF (Rg.jc _) rfl d1)
    Rg.bf) ?_
   intro v1 V1 hG1 hv1 hne1
   simp only [Rg.puts, Act.put, tA]
   have e0 : v1 0 = .bool true := hv1 0 de
   simp only [e0]
   have hO := hG1.1
   clear HO
   have HO := hide hO
   clear hO hG1 hv1 hne1
   try clear e0
   clear d1
   go_upto_region 3 with fail
   refine Rg.bg 2 24 (Rg.pick [Rg.ai (.int .i64 (k : Int)), Rg.ai (.int .i64 (k : Int))]) (az w _ V1) dm [] kr rfl (Rg.df.pick ⟨Rg.ae _, Rg.ae _, trivial⟩) (az.begin (aa HO))
    (ag (cz rfl aF)
    (ag (ib rfl (aT 0))
    Rg.bf)) ?_
   intro v2 V2 hG2 hv2 hne2
   simp only [Rg.puts, Act.put, tA]
   have e0 : v2 0 = .int .i64 (k : Int) := hv2 0 de
   have e1 : v2 1 = .int .i64 (k : Int) := hv2 1 de
   simp only [e0, e1]
   have hO := hG2.1
   clear HO
   have HO := hide hO
   clear hO hG2 hv2 hne2
   try clear e0 e1
   go_upto_region 4 with fail
   refine Rg.bg 8 24 (Rg.pick [Rg.ai (.int .i64 (k : Int)), Rg.ai (.pointer (some ⟨w.heap.size, 0, none⟩)), Rg.ai (.pointer (some ⟨w.heap.size, k, none⟩)), Rg.ai (.int .i64 (f k)), Rg.ai (.int .i64 n), Rg.ai (.int .i64 (h k)), Rg.ai (.pointer (some ⟨w.heap.size, 0, none⟩)), Rg.ai (.pointer (some ⟨w.heap.size, k, none⟩))]) (az w _ V2) dm [] kr rfl (Rg.df.pick ⟨Rg.ae _, Rg.ae _, Rg.ae _, Rg.ae _, Rg.ae _, Rg.ae _, Rg.ae _, Rg.ae _, trivial⟩) (az.begin (aa HO))
    (ag (cz rfl aF)
    (ag (Co (b := w.heap.size) (off := 0) rfl aF rfl rfl)
    (ag (Ed (b := w.heap.size) (k := k) rfl (aT 1) (aT 0) (aa uk) rfl)
    (ag (Lr (f := (Dw f h k)) mf rfl (aT 2) (aa uk) (aat f h k) rfl)
    (ag (cz rfl aF)
    (ag (aoq rfl (aT 3) (aT 4) ((aa HH) k (aa uk)) rfl)
    (ag (Co (b := w.heap.size) (off := 0) rfl aF rfl rfl)
    (ag (Ed (b := w.heap.size) (k := k) rfl (aT 6) (aT 0) (aa uk) rfl)
    Rg.bf)))))))) ?_
   intro v3 V3 hG3 hv3 ja
   simp only [Rg.puts, Act.put, tA]
   have e5 : v3 5 = .int .i64 (h k) := hv3 5 de
   have e7 : v3 7 = .pointer (some ⟨w.heap.size, k, none⟩) := hv3 7 de
   simp only [e5, e7]
   have hO := hG3.1
   refine aee (f := (Dw f h k)) (g := (Dw f h (k + 1))) (k := k) (v := (h k)) hO 1 [.q x] rfl (aa uk) rfl rfl (Te f h k) ?_
   intro Bi fu hk0
   replace hO := fu
   clear fu
   clear HO
   have HO := hide hO
   clear hO hG3 hv3 ja hk0
   try clear e5 e7
   go_wp2_with fail
   go_roundw
   case rel =>
    exact ⟨k + 1, by have := aa uk; omega, Np (aa uk) om, HO⟩
   case measure =>
    have h1 := aa uk
    clear HO
    rw [Lp h1 om]
    exact measS h1
  ·
   obtain rfl : k = 7 := by have := aa HK; omega
   clear g1
   rw [Wx] at HO
   go_upto_region 2 with fail
   refine Rg.bg 1 24 (Rg.pick [Rg.ai (.bool false)]) (az w _ wr) dm [] kr rfl (Rg.df.pick ⟨Rg.ae _, trivial⟩) (az.begin (aa HO))
    (ag (ry rfl aF (Rg.jc _) rfl rfl)
    Rg.bf) ?_
   intro v1 V1 hG1 hv1 hne1
   simp only [Rg.puts, Act.put, tA]
   have e0 : v1 0 = .bool false := hv1 0 de
   simp only [e0]
   have hO := hG1.1
   clear HO
   have HO := hide hO
   clear hO hG1 hv1 hne1
   try clear e0
   go_upto_region 6 with fail
   refine Rg.bg 5 24 (Rg.pick [Rg.ai (.pointer (some ⟨w.heap.size, 7, none⟩)), au [.q x], Rg.ai (.int .i64 n), au [.q a], Rg.ai (.pointer (some ⟨w.heap.size, 7, none⟩))]) (az w _ V1) dm [] kr rfl (Rg.df.pick ⟨Rg.ae _, ay _, Rg.ae _, ay _, Rg.ae _, trivial⟩) (az.begin (aa HO))
    (ag (Ff (b := w.heap.size) (off := 0) rfl aF rfl rfl)
    (ag (fw Gp mf (aT 0) [.k (eK h)] [.q x] [])
    (ag (cz rfl aF)
    (ag (sc2 Tryz.func68 (aT 1) (aT 2) (fun W v0 v1 hG h0 h1 => by cases h1; exact aa HP W v0 hG.bel h0))
    (ag (Ff (b := w.heap.size) (off := 0) rfl aF rfl rfl)
    Rg.bf))))) ?_
   intro v2 V2 hG2 hv2 hne2
   simp only [Rg.puts, Act.put, tA]
   have e4 : v2 4 = .pointer (some ⟨w.heap.size, 7, none⟩) := hv2 4 de
   simp only [e4]
   have hO := hG2.1
   refine ji hO 1 [.k (eK h)] [.q x] [.q a] [] rfl Ht rfl (show au [.q a] V2 (v2 3) from hv2 3 de) rfl rfl rfl ?_
   intro Cc fu hk0
   replace hO := fu
   clear fu
   clear HO
   have HO := hide hO
   clear hO hG2 hv2 hne2 hk0
   try clear e4
   go_upto_region 7 with fail
   refine Rg.bg 1 24 (Rg.pick [au [.k (eK h), .q a]]) (az w _ Cc) dm [] kr rfl (Rg.df.pick ⟨ay _, trivial⟩) (az.begin (aa HO))
    (ag (fw Pv mf aF [] [.k (eK h), .q a] [])
    Rg.bf) ?_
   intro v3 V3 hG3 hv3 ja
   simp only [Rg.puts, Act.put, tA]
   have hO := hG3.1
   refine ji hO 0 [] zM [.k (eK h), .q a] [] rfl Bq rfl (show au [.k (eK h), .q a] V3 (v3 0) from hv3 0 de) rfl rfl rfl ?_
   intro Bi fu hk0
   replace hO := fu
   clear fu
   clear HO
   have HO := hide hO
   clear hO hG3 hv3 ja hk0
   go_wp2_with fail
   exact Am Tryz.results104 Ia rfl (aa HO) me0 rfl rfl
theorem bln {F : Nat} {x y a : Rat} {w W : World} {v0 v1 : Value} (h : ∀ W v0 v1, Below w.heap.size w W → au [.q x] W v0 → au [.q y] W v1 → Calls Tryz.prog F #[v0, v1] W (ik (au [.q a]) W)) (hb : Below w.heap.size w W) (h0 : au [.q x] W v0) (h1 : au [.q y] W v1) : Calls Tryz.prog F #[v0, v1] W (ik (au [.q a]) W) := h W v0 v1 hb h0 h1
theorem Nr {f g h : Nat → Int} {x y a : Rat} (w : World) (u0 : Value) (h0 : au [.k (eK f), .q x] w u0) (u1 : Value) (h1 : au [.k (eK g), .q y] w u1) (hh : ∀ j, j < 7 → wrap64 (f j + g j) = h j)
  (hp : ∀ W v0 v1, Below w.heap.size w W → au [.q x] W v0 → au [.q y] W v1 → Calls Tryz.prog 108 #[v0, v1] W (ik (au [.q a]) W)) :
  Calls Tryz.prog 119 #[u0, u1] w (ik (au [.k (eK h), .q a]) w) := by
 have HH := hide hh
 have HP := hide hp
 clear hh hp
 obtain ⟨Il, Cq, Bd, c0a, Az, Ke, Kj, Gw, c0b, Gq, rfl, f0a, Gt⟩ := Vo h0
 obtain ⟨Nu, Uc, Ct, c1a, Cr, Nt, n1b, Dp, Dh, Db, rfl, f1a, Pz⟩ := Vo h1
 go_enter Tryz.func119, Tryz.ntmps119
 go_upto_region 1 with fail
 have hO := (Own.push (T := 118) (ls := zM) (Own.push (T := 118) (ls := [.k (eK g), .q y]) (Own.push (T := 118) (ls := [.k (eK f), .q x]) (Own.nil w) (eu.e (eu.q f0a Gt rfl)) (w.heap.size) rfl) (eu.below (by repeat (first | exact Below.refl _ _ | refine gm ?_ _)) (eu.e (eu.q f1a Pz rfl))) (w.heap.size + 1) (by simp only [World.size_alloc])) (eu.below (by repeat (first | exact Below.refl _ _ | refine gm ?_ _)) (eu.vs w [.int .i64 0, .int .i64 0, .int .i64 0, .int .i64 0, .int .i64 0, .int .i64 0, .int .i64 0, .int .i64 0, .bool false, .slice none 0 0, .int .i64 0, .bool false, .slice none 0 0] rfl)) (w.heap.size + 2) (by simp only [World.size_alloc]))
 generalize ((w.alloc (.cells #[.int .i64 (f 0), .int .i64 (f 1), .int .i64 (f 2), .int .i64 (f 3), .int .i64 (f 4), .int .i64 (f 5), .int .i64 (f 6), .int .i64 Il, .bool Cq, .slice Bd (List.length Az) c0a, .int .i64 Ke, .bool Kj, .slice Gw (List.length Gq) c0b] 118)).alloc (.cells #[.int .i64 (g 0), .int .i64 (g 1), .int .i64 (g 2), .int .i64 (g 3), .int .i64 (g 4), .int .i64 (g 5), .int .i64 (g 6), .int .i64 Nu, .bool Uc, .slice Ct (List.length Cr) c1a, .int .i64 Nt, .bool n1b, .slice Dp (List.length Db) Dh] 118)).alloc (.cells #[.int .i64 0, .int .i64 0, .int .i64 0, .int .i64 0, .int .i64 0, .int .i64 0, .int .i64 0, .int .i64 0, .bool false, .slice none 0 0, .int .i64 0, .bool false, .slice none 0 0] 118) = W0 at *
 have HO := hide hO
 clear hO
 go_upto_region 1 with fail
 refine Rg.bg 3 29 (Rg.pick [Rg.ai (.pointer (some ⟨w.heap.size + 1, 0, none⟩)), Rg.ai (aV g), Rg.ai (.int .i64 0)]) (az w _ W0) dm [] kr rfl (Rg.df.pick ⟨Rg.ae _, Rg.ae _, Rg.ae _, trivial⟩) (az.begin (aa HO))
  (ag (Co (b := w.heap.size + 1) (off := 0) rfl aF rfl rfl)
  (ag (Ls (f := g) xw mf rfl (aT 0) rfl)
  (ag (cz rfl (Rg.jc _))
  Rg.bf))) ?_
 intro v1 V1 hG1 hv1 hne1
 simp only [Rg.puts, Act.put, tA]
 have e1 : v1 1 = aV g := hv1 1 de
 have e2 : v1 2 = .int .i64 0 := hv1 2 de
 simp only [e1, e2]
 have hO := hG1.1
 clear HO
 have HO := hide hO
 clear hO hG1 hv1 hne1
 try clear e1 e2
 go_wp2_with fail
 go_loopw [9] (fun vk wr => ∃ k : Nat, k ≤ 7 ∧ vk = .int .i64 ((k : Nat) : Int) ∧ Hid (Own w [(w.heap.size + 2, 118, zM), (w.heap.size + 1, 118, [.k (eK g), .q y]), (w.heap.size, 118, [.k (eK (Dw f h k)), .q x])] wr)) (fun vk _ => 7 - (intOf vk).toNat)
 case atStart => exact ⟨0, by omega, rfl, by rw [Td]; exact HO⟩
 case round =>
  obtain ⟨k, hk, rfl, HO⟩ := hrel
  have HK := hide hk
  clear hk
  by_cases g1 : k < 7
  ·
   have d1 : decide ((k : Int) < 7) = true := decide_eq_true om
   have uk := hide g1
   clear g1
   go_upto_region 2 with fail
   refine Rg.bg 1 29 (Rg.pick [Rg.ai (.bool true)]) (az w _ wr) dm [] kr rfl (Rg.df.pick ⟨Rg.ae _, trivial⟩) (az.begin (aa HO))
    (ag (ry rfl aF (Rg.jc _) rfl d1)
    Rg.bf) ?_
   intro v2 V2 hG2 hv2 hne2
   simp only [Rg.puts, Act.put, tA]
   have e0 : v2 0 = .bool true := hv2 0 de
   simp only [e0]
   have hO := hG2.1
   clear HO
   have HO := hide hO
   clear hO hG2 hv2 hne2
   try clear e0
   clear d1
   go_upto_region 3 with fail
   refine Rg.bg 4 29 (Rg.pick [Rg.ai (.int .i64 (k : Int)), Rg.ai (.int .i64 (g k)), Rg.ai (.int .i64 (k : Int)), Rg.ai (.int .i64 (g k))]) (az w _ V2) dm [] kr rfl (Rg.df.pick ⟨Rg.ae _, Rg.ae _, Rg.ae _, Rg.ae _, trivial⟩) (az.begin (aa HO))
    (ag (cz rfl aF)
    (ag (bgy (f := g) (k := k) rfl aF aF (aa uk) rfl)
    (ag (ib rfl (aT 0))
    (ag (ib rfl (aT 1))
    Rg.bf)))) ?_
   intro v3 V3 hG3 hv3 ja
   simp only [Rg.puts, Act.put, tA]
   have e0 : v3 0 = .int .i64 (k : Int) := hv3 0 de
   have e1 : v3 1 = .int .i64 (g k) := hv3 1 de
   have e2 : v3 2 = .int .i64 (k : Int) := hv3 2 de
   have e3 : v3 3 = .int .i64 (g k) := hv3 3 de
   simp only [e0, e1, e2, e3]
   have hO := hG3.1
   clear HO
   have HO := hide hO
   clear hO hG3 hv3 ja
   try clear e0 e1 e2 e3
   go_upto_region 4 with fail
   refine Rg.bg 8 29 (Rg.pick [Rg.ai (.int .i64 (k : Int)), Rg.ai (.pointer (some ⟨w.heap.size, 0, none⟩)), Rg.ai (.pointer (some ⟨w.heap.size, k, none⟩)), Rg.ai (.int .i64 (f k)), Rg.ai (.int .i64 (g k)), Rg.ai (.int .i64 (h k)), Rg.ai (.pointer (some ⟨w.heap.size, 0, none⟩)), Rg.ai (.pointer (some ⟨w.heap.size, k, none⟩))]) (az w _ V3) dm [] kr rfl (Rg.df.pick ⟨Rg.ae _, Rg.ae _, Rg.ae _, Rg.ae _, Rg.ae _, Rg.ae _, Rg.ae _, Rg.ae _, trivial⟩) (az.begin (aa HO))
    (ag (cz rfl aF)
    (ag (Co (b := w.heap.size) (off := 0) rfl aF rfl rfl)
    (ag (Ed (b := w.heap.size) (k := k) rfl (aT 1) (aT 0) (aa uk) rfl)
    (ag (Lr (f := (Dw f h k)) ru rfl (aT 2) (aa uk) (aat f h k) rfl)
    (ag (cz rfl aF)
    (ag (aov rfl (aT 3) (aT 4) ((aa HH) k (aa uk)) rfl)
    (ag (Co (b := w.heap.size) (off := 0) rfl aF rfl rfl)
    (ag (Ed (b := w.heap.size) (k := k) rfl (aT 6) (aT 0) (aa uk) rfl)
    Rg.bf)))))))) ?_
   intro v4 V4 hG4 hv4 mo
   simp only [Rg.puts, Act.put, tA]
   have e5 : v4 5 = .int .i64 (h k) := hv4 5 de
   have e7 : v4 7 = .pointer (some ⟨w.heap.size, k, none⟩) := hv4 7 de
   simp only [e5, e7]
   have hO := hG4.1
   refine aee (f := (Dw f h k)) (g := (Dw f h (k + 1))) (k := k) (v := (h k)) hO 2 [.q x] rfl (aa uk) rfl rfl (Te f h k) ?_
   intro Ai fu hk0
   replace hO := fu
   clear fu
   clear HO
   have HO := hide hO
   clear hO hG4 hv4 mo hk0
   try clear e5 e7
   go_wp2_with fail
   go_roundw
   case rel =>
    exact ⟨k + 1, by have := aa uk; omega, Np (aa uk) om, HO⟩
   case measure =>
    have h1 := aa uk
    clear HO
    rw [Lp h1 om]
    exact measS h1
  ·
   obtain rfl : k = 7 := by have := aa HK; omega
   clear g1
   rw [Wx] at HO
   go_upto_region 2 with fail
   refine Rg.bg 1 29 (Rg.pick [Rg.ai (.bool false)]) (az w _ wr) dm [] kr rfl (Rg.df.pick ⟨Rg.ae _, trivial⟩) (az.begin (aa HO))
    (ag (ry rfl aF (Rg.jc _) rfl rfl)
    Rg.bf) ?_
   intro v2 V2 hG2 hv2 hne2
   simp only [Rg.puts, Act.put, tA]
   have e0 : v2 0 = .bool false := hv2 0 de
   simp only [e0]
   have hO := hG2.1
   clear HO
   have HO := hide hO
   clear hO hG2 hv2 hne2
   try clear e0
   go_upto_region 6 with fail
   refine Rg.bg 6 29 (Rg.pick [Rg.ai (.pointer (some ⟨w.heap.size, 7, none⟩)), au [.q x], Rg.ai (.pointer (some ⟨w.heap.size + 1, 7, none⟩)), au [.q y], au [.q a], Rg.ai (.pointer (some ⟨w.heap.size, 7, none⟩))]) (az w _ V2) dm [] kr rfl (Rg.df.pick ⟨Rg.ae _, ay _, Rg.ae _, ay _, ay _, Rg.ae _, trivial⟩) (az.begin (aa HO))
    (ag (Ff (b := w.heap.size) (off := 0) rfl aF rfl rfl)
    (ag (fw Gp ru (aT 0) [.k (eK h)] [.q x] [])
    (ag (Ff (b := w.heap.size + 1) (off := 0) rfl aF rfl rfl)
    (ag (fw Gp mf (aT 2) [.k (eK g)] [.q y] [])
    (ag (sc2 Tryz.func108 (aT 1) (aT 3) (fun W v0 v1 hG h0 h1 => bln (aa HP) hG.bel h0 h1))
    (ag (Ff (b := w.heap.size) (off := 0) rfl aF rfl rfl)
    Rg.bf)))))) ?_
   intro v3 V3 hG3 hv3 ja
   simp only [Rg.puts, Act.put, tA]
   have e5 : v3 5 = .pointer (some ⟨w.heap.size, 7, none⟩) := hv3 5 de
   simp only [e5]
   have hO := hG3.1
   refine ji hO 2 [.k (eK h)] [.q x] [.q a] [] rfl Ht rfl (show au [.q a] V3 (v3 4) from hv3 4 de) rfl rfl rfl ?_
   intro Bi fu hk0
   replace hO := fu
   clear fu
   clear HO
   have HO := hide hO
   clear hO hG3 hv3 ja hk0
   try clear e5
   go_upto_region 7 with fail
   refine Rg.bg 1 29 (Rg.pick [au [.k (eK h), .q a]]) (az w _ Bi) dm [] kr rfl (Rg.df.pick ⟨ay _, trivial⟩) (az.begin (aa HO))
    (ag (fw Pv ru aF [] [.k (eK h), .q a] [])
    Rg.bf) ?_
   intro v4 V4 hG4 hv4 mo
   simp only [Rg.puts, Act.put, tA]
   have hO := hG4.1
   refine ji hO 0 [] zM [.k (eK h), .q a] [] rfl Bq rfl (show au [.k (eK h), .q a] V4 (v4 0) from hv4 0 de) rfl rfl rfl ?_
   intro Ai fu hk0
   replace hO := fu
   clear fu
   clear HO
   have HO := hide hO
   clear hO hG4 hv4 mo hk0
   go_wp2_with fail
   exact Am Tryz.results119 Ia rfl (aa HO) me0 rfl rfl
theorem abm {f : Nat → Int} {x : Rat} (w : World) (u0 : Value) (h0 : au [.k (eK f), .q x] w u0) : Calls Tryz.prog 105 #[u0] w (ik (Kv (gp f x)) w) := by
 obtain ⟨t, ht⟩ : ∃ t, t = gp f x := ⟨_, rfl⟩
 rw [← ht]
 have HR := hide ht
 clear ht
 obtain ⟨Il, Cq, Bd, c0a, Az, Ke, Kj, Gw, c0b, Gq, rfl, f0a, Gt⟩ := Vo h0
 go_enter Tryz.func105, Tryz.ntmps105
 go_upto_region 1 with fail
 have hO := (Own.push (T := 44) (ls := zU) (Own.push (T := 118) (ls := [.k (eK f), .q x]) (Own.nil w) (eu.e (eu.q f0a Gt rfl)) (w.heap.size) rfl) (eu.below (by repeat (first | exact Below.refl _ _ | refine gm ?_ _)) (eu.vs w [.int .i64 0, .int .i64 0, .int .i64 0, .int .i64 0, .int .i64 0, .int .i64 0, .int .i64 0, .int .i64 0, .int .i64 0] rfl)) (w.heap.size + 1) (by simp only [World.size_alloc]))
 generalize (w.alloc (.cells #[.int .i64 (f 0), .int .i64 (f 1), .int .i64 (f 2), .int .i64 (f 3), .int .i64 (f 4), .int .i64 (f 5), .int .i64 (f 6), .int .i64 Il, .bool Cq, .slice Bd (List.length Az) c0a, .int .i64 Ke, .bool Kj, .slice Gw (List.length Gq) c0b] 118)).alloc (.cells #[.int .i64 0, .int .i64 0, .int .i64 0, .int .i64 0, .int .i64 0, .int .i64 0, .int .i64 0, .int .i64 0, .int .i64 0] 44) = W0 at *
 have HO := hide hO
 clear hO
 by_cases g1 : Ca f
 ·
  by_cases g2 : (Wd.told x).e = 0
  ·
   have k1 : decide (Ca f) = true := decide_eq_true g1
   have k2 : ((Wd.told x).e != 0) = false := by simp [bne, beq_iff_eq.2 g2]
   have hr : t = ⟨f, (Wd.told x).n, (Wd.told x).d, 0⟩ := by rw [aa HR]; unfold gp; rw [if_pos g1, if_pos g2]
   subst hr
   clear HR
   go_upto_region 1 with fail
   refine Rg.bg 4 25 (Rg.pick [Rg.ai (.pointer (some ⟨w.heap.size, 0, none⟩)), au [.k (eK f)], Rg.ai (.bool true), Rg.ai (.bool false)]) (az w _ W0) dm [] kr rfl (Rg.df.pick ⟨Rg.ae _, ay _, Rg.ae _, Rg.ae _, trivial⟩) (az.begin (aa HO))
    (ag (Co (b := w.heap.size) (off := 0) rfl aF rfl rfl)
    (ag (fw xw mf (aT 0) [] [.k (eK f)] [.q x])
    (ag (sc1 Tryz.func96 (aT 1) (fun W v0 hG h0 => Sa _ W _ h0 k1))
    (ag (uf rfl (aT 2) rfl rfl)
    Rg.bf)))) ?_
   intro v1 V1 hG1 hv1 hne1
   simp only [Rg.puts, Act.put, tA]
   have e3 : v1 3 = .bool false := hv1 3 de
   simp only [e3]
   have hO := hG1.1
   clear HO
   have HO := hide hO
   clear hO hG1 hv1 hne1
   try clear e3
   go_upto_region 3 with fail
   refine Rg.bg 7 25 (Rg.pick [Rg.ai (.pointer (some ⟨w.heap.size, 7, none⟩)), au [.q x], jk [au [iv (Wd.told x).n, iv (Wd.told x).d], Rg.ai (.int .i64 (Wd.told x).e)], jk [au [iv (Wd.told x).n, iv (Wd.told x).d], Rg.ai (.int .i64 (Wd.told x).e)], au [iv (Wd.told x).n, iv (Wd.told x).d], Rg.ai (.int .i64 (Wd.told x).e), nk 23 zR V1.heap.size]) (az w _ V1) dm [6] kr rfl (Rg.df.pick ⟨Rg.ae _, ay _, il ⟨(ay _), (Rg.ae _), trivial⟩, il ⟨(ay _), (Rg.ae _), trivial⟩, ay _, Rg.ae _, og _ _ _, trivial⟩) (az.begin (aa HO))
    (ag (Ff (b := w.heap.size) (off := 0) rfl aF rfl rfl)
    (ag (fw Gp mf (aT 0) [.k (eK f)] [.q x] [])
    (ag (sc1 Tryz.func69 (aT 1) (fun W v0 hG h0 => ahq h0))
    (ag (cz rfl (aT 2))
    (ag (iy (ts := [au [iv (Wd.told x).n, iv (Wd.told x).d], Rg.ai (.int .i64 (Wd.told x).e)]) rfl (aT 3) (of_decide_eq_true rfl) rfl)
    (ag (iy (ts := [au [iv (Wd.told x).n, iv (Wd.told x).d], Rg.ai (.int .i64 (Wd.told x).e)]) rfl (aT 3) (of_decide_eq_true rfl) rfl)
    (ag (qd Gy rfl az.step az.size rfl (rq (by intro j hj; simp at hj; (repeat' (first | (rcases hj with rfl | hj))) <;> first | (subst hj; exact ⟨_, _, _, rfl⟩) | exact ⟨_, _, _, rfl⟩)))
    Rg.bf))))))) ?_
   intro v2 V2 hG2 hv2 hne2
   simp only [Rg.puts, Act.put, tA]
   have e5 : v2 5 = .int .i64 (Wd.told x).e := hv2 5 de
   obtain ⟨bna, e6, yg, Bo⟩ := (show nk 23 zR V1.heap.size V2 (v2 6) from hv2 6 de)
   simp only [e5, e6]
   have hO := hG2.1
   replace hO := Own.add (aa HO) hG2.2 yg Bo
   clear yg Bo
   refine ji hO 0 [] zR [iv (Wd.told x).n, iv (Wd.told x).d] [] rfl uq rfl (show au [iv (Wd.told x).n, iv (Wd.told x).d] V2 (v2 4) from hv2 4 de) rfl rfl rfl ?_
   intro Cc fu hk0
   replace hO := fu
   clear fu
   clear HO
   have HO := hide hO
   clear hO hG2 hv2 hne2 hk0
   try clear e5 e6
   go_upto_region 4 with fail
   refine Rg.bg 2 25 (Rg.pick [Rg.ai (.int .i64 (Wd.told x).e), Rg.ai (.bool false)]) (az w _ Cc) dm [] kr rfl (Rg.df.pick ⟨Rg.ae _, Rg.ae _, trivial⟩) (az.begin (aa HO))
    (ag (cz rfl aF)
    (ag (mq rfl (aT 0) (Rg.jc _) rfl k2)
    Rg.bf)) ?_
   intro v3 V3 hG3 hv3 ja
   simp only [Rg.puts, Act.put, tA]
   have e1 : v3 1 = .bool false := hv3 1 de
   simp only [e1]
   have hO := hG3.1
   clear HO
   have HO := hide hO
   clear hO hG3 hv3 ja
   try clear e1
   go_upto_region 6 with fail
   refine Rg.bg 4 25 (Rg.pick [Rg.ai (.pointer (some ⟨w.heap.size, 0, none⟩)), au [.k (eK f)], au [iv (Wd.told x).n, iv (Wd.told x).d], au [.k (eK f), iv (Wd.told x).n, iv (Wd.told x).d]]) (az w _ V3) dm [] kr rfl (Rg.df.pick ⟨Rg.ae _, ay _, ay _, ay _, trivial⟩) (az.begin (aa HO))
    (ag (Co (b := w.heap.size) (off := 0) rfl aF rfl rfl)
    (ag (fw xw ru (aT 0) [] [.k (eK f)] [.q x])
    (ag (fw qi me0 aF [] [iv (Wd.told x).n, iv (Wd.told x).d] [])
    (ag (Bv Qb rfl (aT 1) (aT 2) rfl rfl rfl)
    Rg.bf)))) ?_
   intro v4 V4 hG4 hv4 mo
   simp only [Rg.puts, Act.put, tA]
   have hO := hG4.1
   refine ji hO 1 [] zU [.k (eK f), iv (Wd.told x).n, iv (Wd.told x).d] [] rfl oo rfl (show au [.k (eK f), iv (Wd.told x).n, iv (Wd.told x).d] V4 (v4 3) from hv4 3 de) rfl rfl rfl ?_
   intro Ai fu hk0
   replace hO := fu
   clear fu
   clear HO
   have HO := hide hO
   clear hO hG4 hv4 mo hk0
   go_wp2_with fail
   exact oz Tryz.results105 uh rfl rfl (aa HO) mf rfl rfl
  ·
   have k1 : decide (Ca f) = true := decide_eq_true g1
   have k2 : ((Wd.told x).e != 0) = true := by simp [bne, beq_eq_false_iff_ne.2 g2]
   have hr : t = ⟨z7, 0, 0, (Wd.told x).e⟩ := by rw [aa HR]; unfold gp; rw [if_pos g1, if_neg g2]
   subst hr
   clear HR
   go_upto_region 1 with fail
   refine Rg.bg 4 25 (Rg.pick [Rg.ai (.pointer (some ⟨w.heap.size, 0, none⟩)), au [.k (eK f)], Rg.ai (.bool true), Rg.ai (.bool false)]) (az w _ W0) dm [] kr rfl (Rg.df.pick ⟨Rg.ae _, ay _, Rg.ae _, Rg.ae _, trivial⟩) (az.begin (aa HO))
    (ag (Co (b := w.heap.size) (off := 0) rfl aF rfl rfl)
    (ag (fw xw mf (aT 0) [] [.k (eK f)] [.q x])
    (ag (sc1 Tryz.func96 (aT 1) (fun W v0 hG h0 => Sa _ W _ h0 k1))
    (ag (uf rfl (aT 2) rfl rfl)
    Rg.bf)))) ?_
   intro v1 V1 hG1 hv1 hne1
   simp only [Rg.puts, Act.put, tA]
   have e3 : v1 3 = .bool false := hv1 3 de
   simp only [e3]
   have hO := hG1.1
   clear HO
   have HO := hide hO
   clear hO hG1 hv1 hne1
   try clear e3
   go_upto_region 3 with fail
   refine Rg.bg 7 25 (Rg.pick [Rg.ai (.pointer (some ⟨w.heap.size, 7, none⟩)), au [.q x], jk [au [iv (Wd.told x).n, iv (Wd.told x).d], Rg.ai (.int .i64 (Wd.told x).e)], jk [au [iv (Wd.told x).n, iv (Wd.told x).d], Rg.ai (.int .i64 (Wd.told x).e)], au [iv (Wd.told x).n, iv (Wd.told x).d], Rg.ai (.int .i64 (Wd.told x).e), nk 23 zR V1.heap.size]) (az w _ V1) dm [6] kr rfl (Rg.df.pick ⟨Rg.ae _, ay _, il ⟨(ay _), (Rg.ae _), trivial⟩, il ⟨(ay _), (Rg.ae _), trivial⟩, ay _, Rg.ae _, og _ _ _, trivial⟩) (az.begin (aa HO))
    (ag (Ff (b := w.heap.size) (off := 0) rfl aF rfl rfl)
    (ag (fw Gp mf (aT 0) [.k (eK f)] [.q x] [])
    (ag (sc1 Tryz.func69 (aT 1) (fun W v0 hG h0 => ahq h0))
    (ag (cz rfl (aT 2))
    (ag (iy (ts := [au [iv (Wd.told x).n, iv (Wd.told x).d], Rg.ai (.int .i64 (Wd.told x).e)]) rfl (aT 3) (of_decide_eq_true rfl) rfl)
    (ag (iy (ts := [au [iv (Wd.told x).n, iv (Wd.told x).d], Rg.ai (.int .i64 (Wd.told x).e)]) rfl (aT 3) (of_decide_eq_true rfl) rfl)
    (ag (qd Gy rfl az.step az.size rfl (rq (by intro j hj; simp at hj; (repeat' (first | (rcases hj with rfl | hj))) <;> first | (subst hj; exact ⟨_, _, _, rfl⟩) | exact ⟨_, _, _, rfl⟩)))
    Rg.bf))))))) ?_
   intro v2 V2 hG2 hv2 hne2
   simp only [Rg.puts, Act.put, tA]
   have e5 : v2 5 = .int .i64 (Wd.told x).e := hv2 5 de
   obtain ⟨bna, e6, yg, Bo⟩ := (show nk 23 zR V1.heap.size V2 (v2 6) from hv2 6 de)
   simp only [e5, e6]
   have hO := hG2.1
   replace hO := Own.add (aa HO) hG2.2 yg Bo
   clear yg Bo
   refine ji hO 0 [] zR [iv (Wd.told x).n, iv (Wd.told x).d] [] rfl uq rfl (show au [iv (Wd.told x).n, iv (Wd.told x).d] V2 (v2 4) from hv2 4 de) rfl rfl rfl ?_
   intro Cc fu hk0
   replace hO := fu
   clear fu
   clear HO
   have HO := hide hO
   clear hO hG2 hv2 hne2 hk0
   try clear e5 e6
   go_upto_region 4 with fail
   refine Rg.bg 2 25 (Rg.pick [Rg.ai (.int .i64 (Wd.told x).e), Rg.ai (.bool true)]) (az w _ Cc) dm [] kr rfl (Rg.df.pick ⟨Rg.ae _, Rg.ae _, trivial⟩) (az.begin (aa HO))
    (ag (cz rfl aF)
    (ag (mq rfl (aT 0) (Rg.jc _) rfl k2)
    Rg.bf)) ?_
   intro v3 V3 hG3 hv3 ja
   simp only [Rg.puts, Act.put, tA]
   have e1 : v3 1 = .bool true := hv3 1 de
   simp only [e1]
   have hO := hG3.1
   clear HO
   have HO := hide hO
   clear hO hG3 hv3 ja
   try clear e1
   go_upto_region 5 with fail
   refine Rg.bg 2 25 (Rg.pick [au [.k (eK z7), iv 0, iv 0], Rg.ai (.int .i64 (Wd.told x).e)]) (az w _ V3) dm [] kr rfl (Rg.df.pick ⟨ay _, Rg.ae _, trivial⟩) (az.begin (aa HO))
    (ag (Ik rfl rfl)
    (ag (cz rfl aF)
    Rg.bf)) ?_
   intro v4 V4 hG4 hv4 mo
   simp only [Rg.puts, Act.put, tA]
   have e1 : v4 1 = .int .i64 (Wd.told x).e := hv4 1 de
   simp only [e1]
   have hO := hG4.1
   refine ji hO 1 [] zU [.k (eK z7), iv 0, iv 0] [] rfl oo rfl (show au [.k (eK z7), iv 0, iv 0] V4 (v4 0) from hv4 0 de) rfl rfl rfl ?_
   intro Ai fu hk0
   replace hO := fu
   clear fu
   clear HO
   have HO := hide hO
   clear hO hG4 hv4 mo hk0
   try clear e1
   go_wp2_with fail
   exact oz Tryz.results105 uh rfl rfl (aa HO) mf rfl rfl
 ·
  have k1 : decide (Ca f) = false := decide_eq_false g1
  have hr : t = ⟨z7, 0, 0, 3⟩ := by rw [aa HR]; exact if_neg g1
  subst hr
  clear HR
  go_upto_region 1 with fail
  refine Rg.bg 4 25 (Rg.pick [Rg.ai (.pointer (some ⟨w.heap.size, 0, none⟩)), au [.k (eK f)], Rg.ai (.bool false), Rg.ai (.bool true)]) (az w _ W0) dm [] kr rfl (Rg.df.pick ⟨Rg.ae _, ay _, Rg.ae _, Rg.ae _, trivial⟩) (az.begin (aa HO))
   (ag (Co (b := w.heap.size) (off := 0) rfl aF rfl rfl)
   (ag (fw xw mf (aT 0) [] [.k (eK f)] [.q x])
   (ag (sc1 Tryz.func96 (aT 1) (fun W v0 hG h0 => Sa _ W _ h0 k1))
   (ag (uf rfl (aT 2) rfl rfl)
   Rg.bf)))) ?_
  intro v1 V1 hG1 hv1 hne1
  simp only [Rg.puts, Act.put, tA]
  have e3 : v1 3 = .bool true := hv1 3 de
  simp only [e3]
  have hO := hG1.1
  clear HO
  have HO := hide hO
  clear hO hG1 hv1 hne1
  try clear e3
  go_upto_region 2 with fail
  refine Rg.bg 1 25 (Rg.pick [au [.k (eK z7), iv 0, iv 0]]) (az w _ V1) dm [] kr rfl (Rg.df.pick ⟨ay _, trivial⟩) (az.begin (aa HO))
   (ag (Ik rfl rfl)
   Rg.bf) ?_
  intro v2 V2 hG2 hv2 hne2
  simp only [Rg.puts, Act.put, tA]
  have hO := hG2.1
  refine ji hO 0 [] zU [.k (eK z7), iv 0, iv 0] [] rfl oo rfl (show au [.k (eK z7), iv 0, iv 0] V2 (v2 0) from hv2 0 de) rfl rfl rfl ?_
  intro Cc fu hk0
  replace hO := fu
  clear fu
  clear HO
  have HO := hide hO
  clear hO hG2 hv2 hne2 hk0
  go_wp2_with fail
  exact oz Tryz.results105 uh rfl rfl (aa HO) me0 rfl rfl
end Sb


namespace Sb
def uy (f g : Nat → Int) : Prop := f 0 = g 0 ∧ f 1 = g 1 ∧ f 2 = g 2 ∧ f 3 = g 3 ∧ f 4 = g 4 ∧ f 5 = g 5 ∧ f 6 = g 6
instance (f g : Nat → Int) : Decidable (uy f g) := by unfold uy; infer_instance
theorem agc : (Tryz.prog.info? 3).map (fun i => i.size) = some 1 := by kernel_rfl
theorem eqA (f g : Nat → Int) (w : World) : (Op.equalIn 10000 42 (.agg #[Value.int .i64 (f 0), Value.int .i64 (f 1), Value.int .i64 (f 2), Value.int .i64 (f 3), Value.int .i64 (f 4), Value.int .i64 (f 5), Value.int .i64 (f 6)]) (.agg #[Value.int .i64 (g 0), Value.int .i64 (g 1), Value.int .i64 (g 2), Value.int .i64 (g 3), Value.int .i64 (g 4), Value.int .i64 (g 5), Value.int .i64 (g 6)])).run Tryz.prog w = .ok (decide (uy f g)) w := by
 obtain ⟨i, hi⟩ : ∃ i, Tryz.prog.info? 3 = some i := by
  have := agc
  cases h : Tryz.prog.info? 3 with
  | none => rw [h] at this; cases this
  | some i => exact ⟨i, rfl⟩
 have hc : Tryz.prog.cellsOf 3 = 1 := by kernel_rfl
 have key := fun w => run_equalIn_array (P := Tryz.prog) (w := w) 9999 (t := 42) (e := 3) (n := 7) #[Value.int .i64 (f 0), Value.int .i64 (f 1), Value.int .i64 (f 2), Value.int .i64 (f 3), Value.int .i64 (f 4), Value.int .i64 (f 5), Value.int .i64 (f 6)] #[Value.int .i64 (g 0), Value.int .i64 (g 1), Value.int .i64 (g 2), Value.int .i64 (g 3), Value.int .i64 (g 4), Value.int .i64 (g 5), Value.int .i64 (g 6)] Tryz.underlying42 hi
 rw [hc, show List.range 7 = [0, 1, 2, 3, 4, 5, 6] by rfl] at key
 have step : ∀ (a b : Int) (w : World), (Op.equalIn 9999 3 (.int .i64 a) (.int .i64 b)).run Tryz.prog w = .ok (a == b) w := fun a b w => by
  rw [show (9999 : Nat) = 9998 + 1 from rfl]
  unfold Op.equalIn
  simp [go_sem]
 have hp : ∀ (f : Nat → Int) (i : Nat) (w : World), i < 7 → (part 3 #[Value.int .i64 (f 0), Value.int .i64 (f 1), Value.int .i64 (f 2), Value.int .i64 (f 3), Value.int .i64 (f 4), Value.int .i64 (f 5), Value.int .i64 (f 6)] (i * 1)).run Tryz.prog w = .ok (.int .i64 (f i)) w := fun f i w hi => by
  have hc : i = 0 ∨ i = 1 ∨ i = 2 ∨ i = 3 ∨ i = 4 ∨ i = 5 ∨ i = 6 := by omega
  rcases hc with rfl | rfl | rfl | rfl | rfl | rfl | rfl <;> simp [go_sem]
 have it : ∀ (i : Nat) (is : List Nat) (w : World), i < 7 → (Op.eqItems 9999 3 1 #[Value.int .i64 (f 0), Value.int .i64 (f 1), Value.int .i64 (f 2), Value.int .i64 (f 3), Value.int .i64 (f 4), Value.int .i64 (f 5), Value.int .i64 (f 6)] #[Value.int .i64 (g 0), Value.int .i64 (g 1), Value.int .i64 (g 2), Value.int .i64 (g 3), Value.int .i64 (g 4), Value.int .i64 (g 5), Value.int .i64 (g 6)] (i :: is)).run Tryz.prog w = if f i = g i then (Op.eqItems 9999 3 1 #[Value.int .i64 (f 0), Value.int .i64 (f 1), Value.int .i64 (f 2), Value.int .i64 (f 3), Value.int .i64 (f 4), Value.int .i64 (f 5), Value.int .i64 (f 6)] #[Value.int .i64 (g 0), Value.int .i64 (g 1), Value.int .i64 (g 2), Value.int .i64 (g 3), Value.int .i64 (g 4), Value.int .i64 (g 5), Value.int .i64 (g 6)] is).run Tryz.prog w else .ok false w := fun i is w hi => by
  simp only [Op.eqItems, Sem.run_bind, hp _ _ _ hi, Result.andThen_ok, step]
  by_cases e : f i = g i
  ·
   rw [if_pos e, e]; simp
  ·
   rw [if_neg e]; simp [e]
 refine (key w).trans ?_
 rw [it 0 _ _ om, it 1 _ _ om, it 2 _ _ om, it 3 _ _ om, it 4 _ _ om, it 5 _ _ om, it 6 _ _ om]
 clear it hp step key
 by_cases k0 : f 0 = g 0
 ·
  rw [if_pos k0]
  by_cases k1 : f 1 = g 1
  ·
   rw [if_pos k1]
   by_cases k2 : f 2 = g 2
   ·
    rw [if_pos k2]
    by_cases k3 : f 3 = g 3
    ·
     rw [if_pos k3]
     by_cases k4 : f 4 = g 4
     ·
      rw [if_pos k4]
      by_cases k5 : f 5 = g 5
      ·
       rw [if_pos k5]
       by_cases k6 : f 6 = g 6
       ·
        rw [if_pos k6, show decide (uy f g) = true from decide_eq_true ⟨k0, k1, k2, k3, k4, k5, k6⟩]; simp [Op.eqItems]
       ·
        rw [if_neg k6, show decide (uy f g) = false from decide_eq_false (fun h => k6 h.2.2.2.2.2.2)]
      ·
       rw [if_neg k5, show decide (uy f g) = false from decide_eq_false (fun h => k5 h.2.2.2.2.2.1)]
     ·
      rw [if_neg k4, show decide (uy f g) = false from decide_eq_false (fun h => k4 h.2.2.2.2.1)]
    ·
     rw [if_neg k3, show decide (uy f g) = false from decide_eq_false (fun h => k3 h.2.2.2.1)]
   ·
    rw [if_neg k2, show decide (uy f g) = false from decide_eq_false (fun h => k2 h.2.2.1)]
  ·
   rw [if_neg k1, show decide (uy f g) = false from decide_eq_false (fun h => k1 h.2.1)]
 ·
  rw [if_neg k0, show decide (uy f g) = false from decide_eq_false (fun h => k0 h.1)]
theorem atl {ρ : Operand → Value} {w : World} {d : Option Tmp} {x y : Operand} {f g : Nat → Int} {b : Bool} {ty : TypeId} {pos : String} {af : Array Edge} {gd : Option (Nat × Bool)} (hx : ρ x = aV f) (hy : ρ y = aV g) (hb : decide (uy f g) = b) :
  (execOp ρ { dst := d, op := .binOp .eql 42 x y 42, type := ty, pos := pos, after := af, guard := gd }).run Tryz.prog w = .ok (.value (.bool b)) w := by
 unfold aV at hx hy
 subst hb
 have key := fun w => eqA f g w
 simp only [execOp, hx, hy]
 simp [go_sem, key]
theorem aos {Q : Exit → Act → World → Prop} {l : List Oper} {n : Nat} {T : Nat → World → Value → Prop} {G : World → Prop} {al : List Nat} {a0 : Act} {k d : Nat} {ty : TypeId} {pos : String} {af : Array Edge} {gd : Option (Nat × Bool)} {x y : Operand} {f g : Nat → Int} {b : Bool} (hal : al.contains k = false) (hx : Rg.iq l n T a0 k x (Rg.ai (aV f))) (hy : Rg.iq l n T a0 k y (Rg.ai (aV g))) (hT : T k = Rg.ai (.bool b)) (hb : decide (uy f g) = b) :
  Rg.Step Tryz.prog Q l n T G dm al a0 k { dst := some d, op := .binOp .eql 42 x y 42, type := ty, pos := pos, after := af, guard := gd } := by
 intro a w hG hO hN
 exact jm (P := Tryz.prog) (atl (hx a w hO hN) (hy a w hO hN) hb) ⟨_, rfl, hG, Below.refl _ _, by rw [hT]; rfl, fun h => by rw [hal] at h; cases h⟩
theorem atc {ρ : Operand → Value} {w : World} {d : Option Tmp} {x y : Operand} {f g : Nat → Int} {b : Bool} {ty : TypeId} {pos : String} {af : Array Edge} {gd : Option (Nat × Bool)} (hx : ρ x = aV f) (hy : ρ y = aV g) (hb : (!decide (uy f g)) = b) :
  (execOp ρ { dst := d, op := .binOp .neq 42 x y 42, type := ty, pos := pos, after := af, guard := gd }).run Tryz.prog w = .ok (.value (.bool b)) w := by
 unfold aV at hx hy
 subst hb
 have key := fun w => eqA f g w
 simp only [execOp, hx, hy]
 simp [go_sem, key]
theorem aoo {Q : Exit → Act → World → Prop} {l : List Oper} {n : Nat} {T : Nat → World → Value → Prop} {G : World → Prop} {al : List Nat} {a0 : Act} {k d : Nat} {ty : TypeId} {pos : String} {af : Array Edge} {gd : Option (Nat × Bool)} {x y : Operand} {f g : Nat → Int} {b : Bool} (hal : al.contains k = false) (hx : Rg.iq l n T a0 k x (Rg.ai (aV f))) (hy : Rg.iq l n T a0 k y (Rg.ai (aV g))) (hT : T k = Rg.ai (.bool b)) (hb : (!decide (uy f g)) = b) :
  Rg.Step Tryz.prog Q l n T G dm al a0 k { dst := some d, op := .binOp .neq 42 x y 42, type := ty, pos := pos, after := af, guard := gd } := by
 intro a w hG hO hN
 exact jm (P := Tryz.prog) (atc (hx a w hO hN) (hy a w hO hN) hb) ⟨_, rfl, hG, Below.refl _ _, by rw [hT]; rfl, fun h => by rw [hal] at h; cases h⟩
end Sb

end Go.Proofs.YtfgeaakhlcaibaaGreatDoor
