/- Texts beneath a law of layer 1. -/
import Derived.Test.YtfgeaakhlcaibaaGreatDoorCw13
set_option maxRecDepth 100000
set_option maxHeartbeats 16000000
namespace Go.Proofs.YtfgeaakhlcaibaaGreatDoor
open Go.RowKit

namespace Sb
theorem Dg {f : Nat → Int} {n d : Int} (w : World) (u0 : Value) (h0 : au [.k (eK f), iv n, iv d] w u0) : Calls Tryz.prog 31 #[u0] w (ik (Rg.ai (.int .i64 (xy f n d))) w) := by
 obtain ⟨v, hv⟩ : ∃ v, v = xy f n d := ⟨_, rfl⟩
 rw [← hv]
 have HV := hide hv
 clear hv
 have hu0 := pg h0
 subst hu0
 go_enter Tryz.func31, Tryz.ntmps31
 go_upto_region 1 with fail
 have hO := (Own.push (T := 44) (ls := [.k (eK f), iv n, iv d]) (Own.nil w) (eu.e (eu.v (iw _) (eu.v (iw _) rfl))) (w.heap.size) rfl)
 generalize w.alloc (.cells #[.int .i64 (f 0), .int .i64 (f 1), .int .i64 (f 2), .int .i64 (f 3), .int .i64 (f 4), .int .i64 (f 5), .int .i64 (f 6), .int .i64 n, .int .i64 d] 44) = W0 at *
 have HO := hide hO
 clear hO

 go_wp2_with fail
 go_loopw [3] (fun vk wr => ∃ k : Nat, k ≤ 7 ∧ vk = .int .i64 ((k : Nat) : Int) ∧ (∀ j, j < k → -9 ≤ f j ∧ f j ≤ 9) ∧ Hid (Own w [(w.heap.size, 44, [.k (eK f), iv n, iv d])] wr)) (fun vk _ => 7 - (intOf vk).toNat)
 case atStart => exact ⟨0, by omega, rfl, (by intro j hj; omega), HO⟩
 case round =>
  obtain ⟨k, hk, rfl, hall, HO⟩ := hrel
  have HK := hide hk
  have HAL := hide hall
  clear hk hall
  by_cases g1 : k < 7
  ·
   have d1 : decide ((k : Int) < 7) = true := decide_eq_true om
   have uk := hide g1
   clear g1
   go_upto_region 2 with fail
   refine Rg.bg 2 30 (Rg.pick [Rg.ai (.int .i64 (k : Int)), Rg.ai (.bool true)]) (az w _ wr) dm [] kr rfl (Rg.df.pick ⟨Rg.ae _, Rg.ae _, trivial⟩) (az.begin (aa HO))
    (ag (cz rfl aF)
    (ag (ry rfl (aT 0) (Rg.jc _) rfl d1)
    Rg.bf)) ?_
   intro v1 V1 hG1 hv1 hne1
   simp only [Rg.puts, Act.put, tA]
   have e1 : v1 1 = .bool true := hv1 1 de
   simp only [e1]
   have hO := hG1.1
   clear HO
   have HO := hide hO
   clear hO hG1 hv1 hne1
   try clear e1
   clear d1
   by_cases g2 : f k < -9
   ·
    have k2 : decide (f k < -9) = true := decide_eq_true g2
    have hv : v = 1 := by rw [aa HV]; exact if_neg (fun h => by have := h.1 k (aa uk); omega)
    subst hv
    clear HV
    go_upto_region 4 with fail
    refine Rg.bg 12 30 (Rg.pick [Rg.ai (.int .i64 (k : Int)), Rg.ai (.pointer (some ⟨w.heap.size, 0, none⟩)), Rg.ai (.pointer (some ⟨w.heap.size, k, none⟩)), Rg.ai (.int .i64 (f k)), Rg.ai (.bool true), Rg.ai (.bool true), Rg.ai undef, Rg.ai undef, Rg.ai undef, Rg.ai undef, Rg.ai undef, Rg.ai (.bool true)]) (az w _ V1) dm [] kr rfl (Rg.df.pick ⟨Rg.ae _, Rg.ae _, Rg.ae _, Rg.ae _, Rg.ae _, Rg.ae _, Rg.ae _, Rg.ae _, Rg.ae _, Rg.ae _, Rg.ae _, Rg.ae _, trivial⟩) (az.begin (aa HO))
     (ag (cz rfl aF)
     (ag (sw (b := w.heap.size) (off := 0) rfl aF rfl rfl)
     (ag (Ed (b := w.heap.size) (k := k) rfl (aT 1) (aT 0) (aa uk) rfl)
     (ag (Lr (f := f) me0 rfl (aT 2) (aa uk) rfl rfl)
     (ag (ry rfl (aT 3) (Rg.jc _) rfl k2)
     (ag (cz rfl (aT 4))
     (Rg.cu (Rg.ny (d := 13) rfl kr rfl rfl nz rfl rfl)
     (Rg.cu (Rg.ny (d := 13) rfl kr rfl rfl nz rfl rfl)
     (Rg.cu (Rg.ny (d := 13) rfl kr rfl rfl nz rfl rfl)
     (Rg.cu (Rg.ny (d := 13) rfl kr rfl rfl nz rfl rfl)
     (Rg.cu (Rg.ny (d := 13) rfl kr rfl rfl nz rfl rfl)
     (ag (xz rfl (aT 5) (Rg.jc _))
     Rg.bf)))))))))))) ?_
    intro v2 V2 hG2 hv2 hne2
    simp only [Rg.puts, Act.put, tA]
    have e11 : v2 11 = .bool true := hv2 11 de
    simp only [e11]
    have hO := hG2.1
    clear HO
    have HO := hide hO
    clear hO hG2 hv2 hne2
    try clear e11
    go_upto_region 5 with fail
    refine Rg.bg 1 30 (Rg.pick [Rg.ai (.int .i64 1)]) (az w _ V2) dm [] kr rfl (Rg.df.pick ⟨Rg.ae _, trivial⟩) (az.begin (aa HO))
     (ag (ib rfl (Rg.jc _))
     Rg.bf) ?_
    intro v3 V3 hG3 hv3 ja
    simp only [Rg.puts, Act.put, tA]
    have e0 : v3 0 = .int .i64 1 := hv3 0 de
    simp only [e0]
    have hO := hG3.1
    clear HO
    have HO := hide hO
    clear hO hG3 hv3 ja
    try clear e0
    go_wp2_with fail
    exact yu Tryz.results31 rfl (aa HO).bel rfl
   ·
    by_cases g3 : 9 < f k
    ·
     have k2 : decide (f k < -9) = false := decide_eq_false g2
     have k3 : decide (9 < f k) = true := decide_eq_true g3
     have hv : v = 1 := by rw [aa HV]; exact if_neg (fun h => by have := h.1 k (aa uk); omega)
     subst hv
     clear HV
     go_upto_region 4 with fail
     refine Rg.bg 12 30 (Rg.pick [Rg.ai (.int .i64 (k : Int)), Rg.ai (.pointer (some ⟨w.heap.size, 0, none⟩)), Rg.ai (.pointer (some ⟨w.heap.size, k, none⟩)), Rg.ai (.int .i64 (f k)), Rg.ai (.bool false), Rg.ai (.bool false), Rg.ai (.int .i64 (k : Int)), Rg.ai (.pointer (some ⟨w.heap.size, 0, none⟩)), Rg.ai (.pointer (some ⟨w.heap.size, k, none⟩)), Rg.ai (.int .i64 (f k)), Rg.ai (.bool true), Rg.ai (.bool true)]) (az w _ V1) dm [] kr rfl (Rg.df.pick ⟨Rg.ae _, Rg.ae _, Rg.ae _, Rg.ae _, Rg.ae _, Rg.ae _, Rg.ae _, Rg.ae _, Rg.ae _, Rg.ae _, Rg.ae _, Rg.ae _, trivial⟩) (az.begin (aa HO))
      (ag (cz rfl aF)
      (ag (sw (b := w.heap.size) (off := 0) rfl aF rfl rfl)
      (ag (Ed (b := w.heap.size) (k := k) rfl (aT 1) (aT 0) (aa uk) rfl)
      (ag (Lr (f := f) me0 rfl (aT 2) (aa uk) rfl rfl)
      (ag (ry rfl (aT 3) (Rg.jc _) rfl k2)
      (ag (cz rfl (aT 4))
      (Rg.cu (Rg.ek (d := 13) rfl kr rfl (cz rfl aF))
      (Rg.cu (Rg.ek (d := 13) rfl kr rfl (sw (b := w.heap.size) (off := 0) rfl aF rfl rfl))
      (Rg.cu (Rg.ek (d := 13) rfl kr rfl (Ed (b := w.heap.size) (k := k) rfl (aT 7) (aT 6) (aa uk) rfl))
      (Rg.cu (Rg.ek (d := 13) rfl kr rfl (Lr (f := f) me0 rfl (aT 8) (aa uk) rfl rfl))
      (Rg.cu (Rg.ek (d := 13) rfl kr rfl (Jv rfl (aT 9) (Rg.jc _) rfl k3))
      (ag (qb rfl (aT 5) (aT 10))
      Rg.bf)))))))))))) ?_
     intro v2 V2 hG2 hv2 hne2
     simp only [Rg.puts, Act.put, tA]
     have e11 : v2 11 = .bool true := hv2 11 de
     simp only [e11]
     have hO := hG2.1
     clear HO
     have HO := hide hO
     clear hO hG2 hv2 hne2
     try clear e11
     go_upto_region 5 with fail
     refine Rg.bg 1 30 (Rg.pick [Rg.ai (.int .i64 1)]) (az w _ V2) dm [] kr rfl (Rg.df.pick ⟨Rg.ae _, trivial⟩) (az.begin (aa HO))
      (ag (ib rfl (Rg.jc _))
      Rg.bf) ?_
     intro v3 V3 hG3 hv3 ja
     simp only [Rg.puts, Act.put, tA]
     have e0 : v3 0 = .int .i64 1 := hv3 0 de
     simp only [e0]
     have hO := hG3.1
     clear HO
     have HO := hide hO
     clear hO hG3 hv3 ja
     try clear e0
     go_wp2_with fail
     exact yu Tryz.results31 rfl (aa HO).bel rfl
    ·
     have k2 : decide (f k < -9) = false := decide_eq_false g2
     have k3 : decide (9 < f k) = false := decide_eq_false g3
     have HN := hide (show ∀ j, j < k + 1 → -9 ≤ f j ∧ f j ≤ 9 from fun j hj => by
      rcases Nat.lt_succ_iff_lt_or_eq.1 hj with h | rfl
      ·
       exact (aa HAL) j h
      ·
       omega)
     clear g2 g3
     go_upto_region 4 with fail
     refine Rg.bg 12 30 (Rg.pick [Rg.ai (.int .i64 (k : Int)), Rg.ai (.pointer (some ⟨w.heap.size, 0, none⟩)), Rg.ai (.pointer (some ⟨w.heap.size, k, none⟩)), Rg.ai (.int .i64 (f k)), Rg.ai (.bool false), Rg.ai (.bool false), Rg.ai (.int .i64 (k : Int)), Rg.ai (.pointer (some ⟨w.heap.size, 0, none⟩)), Rg.ai (.pointer (some ⟨w.heap.size, k, none⟩)), Rg.ai (.int .i64 (f k)), Rg.ai (.bool false), Rg.ai (.bool false)]) (az w _ V1) dm [] kr rfl (Rg.df.pick ⟨Rg.ae _, Rg.ae _, Rg.ae _, Rg.ae _, Rg.ae _, Rg.ae _, Rg.ae _, Rg.ae _, Rg.ae _, Rg.ae _, Rg.ae _, Rg.ae _, trivial⟩) (az.begin (aa HO))
      (ag (cz rfl aF)
      (ag (sw (b := w.heap.size) (off := 0) rfl aF rfl rfl)
      (ag (Ed (b := w.heap.size) (k := k) rfl (aT 1) (aT 0) (aa uk) rfl)
      (ag (Lr (f := f) me0 rfl (aT 2) (aa uk) rfl rfl)
      (ag (ry rfl (aT 3) (Rg.jc _) rfl k2)
      (ag (cz rfl (aT 4))
      (Rg.cu (Rg.ek (d := 13) rfl kr rfl (cz rfl aF))
      (Rg.cu (Rg.ek (d := 13) rfl kr rfl (sw (b := w.heap.size) (off := 0) rfl aF rfl rfl))
      (Rg.cu (Rg.ek (d := 13) rfl kr rfl (Ed (b := w.heap.size) (k := k) rfl (aT 7) (aT 6) (aa uk) rfl))
      (Rg.cu (Rg.ek (d := 13) rfl kr rfl (Lr (f := f) me0 rfl (aT 8) (aa uk) rfl rfl))
      (Rg.cu (Rg.ek (d := 13) rfl kr rfl (Jv rfl (aT 9) (Rg.jc _) rfl k3))
      (ag (qb rfl (aT 5) (aT 10))
      Rg.bf)))))))))))) ?_
     intro v2 V2 hG2 hv2 hne2
     simp only [Rg.puts, Act.put, tA]
     have e11 : v2 11 = .bool false := hv2 11 de
     simp only [e11]
     have hO := hG2.1
     clear HO
     have HO := hide hO
     clear hO hG2 hv2 hne2
     try clear e11
     clear k2 k3
     go_wp2_with fail
     go_roundw
     case rel =>
      exact ⟨k + 1, by have := aa uk; omega, Np (aa uk) om, aa HN, HO⟩
     case measure =>
      have h1 := aa uk
      clear HO
      rw [Lp h1 om]
      exact measS h1
  ·
   obtain rfl : k = 7 := by have := aa HK; omega
   clear g1
   have HF := hide (show Ca f from aa HAL)
   clear HAL
   go_upto_region 2 with fail
   refine Rg.bg 2 30 (Rg.pick [Rg.ai (.int .i64 ((7 : Nat) : Int)), Rg.ai (.bool false)]) (az w _ wr) dm [] kr rfl (Rg.df.pick ⟨Rg.ae _, Rg.ae _, trivial⟩) (az.begin (aa HO))
    (ag (cz rfl aF)
    (ag (ry rfl (aT 0) (Rg.jc _) rfl rfl)
    Rg.bf)) ?_
   intro v1 V1 hG1 hv1 hne1
   simp only [Rg.puts, Act.put, tA]
   have e1 : v1 1 = .bool false := hv1 1 de
   simp only [e1]
   have hO := hG1.1
   clear HO
   have HO := hide hO
   clear hO hG1 hv1 hne1
   try clear e1
   by_cases g2 : Wd.qy n d
   ·
    by_cases g3 : n ≤ 0
    ·
     have k2 : decide (Wd.qy n d) = true := decide_eq_true g2
     have k3 : decide (n ≤ 0) = true := decide_eq_true g3
     have hv : v = 1 := by rw [aa HV]; exact if_neg (fun h => absurd h.2.2 om)
     subst hv
     clear HV
     go_upto_region 6 with fail
     refine Rg.bg 10 30 (Rg.pick [Rg.ai (.pointer (some ⟨w.heap.size, 7, none⟩)), au [iv n, iv d], Rg.ai (.bool true), Rg.ai (.bool false), Rg.ai (.bool false), Rg.ai (.pointer (some ⟨w.heap.size, 7, none⟩)), Rg.ai (.pointer (some ⟨w.heap.size, 7, none⟩)), Rg.ai (.int .i64 n), Rg.ai (.bool true), Rg.ai (.bool true)]) (az w _ V1) dm [] kr rfl (Rg.df.pick ⟨Rg.ae _, ay _, Rg.ae _, Rg.ae _, Rg.ae _, Rg.ae _, Rg.ae _, Rg.ae _, Rg.ae _, Rg.ae _, trivial⟩) (az.begin (aa HO))
      (ag (vo (b := w.heap.size) (off := 0) rfl aF rfl rfl)
      (ag (fw qi me0 (aT 0) [.k (eK f)] [iv n, iv d] [])
      (ag (sc1 Tryz.func70 (aT 1) (fun W v0 hG h0 => k2 ▸ Xi h0))
      (ag (uf rfl (aT 2) rfl rfl)
      (ag (cz rfl (aT 3))
      (Rg.cu (Rg.ek (d := 24) rfl kr rfl (vo (b := w.heap.size) (off := 0) rfl aF rfl rfl))
      (Rg.cu (Rg.ek (d := 24) rfl kr rfl (Kc (b := w.heap.size) (off := 7) rfl (aT 5) rfl rfl))
      (Rg.cu (Rg.ek (d := 24) rfl kr rfl (Ra Ib me0 (aT 6) [.k (eK f)] [iv d] rfl))
      (Rg.cu (Rg.ek (d := 24) rfl kr rfl (aws rfl (aT 7) (Rg.jc _) rfl k3))
      (ag (qb rfl (aT 4) (aT 8))
      Rg.bf)))))))))) ?_
     intro v2 V2 hG2 hv2 hne2
     simp only [Rg.puts, Act.put, tA]
     have e9 : v2 9 = .bool true := hv2 9 de
     simp only [e9]
     have hO := hG2.1
     clear HO
     have HO := hide hO
     clear hO hG2 hv2 hne2
     try clear e9
     go_upto_region 7 with fail
     refine Rg.bg 1 30 (Rg.pick [Rg.ai (.int .i64 1)]) (az w _ V2) dm [] kr rfl (Rg.df.pick ⟨Rg.ae _, trivial⟩) (az.begin (aa HO))
      (ag (ib rfl (Rg.jc _))
      Rg.bf) ?_
     intro v3 V3 hG3 hv3 ja
     simp only [Rg.puts, Act.put, tA]
     have e0 : v3 0 = .int .i64 1 := hv3 0 de
     simp only [e0]
     have hO := hG3.1
     clear HO
     have HO := hide hO
     clear hO hG3 hv3 ja
     try clear e0
     go_wp2_with fail
     exact yu Tryz.results31 rfl (aa HO).bel rfl
    ·
     have k2 : decide (Wd.qy n d) = true := decide_eq_true g2
     have k3 : decide (n ≤ 0) = false := decide_eq_false g3
     have hv : v = 0 := by rw [aa HV]; exact if_pos ⟨aa HF, g2, by omega⟩
     subst hv
     clear HV
     go_upto_region 6 with fail
     refine Rg.bg 10 30 (Rg.pick [Rg.ai (.pointer (some ⟨w.heap.size, 7, none⟩)), au [iv n, iv d], Rg.ai (.bool true), Rg.ai (.bool false), Rg.ai (.bool false), Rg.ai (.pointer (some ⟨w.heap.size, 7, none⟩)), Rg.ai (.pointer (some ⟨w.heap.size, 7, none⟩)), Rg.ai (.int .i64 n), Rg.ai (.bool false), Rg.ai (.bool false)]) (az w _ V1) dm [] kr rfl (Rg.df.pick ⟨Rg.ae _, ay _, Rg.ae _, Rg.ae _, Rg.ae _, Rg.ae _, Rg.ae _, Rg.ae _, Rg.ae _, Rg.ae _, trivial⟩) (az.begin (aa HO))
      (ag (vo (b := w.heap.size) (off := 0) rfl aF rfl rfl)
      (ag (fw qi me0 (aT 0) [.k (eK f)] [iv n, iv d] [])
      (ag (sc1 Tryz.func70 (aT 1) (fun W v0 hG h0 => k2 ▸ Xi h0))
      (ag (uf rfl (aT 2) rfl rfl)
      (ag (cz rfl (aT 3))
      (Rg.cu (Rg.ek (d := 24) rfl kr rfl (vo (b := w.heap.size) (off := 0) rfl aF rfl rfl))
      (Rg.cu (Rg.ek (d := 24) rfl kr rfl (Kc (b := w.heap.size) (off := 7) rfl (aT 5) rfl rfl))
      (Rg.cu (Rg.ek (d := 24) rfl kr rfl (Ra Ib me0 (aT 6) [.k (eK f)] [iv d] rfl))
      (Rg.cu (Rg.ek (d := 24) rfl kr rfl (aws rfl (aT 7) (Rg.jc _) rfl k3))
      (ag (qb rfl (aT 4) (aT 8))
      Rg.bf)))))))))) ?_
     intro v2 V2 hG2 hv2 hne2
     simp only [Rg.puts, Act.put, tA]
     have e9 : v2 9 = .bool false := hv2 9 de
     simp only [e9]
     have hO := hG2.1
     clear HO
     have HO := hide hO
     clear hO hG2 hv2 hne2
     try clear e9
     go_upto_region 8 with fail
     refine Rg.bg 1 30 (Rg.pick [Rg.ai (.int .i64 0)]) (az w _ V2) dm [] kr rfl (Rg.df.pick ⟨Rg.ae _, trivial⟩) (az.begin (aa HO))
      (ag (ib rfl (Rg.jc _))
      Rg.bf) ?_
     intro v3 V3 hG3 hv3 ja
     simp only [Rg.puts, Act.put, tA]
     have e0 : v3 0 = .int .i64 0 := hv3 0 de
     simp only [e0]
     have hO := hG3.1
     clear HO
     have HO := hide hO
     clear hO hG3 hv3 ja
     try clear e0
     go_wp2_with fail
     exact yu Tryz.results31 rfl (aa HO).bel rfl
   ·
    have k2 : decide (Wd.qy n d) = false := decide_eq_false g2
    have hv : v = 1 := by rw [aa HV]; exact if_neg (fun h => g2 h.2.1)
    subst hv
    clear HV
    go_upto_region 6 with fail
    refine Rg.bg 10 30 (Rg.pick [Rg.ai (.pointer (some ⟨w.heap.size, 7, none⟩)), au [iv n, iv d], Rg.ai (.bool false), Rg.ai (.bool true), Rg.ai (.bool true), Rg.ai undef, Rg.ai undef, Rg.ai undef, Rg.ai undef, Rg.ai (.bool true)]) (az w _ V1) dm [] kr rfl (Rg.df.pick ⟨Rg.ae _, ay _, Rg.ae _, Rg.ae _, Rg.ae _, Rg.ae _, Rg.ae _, Rg.ae _, Rg.ae _, Rg.ae _, trivial⟩) (az.begin (aa HO))
     (ag (vo (b := w.heap.size) (off := 0) rfl aF rfl rfl)
     (ag (fw qi me0 (aT 0) [.k (eK f)] [iv n, iv d] [])
     (ag (sc1 Tryz.func70 (aT 1) (fun W v0 hG h0 => k2 ▸ Xi h0))
     (ag (uf rfl (aT 2) rfl rfl)
     (ag (cz rfl (aT 3))
     (Rg.cu (Rg.ny (d := 24) rfl kr rfl rfl nz rfl rfl)
     (Rg.cu (Rg.ny (d := 24) rfl kr rfl rfl nz rfl rfl)
     (Rg.cu (Rg.ny (d := 24) rfl kr rfl rfl nz rfl rfl)
     (Rg.cu (Rg.ny (d := 24) rfl kr rfl rfl nz rfl rfl)
     (ag (xz rfl (aT 4) (Rg.jc _))
     Rg.bf)))))))))) ?_
    intro v2 V2 hG2 hv2 hne2
    simp only [Rg.puts, Act.put, tA]
    have e9 : v2 9 = .bool true := hv2 9 de
    simp only [e9]
    have hO := hG2.1
    clear HO
    have HO := hide hO
    clear hO hG2 hv2 hne2
    try clear e9
    go_upto_region 7 with fail
    refine Rg.bg 1 30 (Rg.pick [Rg.ai (.int .i64 1)]) (az w _ V2) dm [] kr rfl (Rg.df.pick ⟨Rg.ae _, trivial⟩) (az.begin (aa HO))
     (ag (ib rfl (Rg.jc _))
     Rg.bf) ?_
    intro v3 V3 hG3 hv3 ja
    simp only [Rg.puts, Act.put, tA]
    have e0 : v3 0 = .int .i64 1 := hv3 0 de
    simp only [e0]
    have hO := hG3.1
    clear HO
    have HO := hide hO
    clear hO hG3 hv3 ja
    try clear e0
    go_wp2_with fail
    exact yu Tryz.results31 rfl (aa HO).bel rfl
theorem Ut {f : Nat → Int} {n d : Int} (ok : Wd.qy n d) (w : World) (u0 : Value) (h0 : au [.k (eK f), iv n, iv d] w u0) : Calls Tryz.prog 100 #[u0] w (ik (au [.k (eK f), .r (Wd.qR n d)]) w) := by
 have rf := hide ok
 clear ok
 have hu0 := pg h0
 subst hu0
 go_enter Tryz.func100, Tryz.ntmps100
 go_upto_region 1 with fail
 have hO := (Own.push (T := 113) (ls := zV) (Own.push (T := 44) (ls := [.k (eK f), iv n, iv d]) (Own.nil w) (eu.e (eu.v (iw _) (eu.v (iw _) rfl))) (w.heap.size) rfl) (eu.below (by repeat (first | exact Below.refl _ _ | refine gm ?_ _)) (eu.vs w [.int .i64 0, .int .i64 0, .int .i64 0, .int .i64 0, .int .i64 0, .int .i64 0, .int .i64 0, .slice none 0 0, .bool false, .slice none 0 0, .bool false] rfl)) (w.heap.size + 1) (by simp only [World.size_alloc]))
 generalize (w.alloc (.cells #[.int .i64 (f 0), .int .i64 (f 1), .int .i64 (f 2), .int .i64 (f 3), .int .i64 (f 4), .int .i64 (f 5), .int .i64 (f 6), .int .i64 n, .int .i64 d] 44)).alloc (.cells #[.int .i64 0, .int .i64 0, .int .i64 0, .int .i64 0, .int .i64 0, .int .i64 0, .int .i64 0, .slice none 0 0, .bool false, .slice none 0 0, .bool false] 113) = W0 at *
 have HO := hide hO
 clear hO
 go_upto_region 1 with fail
 refine Rg.region 6 9 (Rg.pick [Rg.ai (.pointer (some ⟨w.heap.size, 0, none⟩)), au [.k (eK f)], Rg.ai (.pointer (some ⟨w.heap.size, 7, none⟩)), au [iv n, iv d], au [.r (Wd.qR n d)], au [.k (eK f), .r (Wd.qR n d)]]) (az w _ W0) dm [] kr kr rfl (Rg.df.pick ⟨Rg.ae _, ay _, Rg.ae _, ay _, ay _, ay _, trivial⟩) (az.start (aa HO))
  (ag (sw (b := w.heap.size) (off := 0) rfl aF rfl rfl)
  (ag (fw xw mf (aT 0) [] [.k (eK f)] [iv n, iv d])
  (ag (vo (b := w.heap.size) (off := 0) rfl aF rfl rfl)
  (ag (fw qi mf (aT 2) [.k (eK f)] [iv n, iv d] [])
  (ag (sc1 Tryz.func58 (aT 3) (fun W v0 hG h0 => alo (aa rf) h0))
  (ag (Bv bau rfl (aT 1) (aT 4) rfl rfl rfl)
  Rg.bf)))))) ?_
 intro v1 V1 hG1 hv1 hne1
 simp only [Rg.puts, Act.put, tA]
 have hO := hG1.1
 refine ji hO 0 [] zV [.k (eK f), .r (Wd.qR n d)] [] rfl aaw rfl (show au [.k (eK f), .r (Wd.qR n d)] V1 (v1 5) from hv1 5 de) rfl rfl rfl ?_
 intro ui fu hk0
 replace hO := fu
 clear fu
 clear HO
 have HO := hide hO
 clear hO hG1 hv1 hne1 hk0
 go_wp2_with fail
 exact Am Tryz.results100 abf rfl (aa HO) me0 rfl rfl
theorem Rc {f g h pp : Nat → Int} {x y y2 a : Rat} {m : Int} (w : World) (u0 : Value) (h0 : au [.k (eK f), .r x] w u0) (u1 : Value) (h1 : au [.k (eK g), .r y] w u1) (hh : (∀ j, j < 7 → wrap64 (m * g j) = pp j) ∧ (∀ j, j < 7 → wrap64 (f j + pp j) = h j))
  (hp : ∀ W v0, Below w.heap.size w W → au [.r y] W v0 → Calls Tryz.prog 71 #[v0, .int .i64 m] W (ik (au [.r y2]) W))
  (hq : ∀ W v0 v1, Below w.heap.size w W → au [.r x] W v0 → au [.r y2] W v1 → Calls Tryz.prog 62 #[v0, v1] W (ik (au [.r a]) W)) :
  Calls Tryz.prog 101 #[u0, u1, .int .i64 m] w (ik (au [.k (eK h), .r a]) w) := by
 have HH := hide hh
 have HP := hide hp
 have HQ := hide hq
 clear hh hp hq
 obtain ⟨Bd, c0a, Az, Pt, B0a, Zz, Zh, Cq, rfl, f0a⟩ := abq h0
 obtain ⟨Ct, c1a, Cr, Od, B1a, d1a, k1a, Uc, rfl, f1a⟩ := abq h1
 go_enter Tryz.func101, Tryz.ntmps101
 go_upto_region 1 with fail
 have hO := (Own.push (T := 113) (ls := zV) (Own.push (T := 113) (ls := [.k (eK g), .r y]) (Own.push (T := 113) (ls := [.k (eK f), .r x]) (Own.nil w) (eu.e (eu.r f0a rfl)) (w.heap.size) rfl) (eu.below (by repeat (first | exact Below.refl _ _ | refine gm ?_ _)) (eu.e (eu.r f1a rfl))) (w.heap.size + 1) (by simp only [World.size_alloc])) (eu.below (by repeat (first | exact Below.refl _ _ | refine gm ?_ _)) (eu.vs w [.int .i64 0, .int .i64 0, .int .i64 0, .int .i64 0, .int .i64 0, .int .i64 0, .int .i64 0, .slice none 0 0, .bool false, .slice none 0 0, .bool false] rfl)) (w.heap.size + 2) (by simp only [World.size_alloc]))
 generalize ((w.alloc (.cells #[.int .i64 (f 0), .int .i64 (f 1), .int .i64 (f 2), .int .i64 (f 3), .int .i64 (f 4), .int .i64 (f 5), .int .i64 (f 6), .slice Bd (List.length Az) c0a, .bool Pt, .slice B0a (List.length Zh) Zz, .bool Cq] 113)).alloc (.cells #[.int .i64 (g 0), .int .i64 (g 1), .int .i64 (g 2), .int .i64 (g 3), .int .i64 (g 4), .int .i64 (g 5), .int .i64 (g 6), .slice Ct (List.length Cr) c1a, .bool Od, .slice B1a (List.length k1a) d1a, .bool Uc] 113)).alloc (.cells #[.int .i64 0, .int .i64 0, .int .i64 0, .int .i64 0, .int .i64 0, .int .i64 0, .int .i64 0, .slice none 0 0, .bool false, .slice none 0 0, .bool false] 113) = W0 at *
 have HO := hide hO
 clear hO
 go_upto_region 1 with fail
 refine Rg.bg 1 34 (Rg.pick [Rg.ai (.int .i64 0)]) (az w _ W0) dm [] kr rfl (Rg.df.pick ⟨Rg.ae _, trivial⟩) (az.begin (aa HO))
  (ag (ib rfl (Rg.jc _))
  Rg.bf) ?_
 intro v1 V1 hG1 hv1 hne1
 simp only [Rg.puts, Act.put, tA]
 have e0 : v1 0 = .int .i64 0 := hv1 0 de
 simp only [e0]
 have hO := hG1.1
 clear HO
 have HO := hide hO
 clear hO hG1 hv1 hne1
 try clear e0
 go_wp2_with fail
 go_loopw [7] (fun vk wr => ∃ k : Nat, k ≤ 7 ∧ vk = .int .i64 ((k : Nat) : Int) ∧ Hid (Own w [(w.heap.size + 2, 113, zV), (w.heap.size + 1, 113, [.k (eK g), .r y]), (w.heap.size, 113, [.k (eK (Dw f h k)), .r x])] wr)) (fun vk _ => 7 - (intOf vk).toNat)
 case atStart => exact ⟨0, by omega, rfl, by rw [Td]; exact HO⟩
 case round =>
  obtain ⟨k, hk, rfl, HO⟩ := hrel
  have HK := hide hk
  clear hk
  by_cases g1 : k < 7
  ·
   have d1 : decide ((k : Int) < 7) = true := decide_eq_true om
   have uk := hide g1
   clear g1
   go_upto_region 2 with fail
   refine Rg.bg 2 34 (Rg.pick [Rg.ai (.int .i64 (k : Int)), Rg.ai (.bool true)]) (az w _ wr) dm [] kr rfl (Rg.df.pick ⟨Rg.ae _, Rg.ae _, trivial⟩) (az.begin (aa HO))
    (ag (cz rfl aF)
    (ag (ry rfl (aT 0) (Rg.jc _) rfl d1)
    Rg.bf)) ?_
   intro v2 V2 hG2 hv2 hne2
   simp only [Rg.puts, Act.put, tA]
   have e1 : v2 1 = .bool true := hv2 1 de
   simp only [e1]
   have hO := hG2.1
   clear HO
   have HO := hide hO
   clear hO hG2 hv2 hne2
   try clear e1
   clear d1
   go_upto_region 4 with fail
   refine Rg.region 13 34 (Rg.pick [Rg.ai (.int .i64 (k : Int)), Rg.ai (.pointer (some ⟨w.heap.size, 0, none⟩)), Rg.ai (.pointer (some ⟨w.heap.size, k, none⟩)), Rg.ai (.int .i64 (f k)), Rg.ai (.int .i64 m), Rg.ai (.int .i64 (k : Int)), Rg.ai (.pointer (some ⟨w.heap.size + 1, 0, none⟩)), Rg.ai (.pointer (some ⟨w.heap.size + 1, k, none⟩)), Rg.ai (.int .i64 (g k)), Rg.ai (.int .i64 (pp k)), Rg.ai (.int .i64 (h k)), Rg.ai (.pointer (some ⟨w.heap.size, 0, none⟩)), Rg.ai (.pointer (some ⟨w.heap.size, k, none⟩))]) (az w _ V2) dm [] kr kr rfl (Rg.df.pick ⟨Rg.ae _, Rg.ae _, Rg.ae _, Rg.ae _, Rg.ae _, Rg.ae _, Rg.ae _, Rg.ae _, Rg.ae _, Rg.ae _, Rg.ae _, Rg.ae _, Rg.ae _, trivial⟩) (az.start (aa HO))
    (ag (cz rfl aF)
    (ag (Hy (b := w.heap.size) (off := 0) rfl aF rfl rfl)
    (ag (Ed (b := w.heap.size) (k := k) rfl (aT 1) (aT 0) (aa uk) rfl)
    (ag (Lr (f := (Dw f h k)) ru rfl (aT 2) (aa uk) (aat f h k) rfl)
    (ag (cz rfl aF)
    (ag (cz rfl aF)
    (ag (Hy (b := w.heap.size + 1) (off := 0) rfl aF rfl rfl)
    (ag (Ed (b := w.heap.size + 1) (k := k) rfl (aT 6) (aT 5) (aa uk) rfl)
    (ag (Lr (f := g) mf rfl (aT 7) (aa uk) rfl rfl)
    (ag (aoq rfl (aT 4) (aT 8) ((aa HH).1 k (aa uk)) rfl)
    (ag (aov rfl (aT 3) (aT 9) ((aa HH).2 k (aa uk)) rfl)
    (ag (Hy (b := w.heap.size) (off := 0) rfl aF rfl rfl)
    (ag (Ed (b := w.heap.size) (k := k) rfl (aT 11) (aT 0) (aa uk) rfl)
    Rg.bf))))))))))))) ?_
   intro v3 V3 hG3 hv3 ja
   simp only [Rg.puts, Act.put, tA]
   have e10 : v3 10 = .int .i64 (h k) := hv3 10 de
   have e12 : v3 12 = .pointer (some ⟨w.heap.size, k, none⟩) := hv3 12 de
   simp only [e10, e12]
   have hO := hG3.1
   refine aee (f := (Dw f h k)) (g := (Dw f h (k + 1))) (k := k) (v := (h k)) hO 2 [.r x] rfl (aa uk) rfl rfl (Te f h k) ?_
   intro Bi fu hk0
   replace hO := fu
   clear fu
   clear HO
   have HO := hide hO
   clear hO hG3 hv3 ja hk0
   try clear e10 e12
   go_wp2_with fail
   go_roundw
   case rel =>
    exact ⟨k + 1, by have := aa uk; omega, Np (aa uk) om, HO⟩
   case measure =>
    have h1 := aa uk
    clear HO
    rw [Lp h1 om]
    exact measS h1
  ·
   obtain rfl : k = 7 := by have := aa HK; omega
   clear g1
   rw [Wx] at HO
   go_upto_region 2 with fail
   refine Rg.bg 2 34 (Rg.pick [Rg.ai (.int .i64 ((7 : Nat) : Int)), Rg.ai (.bool false)]) (az w _ wr) dm [] kr rfl (Rg.df.pick ⟨Rg.ae _, Rg.ae _, trivial⟩) (az.begin (aa HO))
    (ag (cz rfl aF)
    (ag (ry rfl (aT 0) (Rg.jc _) rfl rfl)
    Rg.bf)) ?_
   intro v2 V2 hG2 hv2 hne2
   simp only [Rg.puts, Act.put, tA]
   have e1 : v2 1 = .bool false := hv2 1 de
   simp only [e1]
   have hO := hG2.1
   clear HO
   have HO := hide hO
   clear hO hG2 hv2 hne2
   try clear e1
   go_upto_region 5 with fail
   refine Rg.region 8 34 (Rg.pick [Rg.ai (.pointer (some ⟨w.heap.size, 7, none⟩)), au [.r x], Rg.ai (.pointer (some ⟨w.heap.size + 1, 7, none⟩)), au [.r y], Rg.ai (.int .i64 m), au [.r y2], au [.r a], Rg.ai (.pointer (some ⟨w.heap.size, 7, none⟩))]) (az w _ V2) dm [] kr kr rfl (Rg.df.pick ⟨Rg.ae _, ay _, Rg.ae _, ay _, Rg.ae _, ay _, ay _, Rg.ae _, trivial⟩) (az.start (aa HO))
    (ag (Hw (b := w.heap.size) (off := 0) rfl aF rfl rfl)
    (ag (fw Bw ru (aT 0) [.k (eK h)] [.r x] [])
    (ag (Hw (b := w.heap.size + 1) (off := 0) rfl aF rfl rfl)
    (ag (fw Bw mf (aT 2) [.k (eK g)] [.r y] [])
    (ag (cz rfl aF)
    (ag (sc2 Tryz.func71 (aT 3) (aT 4) (fun W v0 v1 hG h0 h1 => by cases h1; exact aa HP W v0 hG.bel h0))
    (ag (sc2 Tryz.func62 (aT 1) (aT 5) (fun W v0 v1 hG h0 h1 => aa HQ W v0 v1 hG.bel h0 h1))
    (ag (Hw (b := w.heap.size) (off := 0) rfl aF rfl rfl)
    Rg.bf)))))))) ?_
   intro v3 V3 hG3 hv3 ja
   simp only [Rg.puts, Act.put, tA]
   have e7 : v3 7 = .pointer (some ⟨w.heap.size, 7, none⟩) := hv3 7 de
   simp only [e7]
   have hO := hG3.1
   refine ji hO 2 [.k (eK h)] [.r x] [.r a] [] rfl Gd rfl (show au [.r a] V3 (v3 6) from hv3 6 de) rfl rfl rfl ?_
   intro Bi fu hk0
   replace hO := fu
   clear fu
   clear HO
   have HO := hide hO
   clear hO hG3 hv3 ja hk0
   try clear e7
   go_upto_region 6 with fail
   refine Rg.bg 1 34 (Rg.pick [au [.k (eK h), .r a]]) (az w _ Bi) dm [] kr rfl (Rg.df.pick ⟨ay _, trivial⟩) (az.begin (aa HO))
    (ag (fw bdb ru aF [] [.k (eK h), .r a] [])
    Rg.bf) ?_
   intro v4 V4 hG4 hv4 mo
   simp only [Rg.puts, Act.put, tA]
   have hO := hG4.1
   refine ji hO 0 [] zV [.k (eK h), .r a] [] rfl aaw rfl (show au [.k (eK h), .r a] V4 (v4 0) from hv4 0 de) rfl rfl rfl ?_
   intro Ai fu hk0
   replace hO := fu
   clear fu
   clear HO
   have HO := hide hO
   clear hO hG4 hv4 mo hk0
   go_wp2_with fail
   exact Am Tryz.results101 abf rfl (aa HO) me0 rfl rfl
theorem bcl {ρ : Operand → Value} {w : World} {d : Option Tmp} {x : Operand} {u0 u1 u2 u3 : Value} {ty : TypeId} {pos : String} {af : Array Edge} {gd : Option (Nat × Bool)} (h : ρ x = .agg #[u0, u1, u2, u3]) :
  (execOp ρ { dst := d, op := .build 113 #[(1, x)], type := ty, pos := pos, after := af, guard := gd }).run Tryz.prog w = .ok (.value (.agg #[.int .i64 0, .int .i64 0, .int .i64 0, .int .i64 0, .int .i64 0, .int .i64 0, .int .i64 0, u0, u1, u2, u3])) w := by
 simp only [execOp]
 simp [go_sem, h]
 try rfl
theorem bli {Q : Exit → Act → World → Prop} {l : List Oper} {n : Nat} {T : Nat → World → Value → Prop} {G : World → Prop} {al : List Nat} {a0 : Act} {k d : Nat} {ty : TypeId} {pos : String} {af : Array Edge} {gd : Option (Nat × Bool)} {x : Operand} {q : Rat} (hal : al.contains k = false) (hx : Rg.iq l n T a0 k x (au [.r q])) (hT : T k = au [.k (eK z7), .r q]) :
  Rg.Step Tryz.prog Q l n T G dm al a0 k { dst := some d, op := .build 113 #[(1, x)], type := ty, pos := pos, after := af, guard := gd } := by
 intro a w hG hO hN
 obtain ⟨A1, c1, l1, m1, A2, c2, l2, m2, e1, g1⟩ := Ou (hx a w hO hN)
 have hr := bcl (w := w) (d := some d) (ty := ty) (pos := pos) (af := af) (gd := gd) e1
 exact jm (P := Tryz.prog) hr ⟨_, rfl, hG, Below.refl _ _, by rw [hT]; exact ⟨_, rfl, eu.e (f := z7) (eu.r g1 rfl)⟩, fun h => by rw [hal] at h; cases h⟩
theorem bfj (w : World) : Calls Tryz.prog 106 #[] w (ik (au [.k (eK z7), .r (Rat.divInt 1 1)]) w) := by
 go_enter Tryz.func106, Tryz.ntmps106
 go_upto_region 1 with fail
 have hO := (Own.push (T := 113) (ls := zV) (Own.nil w) (eu.vs w [.int .i64 0, .int .i64 0, .int .i64 0, .int .i64 0, .int .i64 0, .int .i64 0, .int .i64 0, .slice none 0 0, .bool false, .slice none 0 0, .bool false] rfl) (w.heap.size) rfl)
 generalize w.alloc (.cells #[.int .i64 0, .int .i64 0, .int .i64 0, .int .i64 0, .int .i64 0, .int .i64 0, .int .i64 0, .slice none 0 0, .bool false, .slice none 0 0, .bool false] 113) = W0 at *
 have HO := hide hO
 clear hO
 go_upto_region 1 with fail
 refine Rg.bg 2 3 (Rg.pick [au [.r (Rat.divInt 1 1)], au [.k (eK z7), .r (Rat.divInt 1 1)]]) (az w _ W0) dm [] kr rfl (Rg.df.pick ⟨ay _, ay _, trivial⟩) (az.begin (aa HO))
  (ag (sc1 Tryz.func95 (Rg.jc _) (fun W v0 hG h0 => by cases h0; exact awx 1 om om W))
  (ag (bli rfl (aT 0) rfl)
  Rg.bf)) ?_
 intro v1 V1 hG1 hv1 hne1
 simp only [Rg.puts, Act.put, tA]
 have hO := hG1.1
 refine ji hO 0 [] zV [.k (eK z7), .r (Rat.divInt 1 1)] [] rfl aaw rfl (show au [.k (eK z7), .r (Rat.divInt 1 1)] V1 (v1 1) from hv1 1 de) rfl rfl rfl ?_
 intro ui fu hk0
 replace hO := fu
 clear fu
 clear HO
 have HO := hide hO
 clear hO hG1 hv1 hne1 hk0
 go_wp2_with fail
 exact Am Tryz.results106 abf rfl (aa HO) me0 rfl rfl
theorem aqu {f : Nat → Int} {x : Rat} (t : Sd) (w : World) (u0 : Value) (h0 : au [.k (eK f), .r x] w u0)
  (hr : (¬ Wd.fits x → t = ⟨z7, 0, 0, 3⟩) ∧ (Wd.fits x → qf f x.num (x.den : Int) → t = ⟨f, x.num, x.den, 0⟩) ∧ (Wd.fits x → ¬ qf f x.num (x.den : Int) → t = ⟨z7, 0, 0, 3⟩)) :
  Calls Tryz.prog 102 #[u0] w (ik (Kv t) w) := by
 have HR := hide hr
 clear hr
 obtain ⟨Bd, c0a, Az, Pt, B0a, Zz, Zh, Cq, rfl, f0a⟩ := abq h0
 go_enter Tryz.func102, Tryz.ntmps102
 go_upto_region 1 with fail
 have hO := (Own.push (T := 44) (ls := zU) (Own.push (T := 113) (ls := [.k (eK f), .r x]) (Own.nil w) (eu.e (eu.r f0a rfl)) (w.heap.size) rfl) (eu.below (by repeat (first | exact Below.refl _ _ | refine gm ?_ _)) (eu.vs w [.int .i64 0, .int .i64 0, .int .i64 0, .int .i64 0, .int .i64 0, .int .i64 0, .int .i64 0, .int .i64 0, .int .i64 0] rfl)) (w.heap.size + 1) (by simp only [World.size_alloc]))
 generalize (w.alloc (.cells #[.int .i64 (f 0), .int .i64 (f 1), .int .i64 (f 2), .int .i64 (f 3), .int .i64 (f 4), .int .i64 (f 5), .int .i64 (f 6), .slice Bd (List.length Az) c0a, .bool Pt, .slice B0a (List.length Zh) Zz, .bool Cq] 113)).alloc (.cells #[.int .i64 0, .int .i64 0, .int .i64 0, .int .i64 0, .int .i64 0, .int .i64 0, .int .i64 0, .int .i64 0, .int .i64 0] 44) = W0 at *
 have HO := hide hO
 clear hO
 by_cases g0 : Wd.fits x
 ·
  by_cases g1 : qf f x.num (x.den : Int)
  ·
   have k1 : xy f x.num (x.den : Int) = 0 := if_pos g1
   have hr : t = ⟨f, x.num, x.den, 0⟩ := (aa HR).2.1 g0 g1
   subst hr
   clear HR
   have HF := hide g0
   clear g0
   go_upto_region 1 with fail
   refine Rg.bg 7 26 (Rg.pick [Rg.ai (.pointer (some ⟨w.heap.size, 7, none⟩)), au [.r x], jk [au [iv x.num, iv (x.den : Int)], Rg.ai (.bool true)], jk [au [iv x.num, iv (x.den : Int)], Rg.ai (.bool true)], au [iv x.num, iv (x.den : Int)], Rg.ai (.bool true), nk 23 zR W0.heap.size]) (az w _ W0) dm [6] kr rfl (Rg.df.pick ⟨Rg.ae _, ay _, il ⟨(ay _), (Rg.ae _), trivial⟩, il ⟨(ay _), (Rg.ae _), trivial⟩, ay _, Rg.ae _, og _ _ _, trivial⟩) (az.begin (aa HO))
    (ag (Hw (b := w.heap.size) (off := 0) rfl aF rfl rfl)
    (ag (fw Bw mf (aT 0) [.k (eK f)] [.r x] [])
    (ag (sc1 Tryz.func125 (aT 1) (fun W v0 hG h0 => Xh (aa HF) h0))
    (ag (cz rfl (aT 2))
    (ag (iy (ts := [au [iv x.num, iv (x.den : Int)], Rg.ai (.bool true)]) rfl (aT 3) (of_decide_eq_true rfl) rfl)
    (ag (iy (ts := [au [iv x.num, iv (x.den : Int)], Rg.ai (.bool true)]) rfl (aT 3) (of_decide_eq_true rfl) rfl)
    (ag (qd Gy rfl az.step az.size rfl (rq (by intro j hj; simp at hj; (repeat' (first | (rcases hj with rfl | hj))) <;> first | (subst hj; exact ⟨_, _, _, rfl⟩) | exact ⟨_, _, _, rfl⟩)))
    Rg.bf))))))) ?_
   intro v1 V1 hG1 hv1 hne1
   simp only [Rg.puts, Act.put, tA]
   have e5 : v1 5 = .bool true := hv1 5 de
   obtain ⟨abo, e6, yg, Bo⟩ := (show nk 23 zR W0.heap.size V1 (v1 6) from hv1 6 de)
   simp only [e5, e6]
   have hO := hG1.1
   replace hO := Own.add (aa HO) hG1.2 yg Bo
   clear yg Bo
   refine ji hO 0 [] zR [iv x.num, iv (x.den : Int)] [] rfl uq rfl (show au [iv x.num, iv (x.den : Int)] V1 (v1 4) from hv1 4 de) rfl rfl rfl ?_
   intro ui fu hk0
   replace hO := fu
   clear fu
   clear HO
   have HO := hide hO
   clear hO hG1 hv1 hne1 hk0
   try clear e5 e6
   go_upto_region 2 with fail
   refine Rg.bg 5 26 (Rg.pick [Rg.ai (.pointer (some ⟨w.heap.size, 0, none⟩)), au [.k (eK f)], au [iv x.num, iv (x.den : Int)], au [.k (eK f), iv x.num, iv (x.den : Int)], nk 44 zU ui.heap.size]) (az w _ ui) dm [4] kr rfl (Rg.df.pick ⟨Rg.ae _, ay _, ay _, ay _, og _ _ _, trivial⟩) (az.begin (aa HO))
    (ag (Hy (b := w.heap.size) (off := 0) rfl aF rfl rfl)
    (ag (fw xw ru (aT 0) [] [.k (eK f)] [.r x])
    (ag (fw qi me0 aF [] [iv x.num, iv (x.den : Int)] [])
    (ag (Bv Qb rfl (aT 1) (aT 2) rfl rfl rfl)
    (ag (qd Jy rfl az.step az.size rfl (rq (by intro j hj; simp at hj; (repeat' (first | (rcases hj with rfl | hj))) <;> first | (subst hj; exact ⟨_, _, _, rfl⟩) | exact ⟨_, _, _, rfl⟩)))
    Rg.bf))))) ?_
   intro v2 V2 hG2 hv2 hne2
   simp only [Rg.puts, Act.put, tA]
   obtain ⟨awc, e4, hge4, Kn⟩ := (show nk 44 zU ui.heap.size V2 (v2 4) from hv2 4 de)
   simp only [e4]
   have hO := hG2.1
   replace hO := Own.add (aa HO) hG2.2 hge4 Kn
   clear hge4 Kn
   refine ji hO 0 [] zU [.k (eK f), iv x.num, iv (x.den : Int)] [] rfl oo rfl (show au [.k (eK f), iv x.num, iv (x.den : Int)] V2 (v2 3) from hv2 3 de) rfl rfl rfl ?_
   intro Cc fu hk0
   replace hO := fu
   clear fu
   clear HO
   have HO := hide hO
   clear hO hG2 hv2 hne2 hk0
   try clear e4
   go_upto_region 3 with fail
   refine Rg.bg 7 26 (Rg.pick [Rg.ai (.bool true), Rg.ai (.bool false), Rg.ai (.bool false), au [.k (eK f), iv x.num, iv (x.den : Int)], Rg.ai (.int .i64 0), Rg.ai (.bool false), Rg.ai (.bool false)]) (az w _ Cc) dm [] kr rfl (Rg.df.pick ⟨Rg.ae _, Rg.ae _, Rg.ae _, ay _, Rg.ae _, Rg.ae _, Rg.ae _, trivial⟩) (az.begin (aa HO))
    (ag (cz rfl aF)
    (ag (uf rfl (aT 0) rfl rfl)
    (ag (cz rfl (aT 1))
    (Rg.cu (Rg.ek (d := 19) rfl kr rfl (fw jb me0 aF [] [.k (eK f), iv x.num, iv (x.den : Int)] []))
    (Rg.cu (Rg.ek (d := 19) rfl kr rfl (Bt Tryz.func31 kr rfl az.step (aT 3) (fun W v0 hG h0 => k1 ▸ Dg W _ h0)))
    (Rg.cu (Rg.ek (d := 19) rfl kr rfl (mq rfl (aT 4) (Rg.jc _) rfl rfl))
    (ag (qb rfl (aT 2) (aT 5))
    Rg.bf))))))) ?_
   intro v3 V3 hG3 hv3 ja
   simp only [Rg.puts, Act.put, tA]
   have e6 : v3 6 = .bool false := hv3 6 de
   simp only [e6]
   have hO := hG3.1
   clear HO
   have HO := hide hO
   clear hO hG3 hv3 ja
   try clear e6
   go_upto_region 5 with fail
   refine Rg.bg 1 26 (Rg.pick [au [.k (eK f), iv x.num, iv (x.den : Int)]]) (az w _ V3) dm [] kr rfl (Rg.df.pick ⟨ay _, trivial⟩) (az.begin (aa HO))
    (ag (fw jb me0 aF [] [.k (eK f), iv x.num, iv (x.den : Int)] [])
    Rg.bf) ?_
   intro v4 V4 hG4 hv4 mo
   simp only [Rg.puts, Act.put, tA]
   have hO := hG4.1
   refine ji hO 2 [] zU [.k (eK f), iv x.num, iv (x.den : Int)] [] rfl oo rfl (show au [.k (eK f), iv x.num, iv (x.den : Int)] V4 (v4 0) from hv4 0 de) rfl rfl rfl ?_
   intro Ai fu hk0
   replace hO := fu
   clear fu
   clear HO
   have HO := hide hO
   clear hO hG4 hv4 mo hk0
   go_wp2_with fail
   exact oz Tryz.results102 uh rfl rfl (aa HO) ru rfl rfl
  ·
   have k1 : xy f x.num (x.den : Int) = 1 := if_neg g1
   have hr : t = ⟨z7, 0, 0, 3⟩ := (aa HR).2.2 g0 g1
   subst hr
   clear HR
   have HF := hide g0
   clear g0
   go_upto_region 1 with fail
   refine Rg.bg 7 26 (Rg.pick [Rg.ai (.pointer (some ⟨w.heap.size, 7, none⟩)), au [.r x], jk [au [iv x.num, iv (x.den : Int)], Rg.ai (.bool true)], jk [au [iv x.num, iv (x.den : Int)], Rg.ai (.bool true)], au [iv x.num, iv (x.den : Int)], Rg.ai (.bool true), nk 23 zR W0.heap.size]) (az w _ W0) dm [6] kr rfl (Rg.df.pick ⟨Rg.ae _, ay _, il ⟨(ay _), (Rg.ae _), trivial⟩, il ⟨(ay _), (Rg.ae _), trivial⟩, ay _, Rg.ae _, og _ _ _, trivial⟩) (az.begin (aa HO))
    (ag (Hw (b := w.heap.size) (off := 0) rfl aF rfl rfl)
    (ag (fw Bw mf (aT 0) [.k (eK f)] [.r x] [])
    (ag (sc1 Tryz.func125 (aT 1) (fun W v0 hG h0 => Xh (aa HF) h0))
    (ag (cz rfl (aT 2))
    (ag (iy (ts := [au [iv x.num, iv (x.den : Int)], Rg.ai (.bool true)]) rfl (aT 3) (of_decide_eq_true rfl) rfl)
    (ag (iy (ts := [au [iv x.num, iv (x.den : Int)], Rg.ai (.bool true)]) rfl (aT 3) (of_decide_eq_true rfl) rfl)
    (ag (qd Gy rfl az.step az.size rfl (rq (by intro j hj; simp at hj; (repeat' (first | (rcases hj with rfl | hj))) <;> first | (subst hj; exact ⟨_, _, _, rfl⟩) | exact ⟨_, _, _, rfl⟩)))
    Rg.bf))))))) ?_
   intro v1 V1 hG1 hv1 hne1
   simp only [Rg.puts, Act.put, tA]
   have e5 : v1 5 = .bool true := hv1 5 de
   obtain ⟨abo, e6, yg, Bo⟩ := (show nk 23 zR W0.heap.size V1 (v1 6) from hv1 6 de)
   simp only [e5, e6]
   have hO := hG1.1
   replace hO := Own.add (aa HO) hG1.2 yg Bo
   clear yg Bo
   refine ji hO 0 [] zR [iv x.num, iv (x.den : Int)] [] rfl uq rfl (show au [iv x.num, iv (x.den : Int)] V1 (v1 4) from hv1 4 de) rfl rfl rfl ?_
   intro ui fu hk0
   replace hO := fu
   clear fu
   clear HO
   have HO := hide hO
   clear hO hG1 hv1 hne1 hk0
   try clear e5 e6
   go_upto_region 2 with fail
   refine Rg.bg 5 26 (Rg.pick [Rg.ai (.pointer (some ⟨w.heap.size, 0, none⟩)), au [.k (eK f)], au [iv x.num, iv (x.den : Int)], au [.k (eK f), iv x.num, iv (x.den : Int)], nk 44 zU ui.heap.size]) (az w _ ui) dm [4] kr rfl (Rg.df.pick ⟨Rg.ae _, ay _, ay _, ay _, og _ _ _, trivial⟩) (az.begin (aa HO))
    (ag (Hy (b := w.heap.size) (off := 0) rfl aF rfl rfl)
    (ag (fw xw ru (aT 0) [] [.k (eK f)] [.r x])
    (ag (fw qi me0 aF [] [iv x.num, iv (x.den : Int)] [])
    (ag (Bv Qb rfl (aT 1) (aT 2) rfl rfl rfl)
    (ag (qd Jy rfl az.step az.size rfl (rq (by intro j hj; simp at hj; (repeat' (first | (rcases hj with rfl | hj))) <;> first | (subst hj; exact ⟨_, _, _, rfl⟩) | exact ⟨_, _, _, rfl⟩)))
    Rg.bf))))) ?_
   intro v2 V2 hG2 hv2 hne2
   simp only [Rg.puts, Act.put, tA]
   obtain ⟨awc, e4, hge4, Kn⟩ := (show nk 44 zU ui.heap.size V2 (v2 4) from hv2 4 de)
   simp only [e4]
   have hO := hG2.1
   replace hO := Own.add (aa HO) hG2.2 hge4 Kn
   clear hge4 Kn
   refine ji hO 0 [] zU [.k (eK f), iv x.num, iv (x.den : Int)] [] rfl oo rfl (show au [.k (eK f), iv x.num, iv (x.den : Int)] V2 (v2 3) from hv2 3 de) rfl rfl rfl ?_
   intro Cc fu hk0
   replace hO := fu
   clear fu
   clear HO
   have HO := hide hO
   clear hO hG2 hv2 hne2 hk0
   try clear e4
   go_upto_region 3 with fail
   refine Rg.bg 7 26 (Rg.pick [Rg.ai (.bool true), Rg.ai (.bool false), Rg.ai (.bool false), au [.k (eK f), iv x.num, iv (x.den : Int)], Rg.ai (.int .i64 1), Rg.ai (.bool true), Rg.ai (.bool true)]) (az w _ Cc) dm [] kr rfl (Rg.df.pick ⟨Rg.ae _, Rg.ae _, Rg.ae _, ay _, Rg.ae _, Rg.ae _, Rg.ae _, trivial⟩) (az.begin (aa HO))
    (ag (cz rfl aF)
    (ag (uf rfl (aT 0) rfl rfl)
    (ag (cz rfl (aT 1))
    (Rg.cu (Rg.ek (d := 19) rfl kr rfl (fw jb me0 aF [] [.k (eK f), iv x.num, iv (x.den : Int)] []))
    (Rg.cu (Rg.ek (d := 19) rfl kr rfl (Bt Tryz.func31 kr rfl az.step (aT 3) (fun W v0 hG h0 => k1 ▸ Dg W _ h0)))
    (Rg.cu (Rg.ek (d := 19) rfl kr rfl (mq rfl (aT 4) (Rg.jc _) rfl rfl))
    (ag (qb rfl (aT 2) (aT 5))
    Rg.bf))))))) ?_
   intro v3 V3 hG3 hv3 ja
   simp only [Rg.puts, Act.put, tA]
   have e6 : v3 6 = .bool true := hv3 6 de
   simp only [e6]
   have hO := hG3.1
   clear HO
   have HO := hide hO
   clear hO hG3 hv3 ja
   try clear e6
   go_upto_region 4 with fail
   refine Rg.bg 1 26 (Rg.pick [au [.k (eK z7), iv 0, iv 0]]) (az w _ V3) dm [] kr rfl (Rg.df.pick ⟨ay _, trivial⟩) (az.begin (aa HO))
    (ag (Ik rfl rfl)
    Rg.bf) ?_
   intro v4 V4 hG4 hv4 mo
   simp only [Rg.puts, Act.put, tA]
   have hO := hG4.1
   refine ji hO 2 [] zU [.k (eK z7), iv 0, iv 0] [] rfl oo rfl (show au [.k (eK z7), iv 0, iv 0] V4 (v4 0) from hv4 0 de) rfl rfl rfl ?_
   intro Ai fu hk0
   replace hO := fu
   clear fu
   clear HO
   have HO := hide hO
   clear hO hG4 hv4 mo hk0
   go_wp2_with fail
   exact oz Tryz.results102 uh rfl rfl (aa HO) ru rfl rfl
 ·
  have hr : t = ⟨z7, 0, 0, 3⟩ := (aa HR).1 g0
  subst hr
  clear HR
  have HF := hide g0
  clear g0
  go_upto_region 1 with fail
  refine Rg.bg 7 26 (Rg.pick [Rg.ai (.pointer (some ⟨w.heap.size, 7, none⟩)), au [.r x], jk [Ja, Rg.ai (.bool false)], jk [Ja, Rg.ai (.bool false)], Ja, Rg.ai (.bool false), nk 23 zR W0.heap.size]) (az w _ W0) dm [6] kr rfl (Rg.df.pick ⟨Rg.ae _, ay _, il ⟨(Jg), (Rg.ae _), trivial⟩, il ⟨(Jg), (Rg.ae _), trivial⟩, Jg, Rg.ae _, og _ _ _, trivial⟩) (az.begin (aa HO))
   (ag (Hw (b := w.heap.size) (off := 0) rfl aF rfl rfl)
   (ag (fw Bw mf (aT 0) [.k (eK f)] [.r x] [])
   (ag (sc1 Tryz.func125 (aT 1) (fun W v0 hG h0 => aey (aa HF) h0))
   (ag (cz rfl (aT 2))
   (ag (iy (ts := [Ja, Rg.ai (.bool false)]) rfl (aT 3) (of_decide_eq_true rfl) rfl)
   (ag (iy (ts := [Ja, Rg.ai (.bool false)]) rfl (aT 3) (of_decide_eq_true rfl) rfl)
   (ag (qd Gy rfl az.step az.size rfl (rq (by intro j hj; simp at hj; (repeat' (first | (rcases hj with rfl | hj))) <;> first | (subst hj; exact ⟨_, _, _, rfl⟩) | exact ⟨_, _, _, rfl⟩)))
   Rg.bf))))))) ?_
  intro v1 V1 hG1 hv1 hne1
  simp only [Rg.puts, Act.put, tA]
  have e5 : v1 5 = .bool false := hv1 5 de
  obtain ⟨abo, e6, yg, Bo⟩ := (show nk 23 zR W0.heap.size V1 (v1 6) from hv1 6 de)
  simp only [e5, e6]
  have hO := hG1.1
  replace hO := Own.add (aa HO) hG1.2 yg Bo
  clear yg Bo
  obtain ⟨Qn, Qo, hy4⟩ := (show Ja V1 (v1 4) from hv1 4 de)
  refine ji hO 0 [] zR [iv Qn, iv Qo] [] rfl uq rfl (show au [iv Qn, iv Qo] V1 (v1 4) from hy4) rfl rfl rfl ?_
  intro ui fu hk0
  replace hO := fu
  clear fu
  clear HO
  have HO := hide hO
  clear hO hG1 hv1 hne1 hk0
  try clear e5 e6
  go_upto_region 2 with fail
  refine Rg.bg 5 26 (Rg.pick [Rg.ai (.pointer (some ⟨w.heap.size, 0, none⟩)), au [.k (eK f)], au [iv Qn, iv Qo], au [.k (eK f), iv Qn, iv Qo], nk 44 zU ui.heap.size]) (az w _ ui) dm [4] kr rfl (Rg.df.pick ⟨Rg.ae _, ay _, ay _, ay _, og _ _ _, trivial⟩) (az.begin (aa HO))
   (ag (Hy (b := w.heap.size) (off := 0) rfl aF rfl rfl)
   (ag (fw xw ru (aT 0) [] [.k (eK f)] [.r x])
   (ag (fw qi me0 aF [] [iv Qn, iv Qo] [])
   (ag (Bv Qb rfl (aT 1) (aT 2) rfl rfl rfl)
   (ag (qd Jy rfl az.step az.size rfl (rq (by intro j hj; simp at hj; (repeat' (first | (rcases hj with rfl | hj))) <;> first | (subst hj; exact ⟨_, _, _, rfl⟩) | exact ⟨_, _, _, rfl⟩)))
   Rg.bf))))) ?_
  intro v2 V2 hG2 hv2 hne2
  simp only [Rg.puts, Act.put, tA]
  obtain ⟨awc, e4, hge4, Kn⟩ := (show nk 44 zU ui.heap.size V2 (v2 4) from hv2 4 de)
  simp only [e4]
  have hO := hG2.1
  replace hO := Own.add (aa HO) hG2.2 hge4 Kn
  clear hge4 Kn
  refine ji hO 0 [] zU [.k (eK f), iv Qn, iv Qo] [] rfl oo rfl (show au [.k (eK f), iv Qn, iv Qo] V2 (v2 3) from hv2 3 de) rfl rfl rfl ?_
  intro Cc fu hk0
  replace hO := fu
  clear fu
  clear HO
  have HO := hide hO
  clear hO hG2 hv2 hne2 hk0
  try clear e4
  go_upto_region 3 with fail
  refine Rg.bg 7 26 (Rg.pick [Rg.ai (.bool false), Rg.ai (.bool true), Rg.ai (.bool true), Rg.ai undef, Rg.ai undef, Rg.ai undef, Rg.ai (.bool true)]) (az w _ Cc) dm [] kr rfl (Rg.df.pick ⟨Rg.ae _, Rg.ae _, Rg.ae _, Rg.ae _, Rg.ae _, Rg.ae _, Rg.ae _, trivial⟩) (az.begin (aa HO))
   (ag (cz rfl aF)
   (ag (uf rfl (aT 0) rfl rfl)
   (ag (cz rfl (aT 1))
   (Rg.cu (Rg.ny (d := 19) rfl kr rfl rfl nz rfl rfl)
   (Rg.cu (Rg.ny (d := 19) rfl kr rfl rfl nz rfl rfl)
   (Rg.cu (Rg.ny (d := 19) rfl kr rfl rfl nz rfl rfl)
   (ag (xz rfl (aT 2) (Rg.jc _))
   Rg.bf))))))) ?_
  intro v3 V3 hG3 hv3 ja
  simp only [Rg.puts, Act.put, tA]
  have e6 : v3 6 = .bool true := hv3 6 de
  simp only [e6]
  have hO := hG3.1
  clear HO
  have HO := hide hO
  clear hO hG3 hv3 ja
  try clear e6
  go_upto_region 4 with fail
  refine Rg.bg 1 26 (Rg.pick [au [.k (eK z7), iv 0, iv 0]]) (az w _ V3) dm [] kr rfl (Rg.df.pick ⟨ay _, trivial⟩) (az.begin (aa HO))
   (ag (Ik rfl rfl)
   Rg.bf) ?_
  intro v4 V4 hG4 hv4 mo
  simp only [Rg.puts, Act.put, tA]
  have hO := hG4.1
  refine ji hO 2 [] zU [.k (eK z7), iv 0, iv 0] [] rfl oo rfl (show au [.k (eK z7), iv 0, iv 0] V4 (v4 0) from hv4 0 de) rfl rfl rfl ?_
  intro Ai fu hk0
  replace hO := fu
  clear fu
  clear HO
  have HO := hide hO
  clear hO hG4 hv4 mo hk0
  go_wp2_with fail
  exact oz Tryz.results102 uh rfl rfl (aa HO) ru rfl rfl
end Sb

end Go.Proofs.YtfgeaakhlcaibaaGreatDoor
