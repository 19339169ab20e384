/- Texts beneath a law of layer 1. -/
import Derived.Test.YtfgeaakhlcaibaaGreatDoorDa12
import Derived.ChangeKeysEq
import Derived.MapKept
set_option maxRecDepth 100000
set_option maxHeartbeats 16000000
namespace Go.Proofs.YtfgeaakhlcaibaaGreatDoor
open Go.RowKit

namespace Sb
def Nu (f : Nat → Int) (n d : Int) : Prop := xw f ∧ Wd.qm n d ∧ 1 ≤ n
instance (f : Nat → Int) (n d : Int) : Decidable (Nu f n d) := by unfold Nu; infer_instance
def Sn (f : Nat → Int) (n d : Int) : Int := if Nu f n d then 0 else 1
structure azl where
 f : Nat → Int
 n : Int
 d : Int
 e : Int
abbrev UnT (t : azl) : World → Value → Prop := jw [ax [.k (eK t.f), iv t.n, iv t.d], Rg.au (.int .i64 t.e)]
def ru (f : Nat → Int) (x : Rat) : azl := if xw f then (if (Wd.told x).e = 0 then ⟨f, (Wd.told x).n, (Wd.told x).d, 0⟩ else ⟨z7, 0, 0, (Wd.told x).e⟩) else ⟨z7, 0, 0, 3⟩
theorem Yc {W : World} {v0 : Value} {n d : Int} (hT : og W) (h0 : ax [iv n, iv d] W v0) : Calls Tryz.prog 66 #[v0] W (ic (Rg.au (.int .i64 (Sq n d))) W) := by
 rw [Eo h0]
 exact (aat n d W hT).mono fun e w' h => Zz h
theorem asj {W : World} {v0 : Value} {x : Rat} (h0 : ax [.q x] W v0) : Calls Tryz.prog 69 #[v0] W (ic (jw [ax [.v (.int .i64 (Wd.told x).n), .v (.int .i64 (Wd.told x).d)], Rg.au (.int .i64 (Wd.told x).e)]) W) :=
 (bju h0).mono fun e w' ⟨u, h1, h2, h3⟩ => ⟨u, h1, h2, by rw [h3]; exact ⟨[_, _], rfl, _, _, rfl, Bd _ _ _, _, _, rfl, rfl, rfl⟩⟩
theorem ash {f : Nat → Int} {n d : Int} (w : World) (hT : og w) (u0 : Value) (h0 : ax [.k (eK f), iv n, iv d] w u0) : Calls Tryz.prog 30 #[u0] w (ic (Rg.au (.int .i64 (Sn f n d))) w) := by
 obtain ⟨v, hv⟩ : ∃ v, v = Sn f n d := ⟨_, rfl⟩
 rw [← hv]
 have HV := hide hv
 have HT := hide hT
 clear hv hT
 have hu0 := Aw h0
 subst hu0
 go_enter Tryz.func30, Tryz.ntmps30
 go_upto_region 1 with fail
 have hO := (Own.push (T := 44) (ls := [.k (eK f), iv n, iv d]) (Own.nil w) (fu.e (fu.v (lh _) (fu.v (lh _) rfl))) (w.heap.size) rfl)
 generalize w.alloc (.cells #[.int .i64 (f 0), .int .i64 (f 1), .int .i64 (f 2), .int .i64 (f 3), .int .i64 (f 4), .int .i64 (f 5), .int .i64 (f 6), .int .i64 n, .int .i64 d] 44) = W0 at *
 have HO := hide hO
 clear hO
 by_cases g1 : xw f
 ·
  by_cases g2 : Wd.qm n d
  ·
   by_cases g3 : n < 1
   ·
    have k1 : decide (xw f) = true := decide_eq_true g1
    have k2 : Sq n d = 0 := if_pos g2
    have k3 : decide (n < 1) = true := decide_eq_true g3
    have hv : v = 1 := by rw [aa HV]; exact if_neg (fun h => absurd h.2.2 om)
    subst hv
    clear HV
    go_upto_region 1 with fail
    refine Rg.di 16 19 (Rg.pick [Rg.au (.pointer (some ⟨w.heap.size, 0, none⟩)), ax [.k (eK f)], Rg.au (.bool true), Rg.au (.bool false), Rg.au (.bool false), Rg.au (.pointer (some ⟨w.heap.size, 7, none⟩)), ax [iv n, iv d], Rg.au (.int .i64 0), Rg.au (.bool false), Rg.au (.bool false), Rg.au (.bool false), Rg.au (.pointer (some ⟨w.heap.size, 7, none⟩)), Rg.au (.pointer (some ⟨w.heap.size, 7, none⟩)), Rg.au (.int .i64 n), Rg.au (.bool true), Rg.au (.bool true)]) (az w _ W0) dz [] kr rfl (Rg.ek.pick ⟨Rg.ae _, bf _, Rg.ae _, Rg.ae _, Rg.ae _, Rg.ae _, bf _, Rg.ae _, Rg.ae _, Rg.ae _, Rg.ae _, Rg.ae _, Rg.ae _, Rg.ae _, Rg.ae _, Rg.ae _, trivial⟩) (az.begin (aa HO))
     (ah (vw (b := w.heap.size) (off := 0) rfl aF rfl rfl)
     (ah (jc Bu me0 (aT 0) [] [.k (eK f)] [iv n, iv d])
     (ah (sc1 Tryz.func96 (aT 1) (fun W v0 hG h0 => Rv _ W _ h0 k1))
     (ah (zw rfl (aT 2) rfl rfl)
     (ah (df rfl (aT 3))
     (Rg.dm (Rg.fq (d := 7) rfl kr rfl (tq (b := w.heap.size) (off := 0) rfl aF rfl rfl))
     (Rg.dm (Rg.fq (d := 7) rfl kr rfl (jc zn me0 (aT 5) [.k (eK f)] [iv n, iv d] []))
     (Rg.dm (Rg.fq (d := 7) rfl kr rfl (Bp Tryz.func66 kr rfl az.step (aT 6) (fun W v0 hG h0 => k2 ▸ Yc ((aa HT).below hG.bel) h0)))
     (Rg.dm (Rg.fq (d := 7) rfl kr rfl (Ba rfl (aT 7) (Rg.je _) rfl rfl))
     (ah (qo rfl (aT 4) (aT 8))
     (ah (df rfl (aT 9))
     (Rg.dm (Rg.fq (d := 13) rfl kr rfl (tq (b := w.heap.size) (off := 0) rfl aF rfl rfl))
     (Rg.dm (Rg.fq (d := 13) rfl kr rfl (Kc (b := w.heap.size) (off := 7) rfl (aT 11) rfl rfl))
     (Rg.dm (Rg.fq (d := 13) rfl kr rfl (Qv Hg me0 (aT 12) [.k (eK f)] [iv d] rfl))
     (Rg.dm (Rg.fq (d := 13) rfl kr rfl (xq rfl (aT 13) (Rg.je _) rfl k3))
     (ah (qo rfl (aT 10) (aT 14))
     Rg.bg)))))))))))))))) ?_
    intro v1 V1 hG1 hv1 hne1
    simp only [Rg.puts, Act.put, tA]
    have e15 : v1 15 = .bool true := hv1 15 de
    simp only [e15]
    have hO := hG1.1
    clear HO
    have HO := hide hO
    clear hO hG1 hv1 hne1
    try clear e15
    go_upto_region 2 with fail
    refine Rg.di 1 19 (Rg.pick [Rg.au (.int .i64 1)]) (az w _ V1) dz [] kr rfl (Rg.ek.pick ⟨Rg.ae _, trivial⟩) (az.begin (aa HO))
     (ah (ik rfl (Rg.je _))
     Rg.bg) ?_
    intro v2 V2 hG2 hv2 hne2
    simp only [Rg.puts, Act.put, tA]
    have e0 : v2 0 = .int .i64 1 := hv2 0 de
    simp only [e0]
    have hO := hG2.1
    clear HO
    have HO := hide hO
    clear hO hG2 hv2 hne2
    try clear e0
    go_wp2_with fail
    exact yz Tryz.results30 rfl (aa HO).bel rfl
   ·
    have k1 : decide (xw f) = true := decide_eq_true g1
    have k2 : Sq n d = 0 := if_pos g2
    have k3 : decide (n < 1) = false := decide_eq_false g3
    have hv : v = 0 := by rw [aa HV]; exact if_pos ⟨g1, g2, by omega⟩
    subst hv
    clear HV
    go_upto_region 1 with fail
    refine Rg.di 16 19 (Rg.pick [Rg.au (.pointer (some ⟨w.heap.size, 0, none⟩)), ax [.k (eK f)], Rg.au (.bool true), Rg.au (.bool false), Rg.au (.bool false), Rg.au (.pointer (some ⟨w.heap.size, 7, none⟩)), ax [iv n, iv d], Rg.au (.int .i64 0), Rg.au (.bool false), Rg.au (.bool false), Rg.au (.bool false), Rg.au (.pointer (some ⟨w.heap.size, 7, none⟩)), Rg.au (.pointer (some ⟨w.heap.size, 7, none⟩)), Rg.au (.int .i64 n), Rg.au (.bool false), Rg.au (.bool false)]) (az w _ W0) dz [] kr rfl (Rg.ek.pick ⟨Rg.ae _, bf _, Rg.ae _, Rg.ae _, Rg.ae _, Rg.ae _, bf _, Rg.ae _, Rg.ae _, Rg.ae _, Rg.ae _, Rg.ae _, Rg.ae _, Rg.ae _, Rg.ae _, Rg.ae _, trivial⟩) (az.begin (aa HO))
     (ah (vw (b := w.heap.size) (off := 0) rfl aF rfl rfl)
     (ah (jc Bu me0 (aT 0) [] [.k (eK f)] [iv n, iv d])
     (ah (sc1 Tryz.func96 (aT 1) (fun W v0 hG h0 => Rv _ W _ h0 k1))
     (ah (zw rfl (aT 2) rfl rfl)
     (ah (df rfl (aT 3))
     (Rg.dm (Rg.fq (d := 7) rfl kr rfl (tq (b := w.heap.size) (off := 0) rfl aF rfl rfl))
     (Rg.dm (Rg.fq (d := 7) rfl kr rfl (jc zn me0 (aT 5) [.k (eK f)] [iv n, iv d] []))
     (Rg.dm (Rg.fq (d := 7) rfl kr rfl (Bp Tryz.func66 kr rfl az.step (aT 6) (fun W v0 hG h0 => k2 ▸ Yc ((aa HT).below hG.bel) h0)))
     (Rg.dm (Rg.fq (d := 7) rfl kr rfl (Ba rfl (aT 7) (Rg.je _) rfl rfl))
     (ah (qo rfl (aT 4) (aT 8))
     (ah (df rfl (aT 9))
     (Rg.dm (Rg.fq (d := 13) rfl kr rfl (tq (b := w.heap.size) (off := 0) rfl aF rfl rfl))
     (Rg.dm (Rg.fq (d := 13) rfl kr rfl (Kc (b := w.heap.size) (off := 7) rfl (aT 11) rfl rfl))
     (Rg.dm (Rg.fq (d := 13) rfl kr rfl (Qv Hg me0 (aT 12) [.k (eK f)] [iv d] rfl))
     (Rg.dm (Rg.fq (d := 13) rfl kr rfl (xq rfl (aT 13) (Rg.je _) rfl k3))
     (ah (qo rfl (aT 10) (aT 14))
     Rg.bg)))))))))))))))) ?_
    intro v1 V1 hG1 hv1 hne1
    simp only [Rg.puts, Act.put, tA]
    have e15 : v1 15 = .bool false := hv1 15 de
    simp only [e15]
    have hO := hG1.1
    clear HO
    have HO := hide hO
    clear hO hG1 hv1 hne1
    try clear e15
    go_upto_region 3 with fail
    refine Rg.di 1 19 (Rg.pick [Rg.au (.int .i64 0)]) (az w _ V1) dz [] kr rfl (Rg.ek.pick ⟨Rg.ae _, trivial⟩) (az.begin (aa HO))
     (ah (ik rfl (Rg.je _))
     Rg.bg) ?_
    intro v2 V2 hG2 hv2 hne2
    simp only [Rg.puts, Act.put, tA]
    have e0 : v2 0 = .int .i64 0 := hv2 0 de
    simp only [e0]
    have hO := hG2.1
    clear HO
    have HO := hide hO
    clear hO hG2 hv2 hne2
    try clear e0
    go_wp2_with fail
    exact yz Tryz.results30 rfl (aa HO).bel rfl
  ·
   have k1 : decide (xw f) = true := decide_eq_true g1
   have k2 : Sq n d = 1 := if_neg g2
   have hv : v = 1 := by rw [aa HV]; exact if_neg (fun h => g2 h.2.1)
   subst hv
   clear HV
   go_upto_region 1 with fail
   refine Rg.di 16 19 (Rg.pick [Rg.au (.pointer (some ⟨w.heap.size, 0, none⟩)), ax [.k (eK f)], Rg.au (.bool true), Rg.au (.bool false), Rg.au (.bool false), Rg.au (.pointer (some ⟨w.heap.size, 7, none⟩)), ax [iv n, iv d], Rg.au (.int .i64 1), Rg.au (.bool true), Rg.au (.bool true), Rg.au (.bool true), Rg.au undef, Rg.au undef, Rg.au undef, Rg.au undef, Rg.au (.bool true)]) (az w _ W0) dz [] kr rfl (Rg.ek.pick ⟨Rg.ae _, bf _, Rg.ae _, Rg.ae _, Rg.ae _, Rg.ae _, bf _, Rg.ae _, Rg.ae _, Rg.ae _, Rg.ae _, Rg.ae _, Rg.ae _, Rg.ae _, Rg.ae _, Rg.ae _, trivial⟩) (az.begin (aa HO))
    (ah (vw (b := w.heap.size) (off := 0) rfl aF rfl rfl)
    (ah (jc Bu me0 (aT 0) [] [.k (eK f)] [iv n, iv d])
    (ah (sc1 Tryz.func96 (aT 1) (fun W v0 hG h0 => Rv _ W _ h0 k1))
    (ah (zw rfl (aT 2) rfl rfl)
    (ah (df rfl (aT 3))
    (Rg.dm (Rg.fq (d := 7) rfl kr rfl (tq (b := w.heap.size) (off := 0) rfl aF rfl rfl))
    (Rg.dm (Rg.fq (d := 7) rfl kr rfl (jc zn me0 (aT 5) [.k (eK f)] [iv n, iv d] []))
    (Rg.dm (Rg.fq (d := 7) rfl kr rfl (Bp Tryz.func66 kr rfl az.step (aT 6) (fun W v0 hG h0 => k2 ▸ Yc ((aa HT).below hG.bel) h0)))
    (Rg.dm (Rg.fq (d := 7) rfl kr rfl (Ba rfl (aT 7) (Rg.je _) rfl rfl))
    (ah (qo rfl (aT 4) (aT 8))
    (ah (df rfl (aT 9))
    (Rg.dm (Rg.pg (d := 13) rfl kr rfl rfl pq rfl rfl)
    (Rg.dm (Rg.pg (d := 13) rfl kr rfl rfl pq rfl rfl)
    (Rg.dm (Rg.pg (d := 13) rfl kr rfl rfl pq rfl rfl)
    (Rg.dm (Rg.pg (d := 13) rfl kr rfl rfl pq rfl rfl)
    (ah (yc rfl (aT 10) (Rg.je _))
    Rg.bg)))))))))))))))) ?_
   intro v1 V1 hG1 hv1 hne1
   simp only [Rg.puts, Act.put, tA]
   have e15 : v1 15 = .bool true := hv1 15 de
   simp only [e15]
   have hO := hG1.1
   clear HO
   have HO := hide hO
   clear hO hG1 hv1 hne1
   try clear e15
   go_upto_region 2 with fail
   refine Rg.di 1 19 (Rg.pick [Rg.au (.int .i64 1)]) (az w _ V1) dz [] kr rfl (Rg.ek.pick ⟨Rg.ae _, trivial⟩) (az.begin (aa HO))
    (ah (ik rfl (Rg.je _))
    Rg.bg) ?_
   intro v2 V2 hG2 hv2 hne2
   simp only [Rg.puts, Act.put, tA]
   have e0 : v2 0 = .int .i64 1 := hv2 0 de
   simp only [e0]
   have hO := hG2.1
   clear HO
   have HO := hide hO
   clear hO hG2 hv2 hne2
   try clear e0
   go_wp2_with fail
   exact yz Tryz.results30 rfl (aa HO).bel rfl
 ·
  have k1 : decide (xw f) = false := decide_eq_false g1
  have hv : v = 1 := by rw [aa HV]; exact if_neg (fun h => g1 h.1)
  subst hv
  clear HV
  go_upto_region 1 with fail
  refine Rg.di 16 19 (Rg.pick [Rg.au (.pointer (some ⟨w.heap.size, 0, none⟩)), ax [.k (eK f)], Rg.au (.bool false), Rg.au (.bool true), Rg.au (.bool true), Rg.au undef, Rg.au undef, Rg.au undef, Rg.au undef, Rg.au (.bool true), Rg.au (.bool true), Rg.au undef, Rg.au undef, Rg.au undef, Rg.au undef, Rg.au (.bool true)]) (az w _ W0) dz [] kr rfl (Rg.ek.pick ⟨Rg.ae _, bf _, Rg.ae _, Rg.ae _, Rg.ae _, Rg.ae _, Rg.ae _, Rg.ae _, Rg.ae _, Rg.ae _, Rg.ae _, Rg.ae _, Rg.ae _, Rg.ae _, Rg.ae _, Rg.ae _, trivial⟩) (az.begin (aa HO))
   (ah (vw (b := w.heap.size) (off := 0) rfl aF rfl rfl)
   (ah (jc Bu me0 (aT 0) [] [.k (eK f)] [iv n, iv d])
   (ah (sc1 Tryz.func96 (aT 1) (fun W v0 hG h0 => Rv _ W _ h0 k1))
   (ah (zw rfl (aT 2) rfl rfl)
   (ah (df rfl (aT 3))
   (Rg.dm (Rg.pg (d := 7) rfl kr rfl rfl pq rfl rfl)
   (Rg.dm (Rg.pg (d := 7) rfl kr rfl rfl pq rfl rfl)
   (Rg.dm (Rg.pg (d := 7) rfl kr rfl rfl pq rfl rfl)
   (Rg.dm (Rg.pg (d := 7) rfl kr rfl rfl pq rfl rfl)
   (ah (yc rfl (aT 4) (Rg.je _))
   (ah (df rfl (aT 9))
   (Rg.dm (Rg.pg (d := 13) rfl kr rfl rfl pq rfl rfl)
   (Rg.dm (Rg.pg (d := 13) rfl kr rfl rfl pq rfl rfl)
   (Rg.dm (Rg.pg (d := 13) rfl kr rfl rfl pq rfl rfl)
   (Rg.dm (Rg.pg (d := 13) rfl kr rfl rfl pq rfl rfl)
   (ah (yc rfl (aT 10) (Rg.je _))
   Rg.bg)))))))))))))))) ?_
  intro v1 V1 hG1 hv1 hne1
  simp only [Rg.puts, Act.put, tA]
  have e15 : v1 15 = .bool true := hv1 15 de
  simp only [e15]
  have hO := hG1.1
  clear HO
  have HO := hide hO
  clear hO hG1 hv1 hne1
  try clear e15
  go_upto_region 2 with fail
  refine Rg.di 1 19 (Rg.pick [Rg.au (.int .i64 1)]) (az w _ V1) dz [] kr rfl (Rg.ek.pick ⟨Rg.ae _, trivial⟩) (az.begin (aa HO))
   (ah (ik rfl (Rg.je _))
   Rg.bg) ?_
  intro v2 V2 hG2 hv2 hne2
  simp only [Rg.puts, Act.put, tA]
  have e0 : v2 0 = .int .i64 1 := hv2 0 de
  simp only [e0]
  have hO := hG2.1
  clear HO
  have HO := hide hO
  clear hO hG2 hv2 hne2
  try clear e0
  go_wp2_with fail
  exact yz Tryz.results30 rfl (aa HO).bel rfl
theorem azh {f : Nat → Int} {n d : Int} (ok : Wd.qm n d) (w : World) (u0 : Value) (h0 : ax [.k (eK f), iv n, iv d] w u0) : Calls Tryz.prog 103 #[u0] w (ic (ax [.k (eK f), .q (Wd.qR n d)]) w) := by
 have Dz := hide ok
 clear ok
 have hu0 := Aw h0
 subst hu0
 go_enter Tryz.func103, Tryz.ntmps103
 go_upto_region 1 with fail
 have hO := (Own.push (T := 118) (ls := zM) (Own.push (T := 44) (ls := [.k (eK f), iv n, iv d]) (Own.nil w) (fu.e (fu.v (lh _) (fu.v (lh _) rfl))) (w.heap.size) rfl) (fu.below (by repeat (first | exact Below.refl _ _ | refine ig ?_ _)) (fu.vs w [.int .i64 0, .int .i64 0, .int .i64 0, .int .i64 0, .int .i64 0, .int .i64 0, .int .i64 0, .int .i64 0, .bool false, .slice none 0 0, .int .i64 0, .bool false, .slice none 0 0] rfl)) (w.heap.size + 1) (by simp only [World.size_alloc]))
 generalize (w.alloc (.cells #[.int .i64 (f 0), .int .i64 (f 1), .int .i64 (f 2), .int .i64 (f 3), .int .i64 (f 4), .int .i64 (f 5), .int .i64 (f 6), .int .i64 n, .int .i64 d] 44)).alloc (.cells #[.int .i64 0, .int .i64 0, .int .i64 0, .int .i64 0, .int .i64 0, .int .i64 0, .int .i64 0, .int .i64 0, .bool false, .slice none 0 0, .int .i64 0, .bool false, .slice none 0 0] 118) = W0 at *
 have HO := hide hO
 clear hO
 go_upto_region 1 with fail
 refine Rg.region 6 9 (Rg.pick [Rg.au (.pointer (some ⟨w.heap.size, 0, none⟩)), ax [.k (eK f)], Rg.au (.pointer (some ⟨w.heap.size, 7, none⟩)), ax [iv n, iv d], ax [.q (Wd.qR n d)], ax [.k (eK f), .q (Wd.qR n d)]]) (az w _ W0) dz [] kr kr rfl (Rg.ek.pick ⟨Rg.ae _, bf _, Rg.ae _, bf _, bf _, bf _, trivial⟩) (az.start (aa HO))
  (ah (vw (b := w.heap.size) (off := 0) rfl aF rfl rfl)
  (ah (jc Bu wz (aT 0) [] [.k (eK f)] [iv n, iv d])
  (ah (tq (b := w.heap.size) (off := 0) rfl aF rfl rfl)
  (ah (jc zn wz (aT 2) [.k (eK f)] [iv n, iv d] [])
  (ah (sc1 Tryz.func67 (aT 3) (fun W v0 hG h0 => bhu (aa Dz) h0))
  (ah (Gm bcq rfl (aT 1) (aT 4) rfl rfl rfl)
  Rg.bg)))))) ?_
 intro v1 V1 hG1 hv1 hne1
 simp only [Rg.puts, Act.put, tA]
 have hO := hG1.1
 refine oo hO 0 [] zM [.k (eK f), .q (Wd.qR n d)] [] rfl Au rfl (show ax [.k (eK f), .q (Wd.qR n d)] V1 (v1 5) from hv1 5 de) rfl rfl rfl ?_
 intro Cg jb hk0
 replace hO := jb
 clear jb
 clear HO
 have HO := hide hO
 clear hO hG1 hv1 hne1 hk0
 go_wp2_with fail
 exact Dy Tryz.results103 Hf rfl (aa HO) me0 rfl rfl
theorem aqp {f h : Nat → Int} {x a : Rat} {n : Int} (w : World) (u0 : Value) (h0 : ax [.k (eK f), .q x] w u0) (hh : ∀ j, j < 7 → wrap64 (f j * n) = h j)
  (hp : ∀ W v0, Below w.heap.size w W → ax [.q x] W v0 → Calls Tryz.prog 68 #[v0, .int .i64 n] W (ic (ax [.q a]) W)) :
  Calls Tryz.prog 104 #[u0, .int .i64 n] w (ic (ax [.k (eK h), .q a]) w) := by
 have HH := hide hh
 have HP := hide hp
 clear hh hp
 obtain ⟨Hu, Ia, Gb, c0a, Fv, Ke, Ki, Iz, c0b, Ic, rfl, f0a, Ik⟩ := Vl h0
 go_enter Tryz.func104, Tryz.ntmps104
 go_upto_region 1 with fail
 have hO := (Own.push (T := 118) (ls := zM) (Own.push (T := 118) (ls := [.k (eK f), .q x]) (Own.nil w) (fu.e (fu.q f0a Ik rfl)) (w.heap.size) rfl) (fu.below (by repeat (first | exact Below.refl _ _ | refine ig ?_ _)) (fu.vs w [.int .i64 0, .int .i64 0, .int .i64 0, .int .i64 0, .int .i64 0, .int .i64 0, .int .i64 0, .int .i64 0, .bool false, .slice none 0 0, .int .i64 0, .bool false, .slice none 0 0] rfl)) (w.heap.size + 1) (by simp only [World.size_alloc]))
 generalize (w.alloc (.cells #[.int .i64 (f 0), .int .i64 (f 1), .int .i64 (f 2), .int .i64 (f 3), .int .i64 (f 4), .int .i64 (f 5), .int .i64 (f 6), .int .i64 Hu, .bool Ia, .slice Gb (List.length Fv) c0a, .int .i64 Ke, .bool Ki, .slice Iz (List.length Ic) c0b] 118)).alloc (.cells #[.int .i64 0, .int .i64 0, .int .i64 0, .int .i64 0, .int .i64 0, .int .i64 0, .int .i64 0, .int .i64 0, .bool false, .slice none 0 0, .int .i64 0, .bool false, .slice none 0 0] 118) = W0 at *
 have HO := hide hO
 clear hO
 go_wp2_with fail
 go_loopw [6] (fun vk wr => ∃ k : Nat, k ≤ 7 ∧ vk = .int .i64 ((k : Nat) : Int) ∧ Hid (Own w [(w.heap.size + 1, 118, zM), (w.heap.size, 118, [.k (eK (Gl f h k)), .q x])] wr)) (fun vk _ => 7 - (intOf vk).toNat)
 case atStart => exact ⟨0, by omega, rfl, by rw [aca]; exact HO⟩
 case round =>
  obtain ⟨k, hk, rfl, HO⟩ := hrel
  have HK := hide hk
  clear hk
  by_cases g1 : k < 7
  ·
   have d1 : decide ((k : Int) < 7) = true := decide_eq_true om
   have xc := hide g1
   clear g1
   go_upto_region 2 with fail
   refine Rg.di 1 24 (Rg.pick [Rg.au (.bool true)]) (az w _ wr) dz [] kr rfl (Rg.ek.pick ⟨Rg.ae _, trivial⟩) (az.begin (aa HO))
    (ah (xq rfl aF (Rg.je _) rfl d1)
    Rg.bg) ?_
   intro v1 V1 hG1 hv1 hne1
   simp only [Rg.puts, Act.put, tA]
   have e0 : v1 0 = .bool true := hv1 0 de
   simp only [e0]
   have hO := hG1.1
   clear HO
   have HO := hide hO
   clear hO hG1 hv1 hne1
   try clear e0
   clear d1
   go_upto_region 3 with fail
   refine Rg.di 2 24 (Rg.pick [Rg.au (.int .i64 (k : Int)), Rg.au (.int .i64 (k : Int))]) (az w _ V1) dz [] kr rfl (Rg.ek.pick ⟨Rg.ae _, Rg.ae _, trivial⟩) (az.begin (aa HO))
    (ah (df rfl aF)
    (ah (ik rfl (aT 0))
    Rg.bg)) ?_
   intro v2 V2 hG2 hv2 hne2
   simp only [Rg.puts, Act.put, tA]
   have e0 : v2 0 = .int .i64 (k : Int) := hv2 0 de
   have e1 : v2 1 = .int .i64 (k : Int) := hv2 1 de
   simp only [e0, e1]
   have hO := hG2.1
   clear HO
   have HO := hide hO
   clear hO hG2 hv2 hne2
   try clear e0 e1
   go_upto_region 4 with fail
   refine Rg.di 8 24 (Rg.pick [Rg.au (.int .i64 (k : Int)), Rg.au (.pointer (some ⟨w.heap.size, 0, none⟩)), Rg.au (.pointer (some ⟨w.heap.size, k, none⟩)), Rg.au (.int .i64 (f k)), Rg.au (.int .i64 n), Rg.au (.int .i64 (h k)), Rg.au (.pointer (some ⟨w.heap.size, 0, none⟩)), Rg.au (.pointer (some ⟨w.heap.size, k, none⟩))]) (az w _ V2) dz [] kr rfl (Rg.ek.pick ⟨Rg.ae _, Rg.ae _, Rg.ae _, Rg.ae _, Rg.ae _, Rg.ae _, Rg.ae _, Rg.ae _, trivial⟩) (az.begin (aa HO))
    (ah (df rfl aF)
    (ah (Br (b := w.heap.size) (off := 0) rfl aF rfl rfl)
    (ah (Fp (b := w.heap.size) (k := k) rfl (aT 1) (aT 0) (aa xc) rfl)
    (ah (Nk (f := (Gl f h k)) wz rfl (aT 2) (aa xc) (ajr f h k) rfl)
    (ah (df rfl aF)
    (ah (apm rfl (aT 3) (aT 4) ((aa HH) k (aa xc)) rfl)
    (ah (Br (b := w.heap.size) (off := 0) rfl aF rfl rfl)
    (ah (Fp (b := w.heap.size) (k := k) rfl (aT 6) (aT 0) (aa xc) rfl)
    Rg.bg)))))))) ?_
   intro v3 V3 hG3 hv3 mh
   simp only [Rg.puts, Act.put, tA]
   have e5 : v3 5 = .int .i64 (h k) := hv3 5 de
   have e7 : v3 7 = .pointer (some ⟨w.heap.size, k, none⟩) := hv3 7 de
   simp only [e5, e7]
   have hO := hG3.1
   refine aoy (f := (Gl f h k)) (g := (Gl f h (k + 1))) (k := k) (v := (h k)) hO 1 [.q x] rfl (aa xc) rfl rfl (acb f h k) ?_
   intro Ou jb hk0
   replace hO := jb
   clear jb
   clear HO
   have HO := hide hO
   clear hO hG3 hv3 mh hk0
   try clear e5 e7
   go_wp2_with fail
   go_roundw
   case rel =>
    exact ⟨k + 1, by have := aa xc; omega, Ql (aa xc) om, HO⟩
   case measure =>
    have h1 := aa xc
    clear HO
    rw [Gd h1 om]
    exact measS h1
  ·
   obtain rfl : k = 7 := by have := aa HK; omega
   clear g1
   rw [aeg] at HO
   go_upto_region 2 with fail
   refine Rg.di 1 24 (Rg.pick [Rg.au (.bool false)]) (az w _ wr) dz [] kr rfl (Rg.ek.pick ⟨Rg.ae _, trivial⟩) (az.begin (aa HO))
    (ah (xq rfl aF (Rg.je _) rfl rfl)
    Rg.bg) ?_
   intro v1 V1 hG1 hv1 hne1
   simp only [Rg.puts, Act.put, tA]
   have e0 : v1 0 = .bool false := hv1 0 de
   simp only [e0]
   have hO := hG1.1
   clear HO
   have HO := hide hO
   clear hO hG1 hv1 hne1
   try clear e0
   go_upto_region 6 with fail
   refine Rg.di 5 24 (Rg.pick [Rg.au (.pointer (some ⟨w.heap.size, 7, none⟩)), ax [.q x], Rg.au (.int .i64 n), ax [.q a], Rg.au (.pointer (some ⟨w.heap.size, 7, none⟩))]) (az w _ V1) dz [] kr rfl (Rg.ek.pick ⟨Rg.ae _, bf _, Rg.ae _, bf _, Rg.ae _, trivial⟩) (az.begin (aa HO))
    (ah (Ei (b := w.heap.size) (off := 0) rfl aF rfl rfl)
    (ah (jc Fu wz (aT 0) [.k (eK h)] [.q x] [])
    (ah (df rfl aF)
    (ah (sc2 Tryz.func68 (aT 1) (aT 2) (fun W v0 v1 hG h0 h1 => by cases h1; exact aa HP W v0 hG.bel h0))
    (ah (Ei (b := w.heap.size) (off := 0) rfl aF rfl rfl)
    Rg.bg))))) ?_
   intro v2 V2 hG2 hv2 hne2
   simp only [Rg.puts, Act.put, tA]
   have e4 : v2 4 = .pointer (some ⟨w.heap.size, 7, none⟩) := hv2 4 de
   simp only [e4]
   have hO := hG2.1
   refine oo hO 1 [.k (eK h)] [.q x] [.q a] [] rfl Gx rfl (show ax [.q a] V2 (v2 3) from hv2 3 de) rfl rfl rfl ?_
   intro Jo jb hk0
   replace hO := jb
   clear jb
   clear HO
   have HO := hide hO
   clear hO hG2 hv2 hne2 hk0
   try clear e4
   go_upto_region 7 with fail
   refine Rg.di 1 24 (Rg.pick [ax [.k (eK h), .q a]]) (az w _ Jo) dz [] kr rfl (Rg.ek.pick ⟨bf _, trivial⟩) (az.begin (aa HO))
    (ah (jc Pt wz aF [] [.k (eK h), .q a] [])
    Rg.bg) ?_
   intro v3 V3 hG3 hv3 mh
   simp only [Rg.puts, Act.put, tA]
   have hO := hG3.1
   refine oo hO 0 [] zM [.k (eK h), .q a] [] rfl Au rfl (show ax [.k (eK h), .q a] V3 (v3 0) from hv3 0 de) rfl rfl rfl ?_
   intro Ou jb hk0
   replace hO := jb
   clear jb
   clear HO
   have HO := hide hO
   clear hO hG3 hv3 mh hk0
   go_wp2_with fail
   exact Dy Tryz.results104 Hf rfl (aa HO) me0 rfl rfl
theorem bni {F : Nat} {x y a : Rat} {w W : World} {v0 v1 : Value} (h : ∀ W v0 v1, Below w.heap.size w W → ax [.q x] W v0 → ax [.q y] W v1 → Calls Tryz.prog F #[v0, v1] W (ic (ax [.q a]) W)) (hb : Below w.heap.size w W) (h0 : ax [.q x] W v0) (h1 : ax [.q y] W v1) : Calls Tryz.prog F #[v0, v1] W (ic (ax [.q a]) W) := h W v0 v1 hb h0 h1
theorem Ka {f g h : Nat → Int} {x y a : Rat} (w : World) (u0 : Value) (h0 : ax [.k (eK f), .q x] w u0) (u1 : Value) (h1 : ax [.k (eK g), .q y] w u1) (hh : ∀ j, j < 7 → wrap64 (f j + g j) = h j)
  (hp : ∀ W v0 v1, Below w.heap.size w W → ax [.q x] W v0 → ax [.q y] W v1 → Calls Tryz.prog 108 #[v0, v1] W (ic (ax [.q a]) W)) :
  Calls Tryz.prog 119 #[u0, u1] w (ic (ax [.k (eK h), .q a]) w) := by
 have HH := hide hh
 have HP := hide hp
 clear hh hp
 obtain ⟨Hu, Ia, Gb, c0a, Fv, Ke, Ki, Iz, c0b, Ic, rfl, f0a, Ik⟩ := Vl h0
 obtain ⟨Nn, Ze, Dn, c1a, Df, Nl, n1b, Dm, Dh, De, rfl, f1a, Ug⟩ := Vl h1
 go_enter Tryz.func119, Tryz.ntmps119
 go_upto_region 1 with fail
 have hO := (Own.push (T := 118) (ls := zM) (Own.push (T := 118) (ls := [.k (eK g), .q y]) (Own.push (T := 118) (ls := [.k (eK f), .q x]) (Own.nil w) (fu.e (fu.q f0a Ik rfl)) (w.heap.size) rfl) (fu.below (by repeat (first | exact Below.refl _ _ | refine ig ?_ _)) (fu.e (fu.q f1a Ug rfl))) (w.heap.size + 1) (by simp only [World.size_alloc])) (fu.below (by repeat (first | exact Below.refl _ _ | refine ig ?_ _)) (fu.vs w [.int .i64 0, .int .i64 0, .int .i64 0, .int .i64 0, .int .i64 0, .int .i64 0, .int .i64 0, .int .i64 0, .bool false, .slice none 0 0, .int .i64 0, .bool false, .slice none 0 0] rfl)) (w.heap.size + 2) (by simp only [World.size_alloc]))
 generalize ((w.alloc (.cells #[.int .i64 (f 0), .int .i64 (f 1), .int .i64 (f 2), .int .i64 (f 3), .int .i64 (f 4), .int .i64 (f 5), .int .i64 (f 6), .int .i64 Hu, .bool Ia, .slice Gb (List.length Fv) c0a, .int .i64 Ke, .bool Ki, .slice Iz (List.length Ic) c0b] 118)).alloc (.cells #[.int .i64 (g 0), .int .i64 (g 1), .int .i64 (g 2), .int .i64 (g 3), .int .i64 (g 4), .int .i64 (g 5), .int .i64 (g 6), .int .i64 Nn, .bool Ze, .slice Dn (List.length Df) c1a, .int .i64 Nl, .bool n1b, .slice Dm (List.length De) Dh] 118)).alloc (.cells #[.int .i64 0, .int .i64 0, .int .i64 0, .int .i64 0, .int .i64 0, .int .i64 0, .int .i64 0, .int .i64 0, .bool false, .slice none 0 0, .int .i64 0, .bool false, .slice none 0 0] 118) = W0 at *
 have HO := hide hO
 clear hO
 go_upto_region 1 with fail
 refine Rg.di 3 29 (Rg.pick [Rg.au (.pointer (some ⟨w.heap.size + 1, 0, none⟩)), Rg.au (aV g), Rg.au (.int .i64 0)]) (az w _ W0) dz [] kr rfl (Rg.ek.pick ⟨Rg.ae _, Rg.ae _, Rg.ae _, trivial⟩) (az.begin (aa HO))
  (ah (Br (b := w.heap.size + 1) (off := 0) rfl aF rfl rfl)
  (ah (amd (f := g) Bu wz rfl (aT 0) rfl)
  (ah (df rfl (Rg.je _))
  Rg.bg))) ?_
 intro v1 V1 hG1 hv1 hne1
 simp only [Rg.puts, Act.put, tA]
 have e1 : v1 1 = aV g := hv1 1 de
 have e2 : v1 2 = .int .i64 0 := hv1 2 de
 simp only [e1, e2]
 have hO := hG1.1
 clear HO
 have HO := hide hO
 clear hO hG1 hv1 hne1
 try clear e1 e2
 go_wp2_with fail
 go_loopw [9] (fun vk wr => ∃ k : Nat, k ≤ 7 ∧ vk = .int .i64 ((k : Nat) : Int) ∧ Hid (Own w [(w.heap.size + 2, 118, zM), (w.heap.size + 1, 118, [.k (eK g), .q y]), (w.heap.size, 118, [.k (eK (Gl f h k)), .q x])] wr)) (fun vk _ => 7 - (intOf vk).toNat)
 case atStart => exact ⟨0, by omega, rfl, by rw [aca]; exact HO⟩
 case round =>
  obtain ⟨k, hk, rfl, HO⟩ := hrel
  have HK := hide hk
  clear hk
  by_cases g1 : k < 7
  ·
   have d1 : decide ((k : Int) < 7) = true := decide_eq_true om
   have xc := hide g1
   clear g1
   go_upto_region 2 with fail
   refine Rg.di 1 29 (Rg.pick [Rg.au (.bool true)]) (az w _ wr) dz [] kr rfl (Rg.ek.pick ⟨Rg.ae _, trivial⟩) (az.begin (aa HO))
    (ah (xq rfl aF (Rg.je _) rfl d1)
    Rg.bg) ?_
   intro v2 V2 hG2 hv2 hne2
   simp only [Rg.puts, Act.put, tA]
   have e0 : v2 0 = .bool true := hv2 0 de
   simp only [e0]
   have hO := hG2.1
   clear HO
   have HO := hide hO
   clear hO hG2 hv2 hne2
   try clear e0
   clear d1
   go_upto_region 3 with fail
   refine Rg.di 4 29 (Rg.pick [Rg.au (.int .i64 (k : Int)), Rg.au (.int .i64 (g k)), Rg.au (.int .i64 (k : Int)), Rg.au (.int .i64 (g k))]) (az w _ V2) dz [] kr rfl (Rg.ek.pick ⟨Rg.ae _, Rg.ae _, Rg.ae _, Rg.ae _, trivial⟩) (az.begin (aa HO))
    (ah (df rfl aF)
    (ah (bjf (f := g) (k := k) rfl aF aF (aa xc) rfl)
    (ah (ik rfl (aT 0))
    (ah (ik rfl (aT 1))
    Rg.bg)))) ?_
   intro v3 V3 hG3 hv3 mh
   simp only [Rg.puts, Act.put, tA]
   have e0 : v3 0 = .int .i64 (k : Int) := hv3 0 de
   have e1 : v3 1 = .int .i64 (g k) := hv3 1 de
   have e2 : v3 2 = .int .i64 (k : Int) := hv3 2 de
   have e3 : v3 3 = .int .i64 (g k) := hv3 3 de
   simp only [e0, e1, e2, e3]
   have hO := hG3.1
   clear HO
   have HO := hide hO
   clear hO hG3 hv3 mh
   try clear e0 e1 e2 e3
   go_upto_region 4 with fail
   refine Rg.di 8 29 (Rg.pick [Rg.au (.int .i64 (k : Int)), Rg.au (.pointer (some ⟨w.heap.size, 0, none⟩)), Rg.au (.pointer (some ⟨w.heap.size, k, none⟩)), Rg.au (.int .i64 (f k)), Rg.au (.int .i64 (g k)), Rg.au (.int .i64 (h k)), Rg.au (.pointer (some ⟨w.heap.size, 0, none⟩)), Rg.au (.pointer (some ⟨w.heap.size, k, none⟩))]) (az w _ V3) dz [] kr rfl (Rg.ek.pick ⟨Rg.ae _, Rg.ae _, Rg.ae _, Rg.ae _, Rg.ae _, Rg.ae _, Rg.ae _, Rg.ae _, trivial⟩) (az.begin (aa HO))
    (ah (df rfl aF)
    (ah (Br (b := w.heap.size) (off := 0) rfl aF rfl rfl)
    (ah (Fp (b := w.heap.size) (k := k) rfl (aT 1) (aT 0) (aa xc) rfl)
    (ah (Nk (f := (Gl f h k)) Ib rfl (aT 2) (aa xc) (ajr f h k) rfl)
    (ah (df rfl aF)
    (ah (bej rfl (aT 3) (aT 4) ((aa HH) k (aa xc)) rfl)
    (ah (Br (b := w.heap.size) (off := 0) rfl aF rfl rfl)
    (ah (Fp (b := w.heap.size) (k := k) rfl (aT 6) (aT 0) (aa xc) rfl)
    Rg.bg)))))))) ?_
   intro v4 V4 hG4 hv4 tu
   simp only [Rg.puts, Act.put, tA]
   have e5 : v4 5 = .int .i64 (h k) := hv4 5 de
   have e7 : v4 7 = .pointer (some ⟨w.heap.size, k, none⟩) := hv4 7 de
   simp only [e5, e7]
   have hO := hG4.1
   refine aoy (f := (Gl f h k)) (g := (Gl f h (k + 1))) (k := k) (v := (h k)) hO 2 [.q x] rfl (aa xc) rfl rfl (acb f h k) ?_
   intro Gr jb hk0
   replace hO := jb
   clear jb
   clear HO
   have HO := hide hO
   clear hO hG4 hv4 tu hk0
   try clear e5 e7
   go_wp2_with fail
   go_roundw
   case rel =>
    exact ⟨k + 1, by have := aa xc; omega, Ql (aa xc) om, HO⟩
   case measure =>
    have h1 := aa xc
    clear HO
    rw [Gd h1 om]
    exact measS h1
  ·
   obtain rfl : k = 7 := by have := aa HK; omega
   clear g1
   rw [aeg] at HO
   go_upto_region 2 with fail
   refine Rg.di 1 29 (Rg.pick [Rg.au (.bool false)]) (az w _ wr) dz [] kr rfl (Rg.ek.pick ⟨Rg.ae _, trivial⟩) (az.begin (aa HO))
    (ah (xq rfl aF (Rg.je _) rfl rfl)
    Rg.bg) ?_
   intro v2 V2 hG2 hv2 hne2
   simp only [Rg.puts, Act.put, tA]
   have e0 : v2 0 = .bool false := hv2 0 de
   simp only [e0]
   have hO := hG2.1
   clear HO
   have HO := hide hO
   clear hO hG2 hv2 hne2
   try clear e0
   go_upto_region 6 with fail
   refine Rg.di 6 29 (Rg.pick [Rg.au (.pointer (some ⟨w.heap.size, 7, none⟩)), ax [.q x], Rg.au (.pointer (some ⟨w.heap.size + 1, 7, none⟩)), ax [.q y], ax [.q a], Rg.au (.pointer (some ⟨w.heap.size, 7, none⟩))]) (az w _ V2) dz [] kr rfl (Rg.ek.pick ⟨Rg.ae _, bf _, Rg.ae _, bf _, bf _, Rg.ae _, trivial⟩) (az.begin (aa HO))
    (ah (Ei (b := w.heap.size) (off := 0) rfl aF rfl rfl)
    (ah (jc Fu Ib (aT 0) [.k (eK h)] [.q x] [])
    (ah (Ei (b := w.heap.size + 1) (off := 0) rfl aF rfl rfl)
    (ah (jc Fu wz (aT 2) [.k (eK g)] [.q y] [])
    (ah (sc2 Tryz.func108 (aT 1) (aT 3) (fun W v0 v1 hG h0 h1 => bni (aa HP) hG.bel h0 h1))
    (ah (Ei (b := w.heap.size) (off := 0) rfl aF rfl rfl)
    Rg.bg)))))) ?_
   intro v3 V3 hG3 hv3 mh
   simp only [Rg.puts, Act.put, tA]
   have e5 : v3 5 = .pointer (some ⟨w.heap.size, 7, none⟩) := hv3 5 de
   simp only [e5]
   have hO := hG3.1
   refine oo hO 2 [.k (eK h)] [.q x] [.q a] [] rfl Gx rfl (show ax [.q a] V3 (v3 4) from hv3 4 de) rfl rfl rfl ?_
   intro Ou jb hk0
   replace hO := jb
   clear jb
   clear HO
   have HO := hide hO
   clear hO hG3 hv3 mh hk0
   try clear e5
   go_upto_region 7 with fail
   refine Rg.di 1 29 (Rg.pick [ax [.k (eK h), .q a]]) (az w _ Ou) dz [] kr rfl (Rg.ek.pick ⟨bf _, trivial⟩) (az.begin (aa HO))
    (ah (jc Pt Ib aF [] [.k (eK h), .q a] [])
    Rg.bg) ?_
   intro v4 V4 hG4 hv4 tu
   simp only [Rg.puts, Act.put, tA]
   have hO := hG4.1
   refine oo hO 0 [] zM [.k (eK h), .q a] [] rfl Au rfl (show ax [.k (eK h), .q a] V4 (v4 0) from hv4 0 de) rfl rfl rfl ?_
   intro Gr jb hk0
   replace hO := jb
   clear jb
   clear HO
   have HO := hide hO
   clear hO hG4 hv4 tu hk0
   go_wp2_with fail
   exact Dy Tryz.results119 Hf rfl (aa HO) me0 rfl rfl
theorem bcm {f : Nat → Int} {x : Rat} (w : World) (u0 : Value) (h0 : ax [.k (eK f), .q x] w u0) : Calls Tryz.prog 105 #[u0] w (ic (UnT (ru f x)) w) := by
 obtain ⟨t, ht⟩ : ∃ t, t = ru f x := ⟨_, rfl⟩
 rw [← ht]
 have HR := hide ht
 clear ht
 obtain ⟨Hu, Ia, Gb, c0a, Fv, Ke, Ki, Iz, c0b, Ic, rfl, f0a, Ik⟩ := Vl h0
 go_enter Tryz.func105, Tryz.ntmps105
 go_upto_region 1 with fail
 have hO := (Own.push (T := 44) (ls := zU) (Own.push (T := 118) (ls := [.k (eK f), .q x]) (Own.nil w) (fu.e (fu.q f0a Ik rfl)) (w.heap.size) rfl) (fu.below (by repeat (first | exact Below.refl _ _ | refine ig ?_ _)) (fu.vs w [.int .i64 0, .int .i64 0, .int .i64 0, .int .i64 0, .int .i64 0, .int .i64 0, .int .i64 0, .int .i64 0, .int .i64 0] rfl)) (w.heap.size + 1) (by simp only [World.size_alloc]))
 generalize (w.alloc (.cells #[.int .i64 (f 0), .int .i64 (f 1), .int .i64 (f 2), .int .i64 (f 3), .int .i64 (f 4), .int .i64 (f 5), .int .i64 (f 6), .int .i64 Hu, .bool Ia, .slice Gb (List.length Fv) c0a, .int .i64 Ke, .bool Ki, .slice Iz (List.length Ic) c0b] 118)).alloc (.cells #[.int .i64 0, .int .i64 0, .int .i64 0, .int .i64 0, .int .i64 0, .int .i64 0, .int .i64 0, .int .i64 0, .int .i64 0] 44) = W0 at *
 have HO := hide hO
 clear hO
 by_cases g1 : xw f
 ·
  by_cases g2 : (Wd.told x).e = 0
  ·
   have k1 : decide (xw f) = true := decide_eq_true g1
   have k2 : ((Wd.told x).e != 0) = false := by simp [bne, beq_iff_eq.2 g2]
   have hr : t = ⟨f, (Wd.told x).n, (Wd.told x).d, 0⟩ := by rw [aa HR]; unfold ru; rw [if_pos g1, if_pos g2]
   subst hr
   clear HR
   go_upto_region 1 with fail
   refine Rg.di 4 25 (Rg.pick [Rg.au (.pointer (some ⟨w.heap.size, 0, none⟩)), ax [.k (eK f)], Rg.au (.bool true), Rg.au (.bool false)]) (az w _ W0) dz [] kr rfl (Rg.ek.pick ⟨Rg.ae _, bf _, Rg.ae _, Rg.ae _, trivial⟩) (az.begin (aa HO))
    (ah (Br (b := w.heap.size) (off := 0) rfl aF rfl rfl)
    (ah (jc Bu wz (aT 0) [] [.k (eK f)] [.q x])
    (ah (sc1 Tryz.func96 (aT 1) (fun W v0 hG h0 => Rv _ W _ h0 k1))
    (ah (zw rfl (aT 2) rfl rfl)
    Rg.bg)))) ?_
   intro v1 V1 hG1 hv1 hne1
   simp only [Rg.puts, Act.put, tA]
   have e3 : v1 3 = .bool false := hv1 3 de
   simp only [e3]
   have hO := hG1.1
   clear HO
   have HO := hide hO
   clear hO hG1 hv1 hne1
   try clear e3
   go_upto_region 3 with fail
   refine Rg.di 7 25 (Rg.pick [Rg.au (.pointer (some ⟨w.heap.size, 7, none⟩)), ax [.q x], jw [ax [iv (Wd.told x).n, iv (Wd.told x).d], Rg.au (.int .i64 (Wd.told x).e)], jw [ax [iv (Wd.told x).n, iv (Wd.told x).d], Rg.au (.int .i64 (Wd.told x).e)], ax [iv (Wd.told x).n, iv (Wd.told x).d], Rg.au (.int .i64 (Wd.told x).e), qj 23 zR V1.heap.size]) (az w _ V1) dz [6] kr rfl (Rg.ek.pick ⟨Rg.ae _, bf _, jm ⟨(bf _), (Rg.ae _), trivial⟩, jm ⟨(bf _), (Rg.ae _), trivial⟩, bf _, Rg.ae _, qz _ _ _, trivial⟩) (az.begin (aa HO))
    (ah (Ei (b := w.heap.size) (off := 0) rfl aF rfl rfl)
    (ah (jc Fu wz (aT 0) [.k (eK f)] [.q x] [])
    (ah (sc1 Tryz.func69 (aT 1) (fun W v0 hG h0 => asj h0))
    (ah (df rfl (aT 2))
    (ah (mf (ts := [ax [iv (Wd.told x).n, iv (Wd.told x).d], Rg.au (.int .i64 (Wd.told x).e)]) rfl (aT 3) (of_decide_eq_true rfl) rfl)
    (ah (mf (ts := [ax [iv (Wd.told x).n, iv (Wd.told x).d], Rg.au (.int .i64 (Wd.told x).e)]) rfl (aT 3) (of_decide_eq_true rfl) rfl)
    (ah (uh Zd rfl az.step az.size rfl (xm (by intro j hj; simp at hj; (repeat' (first | (rcases hj with rfl | hj))) <;> first | (subst hj; exact ⟨_, _, _, rfl⟩) | exact ⟨_, _, _, rfl⟩)))
    Rg.bg))))))) ?_
   intro v2 V2 hG2 hv2 hne2
   simp only [Rg.puts, Act.put, tA]
   have e5 : v2 5 = .int .i64 (Wd.told x).e := hv2 5 de
   obtain ⟨bou, e6, Bb, El⟩ := (show qj 23 zR V1.heap.size V2 (v2 6) from hv2 6 de)
   simp only [e5, e6]
   have hO := hG2.1
   replace hO := Own.add (aa HO) hG2.2 Bb El
   clear Bb El
   refine oo hO 0 [] zR [iv (Wd.told x).n, iv (Wd.told x).d] [] rfl Oy rfl (show ax [iv (Wd.told x).n, iv (Wd.told x).d] V2 (v2 4) from hv2 4 de) rfl rfl rfl ?_
   intro Jo jb hk0
   replace hO := jb
   clear jb
   clear HO
   have HO := hide hO
   clear hO hG2 hv2 hne2 hk0
   try clear e5 e6
   go_upto_region 4 with fail
   refine Rg.di 2 25 (Rg.pick [Rg.au (.int .i64 (Wd.told x).e), Rg.au (.bool false)]) (az w _ Jo) dz [] kr rfl (Rg.ek.pick ⟨Rg.ae _, Rg.ae _, trivial⟩) (az.begin (aa HO))
    (ah (df rfl aF)
    (ah (Ba rfl (aT 0) (Rg.je _) rfl k2)
    Rg.bg)) ?_
   intro v3 V3 hG3 hv3 mh
   simp only [Rg.puts, Act.put, tA]
   have e1 : v3 1 = .bool false := hv3 1 de
   simp only [e1]
   have hO := hG3.1
   clear HO
   have HO := hide hO
   clear hO hG3 hv3 mh
   try clear e1
   go_upto_region 6 with fail
   refine Rg.di 4 25 (Rg.pick [Rg.au (.pointer (some ⟨w.heap.size, 0, none⟩)), ax [.k (eK f)], ax [iv (Wd.told x).n, iv (Wd.told x).d], ax [.k (eK f), iv (Wd.told x).n, iv (Wd.told x).d]]) (az w _ V3) dz [] kr rfl (Rg.ek.pick ⟨Rg.ae _, bf _, bf _, bf _, trivial⟩) (az.begin (aa HO))
    (ah (Br (b := w.heap.size) (off := 0) rfl aF rfl rfl)
    (ah (jc Bu Ib (aT 0) [] [.k (eK f)] [.q x])
    (ah (jc zn me0 aF [] [iv (Wd.told x).n, iv (Wd.told x).d] [])
    (ah (Gm akz rfl (aT 1) (aT 2) rfl rfl rfl)
    Rg.bg)))) ?_
   intro v4 V4 hG4 hv4 tu
   simp only [Rg.puts, Act.put, tA]
   have hO := hG4.1
   refine oo hO 1 [] zU [.k (eK f), iv (Wd.told x).n, iv (Wd.told x).d] [] rfl Bo rfl (show ax [.k (eK f), iv (Wd.told x).n, iv (Wd.told x).d] V4 (v4 3) from hv4 3 de) rfl rfl rfl ?_
   intro Gr jb hk0
   replace hO := jb
   clear jb
   clear HO
   have HO := hide hO
   clear hO hG4 hv4 tu hk0
   go_wp2_with fail
   exact Im Tryz.results105 Ps rfl rfl (aa HO) wz rfl rfl
  ·
   have k1 : decide (xw f) = true := decide_eq_true g1
   have k2 : ((Wd.told x).e != 0) = true := by simp [bne, beq_eq_false_iff_ne.2 g2]
   have hr : t = ⟨z7, 0, 0, (Wd.told x).e⟩ := by rw [aa HR]; unfold ru; rw [if_pos g1, if_neg g2]
   subst hr
   clear HR
   go_upto_region 1 with fail
   refine Rg.di 4 25 (Rg.pick [Rg.au (.pointer (some ⟨w.heap.size, 0, none⟩)), ax [.k (eK f)], Rg.au (.bool true), Rg.au (.bool false)]) (az w _ W0) dz [] kr rfl (Rg.ek.pick ⟨Rg.ae _, bf _, Rg.ae _, Rg.ae _, trivial⟩) (az.begin (aa HO))
    (ah (Br (b := w.heap.size) (off := 0) rfl aF rfl rfl)
    (ah (jc Bu wz (aT 0) [] [.k (eK f)] [.q x])
    (ah (sc1 Tryz.func96 (aT 1) (fun W v0 hG h0 => Rv _ W _ h0 k1))
    (ah (zw rfl (aT 2) rfl rfl)
    Rg.bg)))) ?_
   intro v1 V1 hG1 hv1 hne1
   simp only [Rg.puts, Act.put, tA]
   have e3 : v1 3 = .bool false := hv1 3 de
   simp only [e3]
   have hO := hG1.1
   clear HO
   have HO := hide hO
   clear hO hG1 hv1 hne1
   try clear e3
   go_upto_region 3 with fail
   refine Rg.di 7 25 (Rg.pick [Rg.au (.pointer (some ⟨w.heap.size, 7, none⟩)), ax [.q x], jw [ax [iv (Wd.told x).n, iv (Wd.told x).d], Rg.au (.int .i64 (Wd.told x).e)], jw [ax [iv (Wd.told x).n, iv (Wd.told x).d], Rg.au (.int .i64 (Wd.told x).e)], ax [iv (Wd.told x).n, iv (Wd.told x).d], Rg.au (.int .i64 (Wd.told x).e), qj 23 zR V1.heap.size]) (az w _ V1) dz [6] kr rfl (Rg.ek.pick ⟨Rg.ae _, bf _, jm ⟨(bf _), (Rg.ae _), trivial⟩, jm ⟨(bf _), (Rg.ae _), trivial⟩, bf _, Rg.ae _, qz _ _ _, trivial⟩) (az.begin (aa HO))
    (ah (Ei (b := w.heap.size) (off := 0) rfl aF rfl rfl)
    (ah (jc Fu wz (aT 0) [.k (eK f)] [.q x] [])
    (ah (sc1 Tryz.func69 (aT 1) (fun W v0 hG h0 => asj h0))
    (ah (df rfl (aT 2))
    (ah (mf (ts := [ax [iv (Wd.told x).n, iv (Wd.told x).d], Rg.au (.int .i64 (Wd.told x).e)]) rfl (aT 3) (of_decide_eq_true rfl) rfl)
    (ah (mf (ts := [ax [iv (Wd.told x).n, iv (Wd.told x).d], Rg.au (.int .i64 (Wd.told x).e)]) rfl (aT 3) (of_decide_eq_true rfl) rfl)
    (ah (uh Zd rfl az.step az.size rfl (xm (by intro j hj; simp at hj; (repeat' (first | (rcases hj with rfl | hj))) <;> first | (subst hj; exact ⟨_, _, _, rfl⟩) | exact ⟨_, _, _, rfl⟩)))
    Rg.bg))))))) ?_
   intro v2 V2 hG2 hv2 hne2
   simp only [Rg.puts, Act.put, tA]
   have e5 : v2 5 = .int .i64 (Wd.told x).e := hv2 5 de
   obtain ⟨bou, e6, Bb, El⟩ := (show qj 23 zR V1.heap.size V2 (v2 6) from hv2 6 de)
   simp only [e5, e6]
   have hO := hG2.1
   replace hO := Own.add (aa HO) hG2.2 Bb El
   clear Bb El
   refine oo hO 0 [] zR [iv (Wd.told x).n, iv (Wd.told x).d] [] rfl Oy rfl (show ax [iv (Wd.told x).n, iv (Wd.told x).d] V2 (v2 4) from hv2 4 de) rfl rfl rfl ?_
   intro Jo jb hk0
   replace hO := jb
   clear jb
   clear HO
   have HO := hide hO
   clear hO hG2 hv2 hne2 hk0
   try clear e5 e6
   go_upto_region 4 with fail
   refine Rg.di 2 25 (Rg.pick [Rg.au (.int .i64 (Wd.told x).e), Rg.au (.bool true)]) (az w _ Jo) dz [] kr rfl (Rg.ek.pick ⟨Rg.ae _, Rg.ae _, trivial⟩) (az.begin (aa HO))
    (ah (df rfl aF)
    (ah (Ba rfl (aT 0) (Rg.je _) rfl k2)
    Rg.bg)) ?_
   intro v3 V3 hG3 hv3 mh
   simp only [Rg.puts, Act.put, tA]
   have e1 : v3 1 = .bool true := hv3 1 de
   simp only [e1]
   have hO := hG3.1
   clear HO
   have HO := hide hO
   clear hO hG3 hv3 mh
   try clear e1
   go_upto_region 5 with fail
   refine Rg.di 2 25 (Rg.pick [ax [.k (eK z7), iv 0, iv 0], Rg.au (.int .i64 (Wd.told x).e)]) (az w _ V3) dz [] kr rfl (Rg.ek.pick ⟨bf _, Rg.ae _, trivial⟩) (az.begin (aa HO))
    (ah (atv rfl rfl)
    (ah (df rfl aF)
    Rg.bg)) ?_
   intro v4 V4 hG4 hv4 tu
   simp only [Rg.puts, Act.put, tA]
   have e1 : v4 1 = .int .i64 (Wd.told x).e := hv4 1 de
   simp only [e1]
   have hO := hG4.1
   refine oo hO 1 [] zU [.k (eK z7), iv 0, iv 0] [] rfl Bo rfl (show ax [.k (eK z7), iv 0, iv 0] V4 (v4 0) from hv4 0 de) rfl rfl rfl ?_
   intro Gr jb hk0
   replace hO := jb
   clear jb
   clear HO
   have HO := hide hO
   clear hO hG4 hv4 tu hk0
   try clear e1
   go_wp2_with fail
   exact Im Tryz.results105 Ps rfl rfl (aa HO) wz rfl rfl
 ·
  have k1 : decide (xw f) = false := decide_eq_false g1
  have hr : t = ⟨z7, 0, 0, 3⟩ := by rw [aa HR]; exact if_neg g1
  subst hr
  clear HR
  go_upto_region 1 with fail
  refine Rg.di 4 25 (Rg.pick [Rg.au (.pointer (some ⟨w.heap.size, 0, none⟩)), ax [.k (eK f)], Rg.au (.bool false), Rg.au (.bool true)]) (az w _ W0) dz [] kr rfl (Rg.ek.pick ⟨Rg.ae _, bf _, Rg.ae _, Rg.ae _, trivial⟩) (az.begin (aa HO))
   (ah (Br (b := w.heap.size) (off := 0) rfl aF rfl rfl)
   (ah (jc Bu wz (aT 0) [] [.k (eK f)] [.q x])
   (ah (sc1 Tryz.func96 (aT 1) (fun W v0 hG h0 => Rv _ W _ h0 k1))
   (ah (zw rfl (aT 2) rfl rfl)
   Rg.bg)))) ?_
  intro v1 V1 hG1 hv1 hne1
  simp only [Rg.puts, Act.put, tA]
  have e3 : v1 3 = .bool true := hv1 3 de
  simp only [e3]
  have hO := hG1.1
  clear HO
  have HO := hide hO
  clear hO hG1 hv1 hne1
  try clear e3
  go_upto_region 2 with fail
  refine Rg.di 1 25 (Rg.pick [ax [.k (eK z7), iv 0, iv 0]]) (az w _ V1) dz [] kr rfl (Rg.ek.pick ⟨bf _, trivial⟩) (az.begin (aa HO))
   (ah (atv rfl rfl)
   Rg.bg) ?_
  intro v2 V2 hG2 hv2 hne2
  simp only [Rg.puts, Act.put, tA]
  have hO := hG2.1
  refine oo hO 0 [] zU [.k (eK z7), iv 0, iv 0] [] rfl Bo rfl (show ax [.k (eK z7), iv 0, iv 0] V2 (v2 0) from hv2 0 de) rfl rfl rfl ?_
  intro Jo jb hk0
  replace hO := jb
  clear jb
  clear HO
  have HO := hide hO
  clear hO hG2 hv2 hne2 hk0
  go_wp2_with fail
  exact Im Tryz.results105 Ps rfl rfl (aa HO) me0 rfl rfl
end Sb


namespace Sb
def ayk (f g : Nat → Int) : Prop := f 0 = g 0 ∧ f 1 = g 1 ∧ f 2 = g 2 ∧ f 3 = g 3 ∧ f 4 = g 4 ∧ f 5 = g 5 ∧ f 6 = g 6
instance (f g : Nat → Int) : Decidable (ayk f g) := by unfold ayk; infer_instance
theorem avj : (Tryz.prog.info? 3).map (fun i => i.size) = some 1 := by kernel_rfl
end Sb


namespace Sb
theorem akx {f : Nat → Int} {n d : Int} (w : World) (u0 : Value) (h0 : ax [.k (eK f), iv n, iv d] w u0) : Calls Tryz.prog 31 #[u0] w (ic (Rg.au (.int .i64 (Sn f n d))) w) := by
 obtain ⟨v, hv⟩ : ∃ v, v = Sn f n d := ⟨_, rfl⟩
 rw [← hv]
 have HV := hide hv
 clear hv
 have hu0 := Aw h0
 subst hu0
 go_enter Tryz.func31, Tryz.ntmps31
 go_upto_region 1 with fail
 have hO := (Own.push (T := 44) (ls := [.k (eK f), iv n, iv d]) (Own.nil w) (fu.e (fu.v (lh _) (fu.v (lh _) rfl))) (w.heap.size) rfl)
 generalize w.alloc (.cells #[.int .i64 (f 0), .int .i64 (f 1), .int .i64 (f 2), .int .i64 (f 3), .int .i64 (f 4), .int .i64 (f 5), .int .i64 (f 6), .int .i64 n, .int .i64 d] 44) = W0 at *
 have HO := hide hO
 clear hO

 go_wp2_with fail
 go_loopw [3] (fun vk wr => ∃ k : Nat, k ≤ 7 ∧ vk = .int .i64 ((k : Nat) : Int) ∧ (∀ j, j < k → -9 ≤ f j ∧ f j ≤ 9) ∧ Hid (Own w [(w.heap.size, 44, [.k (eK f), iv n, iv d])] wr)) (fun vk _ => 7 - (intOf vk).toNat)
 case atStart => exact ⟨0, by omega, rfl, (by intro j hj; omega), HO⟩
 case round =>
  obtain ⟨k, hk, rfl, hall, HO⟩ := hrel
  have HK := hide hk
  have HAL := hide hall
  clear hk hall
  by_cases g1 : k < 7
  ·
   have d1 : decide ((k : Int) < 7) = true := decide_eq_true om
   have xc := hide g1
   clear g1
   go_upto_region 2 with fail
   refine Rg.di 2 30 (Rg.pick [Rg.au (.int .i64 (k : Int)), Rg.au (.bool true)]) (az w _ wr) dz [] kr rfl (Rg.ek.pick ⟨Rg.ae _, Rg.ae _, trivial⟩) (az.begin (aa HO))
    (ah (df rfl aF)
    (ah (xq rfl (aT 0) (Rg.je _) rfl d1)
    Rg.bg)) ?_
   intro v1 V1 hG1 hv1 hne1
   simp only [Rg.puts, Act.put, tA]
   have e1 : v1 1 = .bool true := hv1 1 de
   simp only [e1]
   have hO := hG1.1
   clear HO
   have HO := hide hO
   clear hO hG1 hv1 hne1
   try clear e1
   clear d1
   by_cases g2 : f k < -9
   ·
    have k2 : decide (f k < -9) = true := decide_eq_true g2
    have hv : v = 1 := by rw [aa HV]; exact if_neg (fun h => by have := h.1 k (aa xc); omega)
    subst hv
    clear HV
    go_upto_region 4 with fail
    refine Rg.di 12 30 (Rg.pick [Rg.au (.int .i64 (k : Int)), Rg.au (.pointer (some ⟨w.heap.size, 0, none⟩)), Rg.au (.pointer (some ⟨w.heap.size, k, none⟩)), Rg.au (.int .i64 (f k)), Rg.au (.bool true), Rg.au (.bool true), Rg.au undef, Rg.au undef, Rg.au undef, Rg.au undef, Rg.au undef, Rg.au (.bool true)]) (az w _ V1) dz [] kr rfl (Rg.ek.pick ⟨Rg.ae _, Rg.ae _, Rg.ae _, Rg.ae _, Rg.ae _, Rg.ae _, Rg.ae _, Rg.ae _, Rg.ae _, Rg.ae _, Rg.ae _, Rg.ae _, trivial⟩) (az.begin (aa HO))
     (ah (df rfl aF)
     (ah (vw (b := w.heap.size) (off := 0) rfl aF rfl rfl)
     (ah (Fp (b := w.heap.size) (k := k) rfl (aT 1) (aT 0) (aa xc) rfl)
     (ah (Nk (f := f) me0 rfl (aT 2) (aa xc) rfl rfl)
     (ah (xq rfl (aT 3) (Rg.je _) rfl k2)
     (ah (df rfl (aT 4))
     (Rg.dm (Rg.pg (d := 13) rfl kr rfl rfl pq rfl rfl)
     (Rg.dm (Rg.pg (d := 13) rfl kr rfl rfl pq rfl rfl)
     (Rg.dm (Rg.pg (d := 13) rfl kr rfl rfl pq rfl rfl)
     (Rg.dm (Rg.pg (d := 13) rfl kr rfl rfl pq rfl rfl)
     (Rg.dm (Rg.pg (d := 13) rfl kr rfl rfl pq rfl rfl)
     (ah (yc rfl (aT 5) (Rg.je _))
     Rg.bg)))))))))))) ?_
    intro v2 V2 hG2 hv2 hne2
    simp only [Rg.puts, Act.put, tA]
    have e11 : v2 11 = .bool true := hv2 11 de
    simp only [e11]
    have hO := hG2.1
    clear HO
    have HO := hide hO
    clear hO hG2 hv2 hne2
    try clear e11
    go_upto_region 5 with fail
    refine Rg.di 1 30 (Rg.pick [Rg.au (.int .i64 1)]) (az w _ V2) dz [] kr rfl (Rg.ek.pick ⟨Rg.ae _, trivial⟩) (az.begin (aa HO))
     (ah (ik rfl (Rg.je _))
     Rg.bg) ?_
    intro v3 V3 hG3 hv3 mh
    simp only [Rg.puts, Act.put, tA]
    have e0 : v3 0 = .int .i64 1 := hv3 0 de
    simp only [e0]
    have hO := hG3.1
    clear HO
    have HO := hide hO
    clear hO hG3 hv3 mh
    try clear e0
    go_wp2_with fail
    exact yz Tryz.results31 rfl (aa HO).bel rfl
   ·
    by_cases g3 : 9 < f k
    ·
     have k2 : decide (f k < -9) = false := decide_eq_false g2
     have k3 : decide (9 < f k) = true := decide_eq_true g3
     have hv : v = 1 := by rw [aa HV]; exact if_neg (fun h => by have := h.1 k (aa xc); omega)
     subst hv
     clear HV
     go_upto_region 4 with fail
     refine Rg.di 12 30 (Rg.pick [Rg.au (.int .i64 (k : Int)), Rg.au (.pointer (some ⟨w.heap.size, 0, none⟩)), Rg.au (.pointer (some ⟨w.heap.size, k, none⟩)), Rg.au (.int .i64 (f k)), Rg.au (.bool false), Rg.au (.bool false), Rg.au (.int .i64 (k : Int)), Rg.au (.pointer (some ⟨w.heap.size, 0, none⟩)), Rg.au (.pointer (some ⟨w.heap.size, k, none⟩)), Rg.au (.int .i64 (f k)), Rg.au (.bool true), Rg.au (.bool true)]) (az w _ V1) dz [] kr rfl (Rg.ek.pick ⟨Rg.ae _, Rg.ae _, Rg.ae _, Rg.ae _, Rg.ae _, Rg.ae _, Rg.ae _, Rg.ae _, Rg.ae _, Rg.ae _, Rg.ae _, Rg.ae _, trivial⟩) (az.begin (aa HO))
      (ah (df rfl aF)
      (ah (vw (b := w.heap.size) (off := 0) rfl aF rfl rfl)
      (ah (Fp (b := w.heap.size) (k := k) rfl (aT 1) (aT 0) (aa xc) rfl)
      (ah (Nk (f := f) me0 rfl (aT 2) (aa xc) rfl rfl)
      (ah (xq rfl (aT 3) (Rg.je _) rfl k2)
      (ah (df rfl (aT 4))
      (Rg.dm (Rg.fq (d := 13) rfl kr rfl (df rfl aF))
      (Rg.dm (Rg.fq (d := 13) rfl kr rfl (vw (b := w.heap.size) (off := 0) rfl aF rfl rfl))
      (Rg.dm (Rg.fq (d := 13) rfl kr rfl (Fp (b := w.heap.size) (k := k) rfl (aT 7) (aT 6) (aa xc) rfl))
      (Rg.dm (Rg.fq (d := 13) rfl kr rfl (Nk (f := f) me0 rfl (aT 8) (aa xc) rfl rfl))
      (Rg.dm (Rg.fq (d := 13) rfl kr rfl (Uz rfl (aT 9) (Rg.je _) rfl k3))
      (ah (qo rfl (aT 5) (aT 10))
      Rg.bg)))))))))))) ?_
     intro v2 V2 hG2 hv2 hne2
     simp only [Rg.puts, Act.put, tA]
     have e11 : v2 11 = .bool true := hv2 11 de
     simp only [e11]
     have hO := hG2.1
     clear HO
     have HO := hide hO
     clear hO hG2 hv2 hne2
     try clear e11
     go_upto_region 5 with fail
     refine Rg.di 1 30 (Rg.pick [Rg.au (.int .i64 1)]) (az w _ V2) dz [] kr rfl (Rg.ek.pick ⟨Rg.ae _, trivial⟩) (az.begin (aa HO))
      (ah (ik rfl (Rg.je _))
      Rg.bg) ?_
     intro v3 V3 hG3 hv3 mh
     simp only [Rg.puts, Act.put, tA]
     have e0 : v3 0 = .int .i64 1 := hv3 0 de
     simp only [e0]
     have hO := hG3.1
     clear HO
     have HO := hide hO
     clear hO hG3 hv3 mh
     try clear e0
     go_wp2_with fail
     exact yz Tryz.results31 rfl (aa HO).bel rfl
    ·
     have k2 : decide (f k < -9) = false := decide_eq_false g2
     have k3 : decide (9 < f k) = false := decide_eq_false g3
     have HN := hide (show ∀ j, j < k + 1 → -9 ≤ f j ∧ f j ≤ 9 from fun j hj => by
      rcases Nat.lt_succ_iff_lt_or_eq.1 hj with h | rfl
      ·
       exact (aa HAL) j h
      ·
       omega)
     clear g2 g3
     go_upto_region 4 with fail
     refine Rg.di 12 30 (Rg.pick [Rg.au (.int .i64 (k : Int)), Rg.au (.pointer (some ⟨w.heap.size, 0, none⟩)), Rg.au (.pointer (some ⟨w.heap.size, k, none⟩)), Rg.au (.int .i64 (f k)), Rg.au (.bool false), Rg.au (.bool false), Rg.au (.int .i64 (k : Int)), Rg.au (.pointer (some ⟨w.heap.size, 0, none⟩)), Rg.au (.pointer (some ⟨w.heap.size, k, none⟩)), Rg.au (.int .i64 (f k)), Rg.au (.bool false), Rg.au (.bool false)]) (az w _ V1) dz [] kr rfl (Rg.ek.pick ⟨Rg.ae _, Rg.ae _, Rg.ae _, Rg.ae _, Rg.ae _, Rg.ae _, Rg.ae _, Rg.ae _, Rg.ae _, Rg.ae _, Rg.ae _, Rg.ae _, trivial⟩) (az.begin (aa HO))
      (ah (df rfl aF)
      (ah (vw (b := w.heap.size) (off := 0) rfl aF rfl rfl)
      (ah (Fp (b := w.heap.size) (k := k) rfl (aT 1) (aT 0) (aa xc) rfl)
      (ah (Nk (f := f) me0 rfl (aT 2) (aa xc) rfl rfl)
      (ah (xq rfl (aT 3) (Rg.je _) rfl k2)
      (ah (df rfl (aT 4))
      (Rg.dm (Rg.fq (d := 13) rfl kr rfl (df rfl aF))
      (Rg.dm (Rg.fq (d := 13) rfl kr rfl (vw (b := w.heap.size) (off := 0) rfl aF rfl rfl))
      (Rg.dm (Rg.fq (d := 13) rfl kr rfl (Fp (b := w.heap.size) (k := k) rfl (aT 7) (aT 6) (aa xc) rfl))
      (Rg.dm (Rg.fq (d := 13) rfl kr rfl (Nk (f := f) me0 rfl (aT 8) (aa xc) rfl rfl))
      (Rg.dm (Rg.fq (d := 13) rfl kr rfl (Uz rfl (aT 9) (Rg.je _) rfl k3))
      (ah (qo rfl (aT 5) (aT 10))
      Rg.bg)))))))))))) ?_
     intro v2 V2 hG2 hv2 hne2
     simp only [Rg.puts, Act.put, tA]
     have e11 : v2 11 = .bool false := hv2 11 de
     simp only [e11]
     have hO := hG2.1
     clear HO
     have HO := hide hO
     clear hO hG2 hv2 hne2
     try clear e11
     clear k2 k3
     go_wp2_with fail
     go_roundw
     case rel =>
      exact ⟨k + 1, by have := aa xc; omega, Ql (aa xc) om, aa HN, HO⟩
     case measure =>
      have h1 := aa xc
      clear HO
      rw [Gd h1 om]
      exact measS h1
  ·
   obtain rfl : k = 7 := by have := aa HK; omega
   clear g1
   have HF := hide (show xw f from aa HAL)
   clear HAL
   go_upto_region 2 with fail
   refine Rg.di 2 30 (Rg.pick [Rg.au (.int .i64 ((7 : Nat) : Int)), Rg.au (.bool false)]) (az w _ wr) dz [] kr rfl (Rg.ek.pick ⟨Rg.ae _, Rg.ae _, trivial⟩) (az.begin (aa HO))
    (ah (df rfl aF)
    (ah (xq rfl (aT 0) (Rg.je _) rfl rfl)
    Rg.bg)) ?_
   intro v1 V1 hG1 hv1 hne1
   simp only [Rg.puts, Act.put, tA]
   have e1 : v1 1 = .bool false := hv1 1 de
   simp only [e1]
   have hO := hG1.1
   clear HO
   have HO := hide hO
   clear hO hG1 hv1 hne1
   try clear e1
   by_cases g2 : Wd.qm n d
   ·
    by_cases g3 : n ≤ 0
    ·
     have k2 : decide (Wd.qm n d) = true := decide_eq_true g2
     have k3 : decide (n ≤ 0) = true := decide_eq_true g3
     have hv : v = 1 := by rw [aa HV]; exact if_neg (fun h => absurd h.2.2 om)
     subst hv
     clear HV
     go_upto_region 6 with fail
     refine Rg.di 10 30 (Rg.pick [Rg.au (.pointer (some ⟨w.heap.size, 7, none⟩)), ax [iv n, iv d], Rg.au (.bool true), Rg.au (.bool false), Rg.au (.bool false), Rg.au (.pointer (some ⟨w.heap.size, 7, none⟩)), Rg.au (.pointer (some ⟨w.heap.size, 7, none⟩)), Rg.au (.int .i64 n), Rg.au (.bool true), Rg.au (.bool true)]) (az w _ V1) dz [] kr rfl (Rg.ek.pick ⟨Rg.ae _, bf _, Rg.ae _, Rg.ae _, Rg.ae _, Rg.ae _, Rg.ae _, Rg.ae _, Rg.ae _, Rg.ae _, trivial⟩) (az.begin (aa HO))
      (ah (tq (b := w.heap.size) (off := 0) rfl aF rfl rfl)
      (ah (jc zn me0 (aT 0) [.k (eK f)] [iv n, iv d] [])
      (ah (sc1 Tryz.func70 (aT 1) (fun W v0 hG h0 => k2 ▸ aup h0))
      (ah (zw rfl (aT 2) rfl rfl)
      (ah (df rfl (aT 3))
      (Rg.dm (Rg.fq (d := 24) rfl kr rfl (tq (b := w.heap.size) (off := 0) rfl aF rfl rfl))
      (Rg.dm (Rg.fq (d := 24) rfl kr rfl (Kc (b := w.heap.size) (off := 7) rfl (aT 5) rfl rfl))
      (Rg.dm (Rg.fq (d := 24) rfl kr rfl (Qv Hg me0 (aT 6) [.k (eK f)] [iv d] rfl))
      (Rg.dm (Rg.fq (d := 24) rfl kr rfl (adt rfl (aT 7) (Rg.je _) rfl k3))
      (ah (qo rfl (aT 4) (aT 8))
      Rg.bg)))))))))) ?_
     intro v2 V2 hG2 hv2 hne2
     simp only [Rg.puts, Act.put, tA]
     have e9 : v2 9 = .bool true := hv2 9 de
     simp only [e9]
     have hO := hG2.1
     clear HO
     have HO := hide hO
     clear hO hG2 hv2 hne2
     try clear e9
     go_upto_region 7 with fail
     refine Rg.di 1 30 (Rg.pick [Rg.au (.int .i64 1)]) (az w _ V2) dz [] kr rfl (Rg.ek.pick ⟨Rg.ae _, trivial⟩) (az.begin (aa HO))
      (ah (ik rfl (Rg.je _))
      Rg.bg) ?_
     intro v3 V3 hG3 hv3 mh
     simp only [Rg.puts, Act.put, tA]
     have e0 : v3 0 = .int .i64 1 := hv3 0 de
     simp only [e0]
     have hO := hG3.1
     clear HO
     have HO := hide hO
     clear hO hG3 hv3 mh
     try clear e0
     go_wp2_with fail
     exact yz Tryz.results31 rfl (aa HO).bel rfl
    ·
     have k2 : decide (Wd.qm n d) = true := decide_eq_true g2
     have k3 : decide (n ≤ 0) = false := decide_eq_false g3
     have hv : v = 0 := by rw [aa HV]; exact if_pos ⟨aa HF, g2, by omega⟩
     subst hv
     clear HV
     go_upto_region 6 with fail
     refine Rg.di 10 30 (Rg.pick [Rg.au (.pointer (some ⟨w.heap.size, 7, none⟩)), ax [iv n, iv d], Rg.au (.bool true), Rg.au (.bool false), Rg.au (.bool false), Rg.au (.pointer (some ⟨w.heap.size, 7, none⟩)), Rg.au (.pointer (some ⟨w.heap.size, 7, none⟩)), Rg.au (.int .i64 n), Rg.au (.bool false), Rg.au (.bool false)]) (az w _ V1) dz [] kr rfl (Rg.ek.pick ⟨Rg.ae _, bf _, Rg.ae _, Rg.ae _, Rg.ae _, Rg.ae _, Rg.ae _, Rg.ae _, Rg.ae _, Rg.ae _, trivial⟩) (az.begin (aa HO))
      (ah (tq (b := w.heap.size) (off := 0) rfl aF rfl rfl)
      (ah (jc zn me0 (aT 0) [.k (eK f)] [iv n, iv d] [])
      (ah (sc1 Tryz.func70 (aT 1) (fun W v0 hG h0 => k2 ▸ aup h0))
      (ah (zw rfl (aT 2) rfl rfl)
      (ah (df rfl (aT 3))
      (Rg.dm (Rg.fq (d := 24) rfl kr rfl (tq (b := w.heap.size) (off := 0) rfl aF rfl rfl))
      (Rg.dm (Rg.fq (d := 24) rfl kr rfl (Kc (b := w.heap.size) (off := 7) rfl (aT 5) rfl rfl))
      (Rg.dm (Rg.fq (d := 24) rfl kr rfl (Qv Hg me0 (aT 6) [.k (eK f)] [iv d] rfl))
      (Rg.dm (Rg.fq (d := 24) rfl kr rfl (adt rfl (aT 7) (Rg.je _) rfl k3))
      (ah (qo rfl (aT 4) (aT 8))
      Rg.bg)))))))))) ?_
     intro v2 V2 hG2 hv2 hne2
     simp only [Rg.puts, Act.put, tA]
     have e9 : v2 9 = .bool false := hv2 9 de
     simp only [e9]
     have hO := hG2.1
     clear HO
     have HO := hide hO
     clear hO hG2 hv2 hne2
     try clear e9
     go_upto_region 8 with fail
     refine Rg.di 1 30 (Rg.pick [Rg.au (.int .i64 0)]) (az w _ V2) dz [] kr rfl (Rg.ek.pick ⟨Rg.ae _, trivial⟩) (az.begin (aa HO))
      (ah (ik rfl (Rg.je _))
      Rg.bg) ?_
     intro v3 V3 hG3 hv3 mh
     simp only [Rg.puts, Act.put, tA]
     have e0 : v3 0 = .int .i64 0 := hv3 0 de
     simp only [e0]
     have hO := hG3.1
     clear HO
     have HO := hide hO
     clear hO hG3 hv3 mh
     try clear e0
     go_wp2_with fail
     exact yz Tryz.results31 rfl (aa HO).bel rfl
   ·
    have k2 : decide (Wd.qm n d) = false := decide_eq_false g2
    have hv : v = 1 := by rw [aa HV]; exact if_neg (fun h => g2 h.2.1)
    subst hv
    clear HV
    go_upto_region 6 with fail
    refine Rg.di 10 30 (Rg.pick [Rg.au (.pointer (some ⟨w.heap.size, 7, none⟩)), ax [iv n, iv d], Rg.au (.bool false), Rg.au (.bool true), Rg.au (.bool true), Rg.au undef, Rg.au undef, Rg.au undef, Rg.au undef, Rg.au (.bool true)]) (az w _ V1) dz [] kr rfl (Rg.ek.pick ⟨Rg.ae _, bf _, Rg.ae _, Rg.ae _, Rg.ae _, Rg.ae _, Rg.ae _, Rg.ae _, Rg.ae _, Rg.ae _, trivial⟩) (az.begin (aa HO))
     (ah (tq (b := w.heap.size) (off := 0) rfl aF rfl rfl)
     (ah (jc zn me0 (aT 0) [.k (eK f)] [iv n, iv d] [])
     (ah (sc1 Tryz.func70 (aT 1) (fun W v0 hG h0 => k2 ▸ aup h0))
     (ah (zw rfl (aT 2) rfl rfl)
     (ah (df rfl (aT 3))
     (Rg.dm (Rg.pg (d := 24) rfl kr rfl rfl pq rfl rfl)
     (Rg.dm (Rg.pg (d := 24) rfl kr rfl rfl pq rfl rfl)
     (Rg.dm (Rg.pg (d := 24) rfl kr rfl rfl pq rfl rfl)
     (Rg.dm (Rg.pg (d := 24) rfl kr rfl rfl pq rfl rfl)
     (ah (yc rfl (aT 4) (Rg.je _))
     Rg.bg)))))))))) ?_
    intro v2 V2 hG2 hv2 hne2
    simp only [Rg.puts, Act.put, tA]
    have e9 : v2 9 = .bool true := hv2 9 de
    simp only [e9]
    have hO := hG2.1
    clear HO
    have HO := hide hO
    clear hO hG2 hv2 hne2
    try clear e9
    go_upto_region 7 with fail
    refine Rg.di 1 30 (Rg.pick [Rg.au (.int .i64 1)]) (az w _ V2) dz [] kr rfl (Rg.ek.pick ⟨Rg.ae _, trivial⟩) (az.begin (aa HO))
     (ah (ik rfl (Rg.je _))
     Rg.bg) ?_
    intro v3 V3 hG3 hv3 mh
    simp only [Rg.puts, Act.put, tA]
    have e0 : v3 0 = .int .i64 1 := hv3 0 de
    simp only [e0]
    have hO := hG3.1
    clear HO
    have HO := hide hO
    clear hO hG3 hv3 mh
    try clear e0
    go_wp2_with fail
    exact yz Tryz.results31 rfl (aa HO).bel rfl
end Sb


namespace Sb
end Sb


namespace Sb
end Sb


namespace Sb
end Sb


namespace Sb
theorem awr (d : Nat) (f : Nat → Int) (w : World) : (Op.equalIn (d + 2) 42 (.agg #[Value.int .i64 (f 0), Value.int .i64 (f 1), Value.int .i64 (f 2), Value.int .i64 (f 3), Value.int .i64 (f 4), Value.int .i64 (f 5), Value.int .i64 (f 6)]) (.agg #[Value.int .i64 (f 0), Value.int .i64 (f 1), Value.int .i64 (f 2), Value.int .i64 (f 3), Value.int .i64 (f 4), Value.int .i64 (f 5), Value.int .i64 (f 6)])).run Tryz.prog w = .ok true w := by
 obtain ⟨i, hi⟩ : ∃ i, Tryz.prog.info? 3 = some i := by
  have := avj
  cases h : Tryz.prog.info? 3 with
  | none => rw [h] at this; cases this
  | some i => exact ⟨i, rfl⟩
 have hc : Tryz.prog.cellsOf 3 = 1 := by kernel_rfl
 have key := fun w => run_equalIn_array (P := Tryz.prog) (w := w) (d + 1) (t := 42) (e := 3) (n := 7) #[Value.int .i64 (f 0), Value.int .i64 (f 1), Value.int .i64 (f 2), Value.int .i64 (f 3), Value.int .i64 (f 4), Value.int .i64 (f 5), Value.int .i64 (f 6)] #[Value.int .i64 (f 0), Value.int .i64 (f 1), Value.int .i64 (f 2), Value.int .i64 (f 3), Value.int .i64 (f 4), Value.int .i64 (f 5), Value.int .i64 (f 6)] Tryz.underlying42 hi
 rw [hc, show List.range 7 = [0, 1, 2, 3, 4, 5, 6] by rfl] at key
 have step : ∀ (a : Int) (w : World), (Op.equalIn (d + 1) 3 (.int .i64 a) (.int .i64 a)).run Tryz.prog w = .ok true w := fun a w => by
  unfold Op.equalIn
  simp [go_sem]
 have hp : ∀ (i : Nat) (w : World), i < 7 → (part 3 #[Value.int .i64 (f 0), Value.int .i64 (f 1), Value.int .i64 (f 2), Value.int .i64 (f 3), Value.int .i64 (f 4), Value.int .i64 (f 5), Value.int .i64 (f 6)] (i * 1)).run Tryz.prog w = .ok (.int .i64 (f i)) w := fun i w hi => by
  have hc : i = 0 ∨ i = 1 ∨ i = 2 ∨ i = 3 ∨ i = 4 ∨ i = 5 ∨ i = 6 := by omega
  rcases hc with rfl | rfl | rfl | rfl | rfl | rfl | rfl <;> simp [go_sem]
 have it : ∀ (i : Nat) (is : List Nat) (w : World), i < 7 → (Op.eqItems (d + 1) 3 1 #[Value.int .i64 (f 0), Value.int .i64 (f 1), Value.int .i64 (f 2), Value.int .i64 (f 3), Value.int .i64 (f 4), Value.int .i64 (f 5), Value.int .i64 (f 6)] #[Value.int .i64 (f 0), Value.int .i64 (f 1), Value.int .i64 (f 2), Value.int .i64 (f 3), Value.int .i64 (f 4), Value.int .i64 (f 5), Value.int .i64 (f 6)] (i :: is)).run Tryz.prog w = (Op.eqItems (d + 1) 3 1 #[Value.int .i64 (f 0), Value.int .i64 (f 1), Value.int .i64 (f 2), Value.int .i64 (f 3), Value.int .i64 (f 4), Value.int .i64 (f 5), Value.int .i64 (f 6)] #[Value.int .i64 (f 0), Value.int .i64 (f 1), Value.int .i64 (f 2), Value.int .i64 (f 3), Value.int .i64 (f 4), Value.int .i64 (f 5), Value.int .i64 (f 6)] is).run Tryz.prog w := fun i is w hi => by
  simp only [Op.eqItems, Sem.run_bind, hp _ _ hi, Result.andThen_ok, step]
  simp
 refine (key w).trans ?_
 rw [it 0 _ _ om, it 1 _ _ om, it 2 _ _ om, it 3 _ _ om, it 4 _ _ om, it 5 _ _ om, it 6 _ _ om]
 simp [Op.eqItems]
abbrev xz (f : Nat → Int) (n d : Int) : Value := .agg #[.int .i64 (f 0), .int .i64 (f 1), .int .i64 (f 2), .int .i64 (f 3), .int .i64 (f 4), .int .i64 (f 5), .int .i64 (f 6), .int .i64 n, .int .i64 d]
theorem awq (k : Nat) (n d : Int) (w : World) : (Op.equalIn (k + 2) 23 (.agg #[.int .i64 n, .int .i64 d]) (.agg #[.int .i64 n, .int .i64 d])).run Tryz.prog w = .ok true w := by
 unfold Op.equalIn
 simp [go_sem]
theorem awp (k : Nat) (f : Nat → Int) (n d : Int) (w : World) : (Op.equalIn (k + 3) 44 (xz f n d) (xz f n d)).run Tryz.prog w = .ok true w := by
 have h1 := fun w => awr k f w
 have h2 := fun w => awq k n d w
 unfold Op.equalIn
 simp [go_sem, h1, h2]
def aoi (f : Nat → Int) (n d e : Int) : World → Value → Prop := fun W v => ∃ b1 b2, v = .func (.func 97) #[] #[.pointer (some ⟨b1, 0, none⟩), .pointer (some ⟨b2, 0, none⟩)] ∧ si W b1 44 [.k (eK f), iv n, iv d] ∧ si W b2 24 [iv e]
theorem bjt {f : Nat → Int} {n d e : Int} (w : World) (u0 : Value) (h0 : ax [.k (eK f), iv n, iv d] w u0) (u1 : Value) (h1 : Rg.au (.int .i64 e) w u1) : Calls Tryz.prog 32 #[u0, u1] w (ic (aoi f n d e) w) := by
 have hu0 := Aw h0
 subst hu0
 cases h1
 clear h0
 have hmf : ∀ (fn : Fn) (first cap : Array Value) (w : World), (Instr.makeFunc fn first cap).run Tryz.prog w = .ok (.func fn first cap) w := fun _ _ _ _ => rfl
 go_enter Tryz.func32, Tryz.ntmps32
 go_wp2_with fail
 have n1 := heap_alloc_new w (.cells #[.int .i64 (f 0), .int .i64 (f 1), .int .i64 (f 2), .int .i64 (f 3), .int .i64 (f 4), .int .i64 (f 5), .int .i64 (f 6), .int .i64 n, .int .i64 d] 44)
 have hb := ig (Below.refl w.heap.size w) (.cells #[.int .i64 (f 0), .int .i64 (f 1), .int .i64 (f 2), .int .i64 (f 3), .int .i64 (f 4), .int .i64 (f 5), .int .i64 (f 6), .int .i64 n, .int .i64 d] 44)
 have sz : (w.alloc (.cells #[.int .i64 (f 0), .int .i64 (f 1), .int .i64 (f 2), .int .i64 (f 3), .int .i64 (f 4), .int .i64 (f 5), .int .i64 (f 6), .int .i64 n, .int .i64 d] 44)).heap.size = w.heap.size + 1 := by simp only [World.size_alloc]
 generalize w.alloc (.cells #[.int .i64 (f 0), .int .i64 (f 1), .int .i64 (f 2), .int .i64 (f 3), .int .i64 (f 4), .int .i64 (f 5), .int .i64 (f 6), .int .i64 n, .int .i64 d] 44) = W1 at *
 have n2 := heap_alloc_new W1 (.cells #[.int .i64 e] 24)
 have hb2 := ig (Below.refl W1.heap.size W1) (.cells #[.int .i64 e] 24)
 generalize W1.alloc (.cells #[.int .i64 e] 24) = W2 at *
 rw [sz] at n2
 have b1 : si W1 w.heap.size 44 [.k (eK f), iv n, iv d] := ⟨_, n1, fu.e (fu.v (lh _) (fu.v (lh _) rfl))⟩
 exact bodyPost_ret (v := .func (.func 97) #[] #[.pointer (some ⟨w.heap.size, 0, none⟩), .pointer (some ⟨w.heap.size + 1, 0, none⟩)]) (by simp [results, Tryz.results32, go_sem]) rfl
  ⟨_, rfl, ay hb hb2, _, _, rfl, b1.below hb2, ⟨_, n2, fu.v (lh _) rfl⟩⟩
theorem aka {Q : Exit → Act → World → Prop} {l : List Oper} {n : Nat} {T : Nat → World → Value → Prop} {G : World → Prop} {al : List Nat} {a0 : Act} {k d : Nat} {ty : TypeId} {pos : String} {af : Array Edge} {gd : Option (Nat × Bool)} {x y : Operand} {f : Nat → Int} {u v : Int} (hal : al.contains k = false) (hx : Rg.ib l n T a0 k x (ax [.k (eK f), iv u, iv v])) (hy : Rg.ib l n T a0 k y (ax [.k (eK f), iv u, iv v])) (hT : T k = Rg.au (.bool true)) :
  Rg.Step Tryz.prog Q l n T G dz al a0 k { dst := some d, op := .binOp .eql 44 x y 44, type := ty, pos := pos, after := af, guard := gd } := by
 intro a w hG hO hN
 have h1 := Aw (hx a w hO hN)
 have h2 := Aw (hy a w hO hN)
 have key := fun w => awp 9997 f u v w
 have hr : (execOp a.eval { dst := some d, op := .binOp .eql 44 x y 44, type := ty, pos := pos, after := af, guard := gd }).run Tryz.prog w = .ok (.value (.bool true)) w := by
  simp only [execOp, h1, h2]
  simp [go_sem, key]
 exact iq (P := Tryz.prog) hr ⟨_, rfl, hG, Below.refl _ _, by rw [hT]; rfl, fun h => by rw [hal] at h; cases h⟩
theorem bee {Q : Exit → Act → World → Prop} {l : List Oper} {n : Nat} {T : Nat → World → Value → Prop} {G : World → Prop} {al : List Nat} {a0 : Act} {k d : Nat} {ty : TypeId} {pos : String} {af : Array Edge} {gd : Option (Nat × Bool)} {x : Operand} {b : Nat} {e : Int} (hb : ∀ W, G W → si W b 24 [iv e]) (hal : al.contains k = false) (hx : Rg.ib l n T a0 k x (Rg.au (.pointer (some ⟨b, 0, none⟩)))) (hT : T k = Rg.au (.int .i64 e)) :
  Rg.Step Tryz.prog Q l n T G dz al a0 k { dst := some d, op := .load 24 x, type := ty, pos := pos, after := af, guard := gd } := by
 intro a w hG hO hN
 have hp : a.eval x = .pointer (some ⟨b, 0, none⟩) := hx a w hO hN
 obtain ⟨cs, h1, h2⟩ := hb w hG
 obtain ⟨v, rfl, h3⟩ := h2.Ci
 have hc : w.cell? ⟨b, 0, none⟩ = some (.int .i64 e) := by simp [World.cell?, h1]
 have hr : (execOp a.eval { dst := some d, op := .load 24 x, type := ty, pos := pos, after := af, guard := gd }).run Tryz.prog w = .ok (.value (.int .i64 e)) w := by
  simp only [execOp, hp]
  simp [go_sem, hc]
 exact iq (P := Tryz.prog) hr ⟨_, rfl, hG, Below.refl _ _, by rw [hT]; rfl, fun h => by rw [hal] at h; cases h⟩
theorem apl {f : Nat → Int} {n d e : Int} {b1 b2 : Nat} (w : World) (hb : si w b1 44 [.k (eK f), iv n, iv d] ∧ si w b2 24 [iv e]) (u0 : Value) (h0 : ax [.k (eK f), iv n, iv d] w u0) :
  Calls Tryz.prog 97 #[u0, .int .i64 e, .pointer (some ⟨b1, 0, none⟩), .pointer (some ⟨b2, 0, none⟩)] w (ic (Rg.au (.bool true)) w) := by
 have HB := hide hb
 clear hb
 have hu0 := Aw h0
 subst hu0
 go_enter Tryz.func97, Tryz.ntmps97
 go_upto_region 1 with fail
 have hO := (Own.push (T := 44) (ls := [.k (eK f), iv n, iv d]) (Own.nil w) (fu.e (fu.v (lh _) (fu.v (lh _) rfl))) (w.heap.size) rfl)
 generalize w.alloc (.cells #[.int .i64 (f 0), .int .i64 (f 1), .int .i64 (f 2), .int .i64 (f 3), .int .i64 (f 4), .int .i64 (f 5), .int .i64 (f 6), .int .i64 n, .int .i64 d] 44) = W0 at *
 have HO := hide hO
 clear hO
 go_upto_region 1 with fail
 refine Rg.di 9 15 (Rg.pick [ax [.k (eK f), iv n, iv d], ax [.k (eK f), iv n, iv d], Rg.au (.bool true), Rg.au (.bool true), Rg.au (.int .i64 e), Rg.au (.int .i64 e), Rg.au (.bool true), Rg.au (.bool true), Rg.au (.bool true)]) (az w _ W0) dz [] kr rfl (Rg.ek.pick ⟨bf _, bf _, Rg.ae _, Rg.ae _, Rg.ae _, Rg.ae _, Rg.ae _, Rg.ae _, Rg.ae _, trivial⟩) (az.begin (aa HO))
  (ah (apn (b := b1) (off := 0) (TB := 44) (pre := []) (mid := [.k (eK f), iv n, iv d]) (post := []) Bt rfl aF (fun W h => (aa HB).1.below h.1.bel) rfl rfl rfl)
  (ah (jc Bt me0 aF [] [.k (eK f), iv n, iv d] [])
  (ah (aka rfl (aT 0) (aT 1) rfl)
  (ah (df rfl (aT 2))
  (Rg.dm (Rg.fq (d := 10) rfl kr rfl (bee (b := b2) (fun W h => (aa HB).2.below h.1.bel) rfl aF rfl))
  (Rg.dm (Rg.fq (d := 10) rfl kr rfl (df rfl aF))
  (Rg.dm (Rg.fq (d := 10) rfl kr rfl (Td rfl (aT 4) (aT 5) rfl (beq_self_eq_true _)))
  (ah (yc rfl (aT 3) (aT 6))
  (ah (ik rfl (aT 7))
  Rg.bg))))))))) ?_
 intro v1 V1 hG1 hv1 hne1
 simp only [Rg.puts, Act.put, tA]
 have e7 : v1 7 = .bool true := hv1 7 de
 have e8 : v1 8 = .bool true := hv1 8 de
 simp only [e7, e8]
 have hO := hG1.1
 clear HO
 have HO := hide hO
 clear hO hG1 hv1 hne1
 try clear e7 e8
 go_wp2_with fail
 exact yz Tryz.results97 rfl (aa HO).bel rfl
end Sb


namespace Sb
theorem atu {f : Nat → Int} {n d e : Int} : Rg.Da dz (aoi f n d e) := by
 rintro w w' v hb ⟨b1, b2, rfl, h1, h2⟩
 exact ⟨b1, b2, rfl, h1.below hb, h2.below hb⟩
theorem apx {P : Program} {F : Nat} {cap : Array Value} (hF : ∀ (vs : Array Value) (w : World), (callFunc F vs).run P w = .ok (.enter F vs) w) {a : Act} {w : World} {d : Option Tmp} {x : Operand} {xs : Array Operand} {ats : Array TypeId} {ty : TypeId} {pos : String} {af : Array Edge} {gd : Option (Nat × Bool)} (hx : a.eval x = .func (.func F) #[] cap) :
  (execOp a.eval { dst := d, op := .call { callee := .value x, args := xs, argTypes := ats }, type := ty, pos := pos, after := af, guard := gd }).run P w = .ok (.enter F (xs.map a.eval ++ cap)) w := by
 have h := hF (#[] ++ xs.map a.eval ++ cap) w
 rw [Array.empty_append] at h
 rw [← h]
 simp only [execOp, resolve, hx, Deferred.ofValue, invoke]
 simp only [pure_bind, Array.empty_append]
theorem bat {Q : Exit → Act → World → Prop} {l : List Oper} {n : Nat} {T : Nat → World → Value → Prop} {G : World → Prop} {al : List Nat} {a0 : Act} {k d : Nat} {ty : TypeId} {pos : String} {af : Array Edge} {gd : Option (Nat × Bool)} {x x1 x2 : Operand} {ats : Array TypeId} {f : Nat → Int} {u v e : Int} (hal : al.contains k = false) (Fx : ∀ W W', G W → dz W W' → G W') (hf : Rg.ib l n T a0 k x (aoi f u v e)) (h1 : Rg.ib l n T a0 k x1 (ax [.k (eK f), iv u, iv v])) (h2 : Rg.ib l n T a0 k x2 (Rg.au (.int .i64 e))) (hT : T k = Rg.au (.bool true)) :
  Rg.Step Tryz.prog Q l n T G dz al a0 k { dst := some d, op := .call { callee := .value x, args := #[x1, x2], argTypes := ats }, type := ty, pos := pos, after := af, guard := gd } := by
 intro a w hG hO hN
 obtain ⟨b1, b2, e1, B1, B2⟩ := hf a w hO hN
 have e2 : a.eval x2 = .int .i64 e := h2 a w hO hN
 refine Je (apx (Dt Tryz.func97 kr) e1) ?_
 simp only [List.map_toArray, List.map_cons, List.map_nil, e2]
 refine (apl w ⟨B1, B2⟩ (a.eval x1) (h1 a w hO hN)).mono ?_
 rintro e w' ⟨u, rfl, hb, ht⟩
 exact ⟨u, rfl, u, rfl, Fx _ _ hG hb, hb, by rw [hT]; exact ht, fun h => by rw [hal] at h; cases h⟩
theorem aug {ρ : Operand → Value} {w : World} {d : Option Tmp} {x y : Operand} {p0 p1 q0 q1 : Int} {b : Bool} {ty : TypeId} {pos : String} {af : Array Edge} {gd : Option (Nat × Bool)} (h : ρ x = .agg #[.int .i64 p0, .int .i64 p1]) (h' : ρ y = .agg #[.int .i64 q0, .int .i64 q1]) (hb : decide (p0 = q0 ∧ p1 = q1) = b) :
  (execOp ρ { dst := d, op := .binOp .eql 23 x y 23, type := ty, pos := pos, after := af, guard := gd }).run Tryz.prog w = .ok (.value (.bool b)) w := by
 subst hb
 simp only [execOp, h, h']
 by_cases k0 : p0 = q0 <;> by_cases k1 : p1 = q1 <;> simp [go_sem, k0, k1]
theorem apq {Q : Exit → Act → World → Prop} {l : List Oper} {n : Nat} {T : Nat → World → Value → Prop} {G : World → Prop} {al : List Nat} {a0 : Act} {k d : Nat} {ty : TypeId} {pos : String} {af : Array Edge} {gd : Option (Nat × Bool)} {x y : Operand} {p0 p1 q0 q1 : Int} {b : Bool}
  (hal : al.contains k = false) (hx : Rg.ib l n T a0 k x (ax [iv p0, iv p1])) (hy : Rg.ib l n T a0 k y (ax [iv q0, iv q1])) (hb : decide (p0 = q0 ∧ p1 = q1) = b) (hT : T k = Rg.au (.bool b)) :
  Rg.Step Tryz.prog Q l n T G dz al a0 k { dst := some d, op := .binOp .eql 23 x y 23, type := ty, pos := pos, after := af, guard := gd } := by
 intro a w hG hO hN
 exact iq (P := Tryz.prog) (aug (Eo (hx a w hO hN)) (Eo (hy a w hO hN)) hb) ⟨_, rfl, hG, Below.refl _ _, by rw [hT]; rfl, fun h => by rw [hal] at h; cases h⟩
end Sb

namespace Sb
def ents : List (ByteArray × Value) → Nat → List MapEntry
 | [], _ => []
 | (k, v) :: l, j => { key := .string k, val := v, born := j } :: ents l (j + 1)
def xx (W : World) (r : Nat) (l : List (ByteArray × Value)) : Prop := W.heap[r]? = some (.map (ents l 0).toArray l.length)
def findT (s : ByteArray) : List (ByteArray × Value) → Option Value
 | [] => none
 | (k, v) :: l => if s = k then some v else findT s l
theorem xx.below {W W' : World} {r : Nat} {l : List (ByteArray × Value)} (h : xx W r l) (hb : Below W.heap.size W W') : xx W' r l := (hb.block _ (lt_of_block h)).trans h
theorem ada : ∀ (l : List (ByteArray × Value)) (k : ByteArray) (v : Value) (j : Nat), ents (l ++ [(k, v)]) j = ents l j ++ [{ key := .string k, val := v, born := j + l.length }]
 | [], _, _, _ => rfl
 | (k', v') :: l, k, v, j => by
  rw [List.cons_append, ents, ada l k v (j + 1), ents, List.length_cons, show j + 1 + l.length = j + (l.length + 1) by omega]
  rfl
theorem Uf (s : ByteArray) : ∀ (l : List (ByteArray × Value)) (i j : Nat), ∃ o, Instr.findNow .string (.string s) (ents l j) i = some o ∧ o.map (·.2) = findT s l
 | [], _, _ => ⟨none, rfl, rfl⟩
 | (k, v) :: l, i, j => by
  by_cases h : s = k
  ·
   subst h
   refine ⟨some (i, v), ?_, ?_⟩
   ·
    have hb : (s == s) = true := (MapKept.bytes_beq s s).2 rfl
    rw [ents, Instr.findNow]
    simp only [Instr.sameNow, hb]
   ·
    rw [findT, if_pos rfl]; rfl
  ·
   obtain ⟨o, h1, h2⟩ := Uf s l (i + 1) (j + 1)
   refine ⟨o, ?_, ?_⟩
   ·
    have hb : (s == k) = false := by rw [Bool.eq_false_iff]; exact fun e => h ((MapKept.bytes_beq s k).1 e)
    rw [ents, Instr.findNow]
    simp only [Instr.sameNow, hb, h1]
   ·
    rw [findT, if_neg h, h2]
theorem afw (k : ByteArray) (e : Bool) (w : World) : (Instr.checkKey e 10000 9 (.string k)).run Tryz.prog w = .ok () w :=
 MapKept.run_checkKey (n := 9999) Tryz.underlying9 (show MapKept.IsKey .string (.string k) by simp [MapKept.IsKey]) e
theorem amf {w : World} {r : Nat} {l : List (ByteArray × Value)} {k : ByteArray} {v : Value} (h : xx w r l) (hk : findT k l = none) :
  (Instr.mapUpdate 136 (.map (some r)) (.string k) v).run Tryz.prog w = .ok () { w with heap := w.heap.setIfInBounds r (.map (ents (l ++ [(k, v)]) 0).toArray (l.length + 1)) } := by
 obtain ⟨o, h1, h2⟩ := Uf k l 0 0
 have ho : o = none := by
  cases o with
  | none => rfl
  | some p => rw [hk] at h2; cases h2
 subst ho
 have hf := MapKept.run_findKey (P := Tryz.prog) (w := w) Tryz.underlying9 h1
 have hg := MapKept.run_getObj_map (P := Tryz.prog) h
 have hs := MapKept.run_setObj_map (P := Tryz.prog) (.map (ents (l ++ [(k, v)]) 0).toArray (l.length + 1)) h
 have hc := afw k false w
 have he : (ents l 0).toArray.push { key := .string k, val := v, born := l.length } = (ents (l ++ [(k, v)]) 0).toArray := by rw [ada]; simp
 unfold Instr.mapUpdate
 simp only [Sem.run_bind, run_underlying Tryz.underlying136, Result.andThen, hg, hc, hf, he, hs]
theorem aue {w : World} {r : Nat} {l : List (ByteArray × Value)} {s : ByteArray} (h : xx w r l) :
  (Instr.lookup 136 (.map (some r)) (.string s) true).run Tryz.prog w = .ok (.tuple #[(findT s l).getD (xz z7 0 0), .bool (findT s l).isSome]) w := by
 obtain ⟨o, h1, h2⟩ := Uf s l 0 0
 have hf := MapKept.run_findKey (P := Tryz.prog) (w := w) Tryz.underlying9 h1
 have hg := MapKept.run_getObj_map (P := Tryz.prog) h
 have hc := afw s (ents l 0).toArray.isEmpty w
 have hz : (zeroValue 44).run Tryz.prog w = .ok (xz z7 0 0) w := by simp [go_sem, xz, z7]
 unfold Instr.lookup
 simp only [Sem.run_bind, run_underlying Tryz.underlying136, Result.andThen, hg, hc, hf, Sem.run_pure]
 rw [← h2]
 cases o with
 | none => simp [Result.andThen, hz]
 | some p => simp
theorem xx.set {w : World} {r : Nat} {l : List (ByteArray × Value)} {k : ByteArray} {v : Value} (h : xx w r l) : xx { w with heap := w.heap.setIfInBounds r (.map (ents (l ++ [(k, v)]) 0).toArray (l.length + 1)) } r (l ++ [(k, v)]) := by
 have := (MapKept.heap_set (o' := .map (ents (l ++ [(k, v)]) 0).toArray (l.length + 1)) h).1
 unfold xx
 rw [this, List.length_append]; rfl
end Sb
end Go.Proofs.YtfgeaakhlcaibaaGreatDoor
