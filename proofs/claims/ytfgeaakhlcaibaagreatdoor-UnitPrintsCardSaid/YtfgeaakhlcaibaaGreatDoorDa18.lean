/- Texts beneath a law of layer 1. -/
import Derived.Test.YtfgeaakhlcaibaaGreatDoorDa17
import Derived.Test.YtfgeaakhlcaibaaGreatDoorRows
import Derived.ProofKit
import Derived.OpenShut
import Derived.LaidMore
import Derived.Lay
import Derived.Lib.SmallJoins
import Derived.Stop.Joined
import Derived.Lib.LaidTab
import Derived.Stop.LaidErr
set_option maxRecDepth 100000
set_option maxHeartbeats 16000000
namespace Go.Proofs.YtfgeaakhlcaibaaGreatDoor
open Go.RowKit

namespace Sb
theorem aiy {f : Nat → Int} {n d : Int} (w : World) (hT : og w) (h10 : Nb w) (hbn : Iy w) (ok : Nu f n d) (u0 : Value) (h0 : ax [.k (eK f), iv n, iv d] w u0) :
  Calls Tryz.prog 9 #[u0] w (ic (Rg.au (.bool true)) w) := by
 have HT := hide hT
 have Dz := hide ok
 have Nf := hide h10
 have HBN := hide hbn
 clear h10 hbn
 clear hT ok
 have hu0 := Aw h0
 subst hu0
 go_enter Tryz.func9, Tryz.ntmps9
 go_upto_region 1 with fail
 have hO := (Own.push (T := 44) (ls := [.k (eK f), iv n, iv d]) (Own.nil w) (fu.e (fu.v (lh _) (fu.v (lh _) rfl))) (w.heap.size) rfl)
 generalize w.alloc (.cells #[.int .i64 (f 0), .int .i64 (f 1), .int .i64 (f 2), .int .i64 (f 3), .int .i64 (f 4), .int .i64 (f 5), .int .i64 (f 6), .int .i64 n, .int .i64 d] 44) = W0 at *
 have HO := hide hO
 clear hO
 go_upto_region 1 with fail
 refine Rg.di 7 50 (Rg.pick [ax [.k (eK f), iv n, iv d], jw [Rg.au (.string (tx (qf f n d))), Rg.au (.int .i64 0)], jw [Rg.au (.string (tx (qf f n d))), Rg.au (.int .i64 0)], Rg.au (.string (tx (qf f n d))), Rg.au (.int .i64 0), Rg.au (.string (tx (qf f n d))), Rg.au (.int .i64 0)]) (az w _ W0) dz [] kr rfl (Rg.ek.pick ⟨bf _, jm ⟨(Rg.ae _), (Rg.ae _), trivial⟩, jm ⟨(Rg.ae _), (Rg.ae _), trivial⟩, Rg.ae _, Rg.ae _, Rg.ae _, Rg.ae _, trivial⟩) (az.begin (aa HO))
  (ah (jc Bt me0 aF [] [.k (eK f), iv n, iv d] [])
  (ah (sc1 Tryz.func47 (aT 0) (fun W v0 hG h0 => awy W ((aa HT).below hG.bel) ((aa Nf).below hG.bel) ((aa HBN).below hG.bel) (aa Dz) _ h0))
  (ah (df rfl (aT 1))
  (ah (mf (ts := [Rg.au (.string (tx (qf f n d))), Rg.au (.int .i64 0)]) rfl (aT 2) (of_decide_eq_true rfl) rfl)
  (ah (mf (ts := [Rg.au (.string (tx (qf f n d))), Rg.au (.int .i64 0)]) rfl (aT 2) (of_decide_eq_true rfl) rfl)
  (ah (ik rfl (aT 3))
  (ah (ik rfl (aT 4))
  Rg.bg))))))) ?_
 intro v1 V1 hG1 hv1 hne1
 simp only [Rg.puts, Act.put, tA]
 have e3 : v1 3 = .string (tx (qf f n d)) := hv1 3 de
 have e4 : v1 4 = .int .i64 0 := hv1 4 de
 have e5 : v1 5 = .string (tx (qf f n d)) := hv1 5 de
 have e6 : v1 6 = .int .i64 0 := hv1 6 de
 simp only [e3, e4, e5, e6]
 have hO := hG1.1
 clear HO
 have HO := hide hO
 clear hO hG1 hv1 hne1
 try clear e3 e4 e5 e6
 go_upto_region 2 with fail
 refine Rg.di 7 50 (Rg.pick [ax [.k (eK f), iv n, iv d], jw [Rg.au (.string (tx (qf f n d))), Rg.au (.int .i64 0)], jw [Rg.au (.string (tx (qf f n d))), Rg.au (.int .i64 0)], Rg.au (.string (tx (qf f n d))), Rg.au (.int .i64 0), Rg.au (.string (tx (qf f n d))), Rg.au (.int .i64 0)]) (az w _ V1) dz [] kr rfl (Rg.ek.pick ⟨bf _, jm ⟨(Rg.ae _), (Rg.ae _), trivial⟩, jm ⟨(Rg.ae _), (Rg.ae _), trivial⟩, Rg.ae _, Rg.ae _, Rg.ae _, Rg.ae _, trivial⟩) (az.begin (aa HO))
  (ah (jc Bt me0 aF [] [.k (eK f), iv n, iv d] [])
  (ah (sc1 Tryz.func48 (aT 0) (fun W v0 hG h0 => asi W (aa Dz) _ h0))
  (ah (df rfl (aT 1))
  (ah (mf (ts := [Rg.au (.string (tx (qf f n d))), Rg.au (.int .i64 0)]) rfl (aT 2) (of_decide_eq_true rfl) rfl)
  (ah (mf (ts := [Rg.au (.string (tx (qf f n d))), Rg.au (.int .i64 0)]) rfl (aT 2) (of_decide_eq_true rfl) rfl)
  (ah (ik rfl (aT 3))
  (ah (ik rfl (aT 4))
  Rg.bg))))))) ?_
 intro v2 V2 hG2 hv2 hne2
 simp only [Rg.puts, Act.put, tA]
 have e3 : v2 3 = .string (tx (qf f n d)) := hv2 3 de
 have e4 : v2 4 = .int .i64 0 := hv2 4 de
 have e5 : v2 5 = .string (tx (qf f n d)) := hv2 5 de
 have e6 : v2 6 = .int .i64 0 := hv2 6 de
 simp only [e3, e4, e5, e6]
 have hO := hG2.1
 clear HO
 have HO := hide hO
 clear hO hG2 hv2 hne2
 try clear e3 e4 e5 e6
 go_upto_region 3 with fail
 refine Rg.di 12 50 (Rg.pick [Rg.au (.string (tx (qf f n d))), Rg.au (.string (tx (qf f n d))), Rg.au (.bool false), Rg.au (.bool false), Rg.au (.int .i64 0), Rg.au (.int .i64 0), Rg.au (.bool false), Rg.au (.bool false), Rg.au (.bool false), Rg.au (.int .i64 0), Rg.au (.bool false), Rg.au (.bool false)]) (az w _ V2) dz [] kr rfl (Rg.ek.pick ⟨Rg.ae _, Rg.ae _, Rg.ae _, Rg.ae _, Rg.ae _, Rg.ae _, Rg.ae _, Rg.ae _, Rg.ae _, Rg.ae _, Rg.ae _, Rg.ae _, trivial⟩) (az.begin (aa HO))
  (ah (df rfl aF)
  (ah (df rfl aF)
  (ah (Oz (p := (qf f n d)) (q := (qf f n d)) rfl (aT 0) (aT 1) (by rw [decide_eq_true rfl]; rfl) rfl)
  (ah (df rfl (aT 2))
  (Rg.dm (Rg.fq (d := 20) rfl kr rfl (df rfl aF))
  (Rg.dm (Rg.fq (d := 20) rfl kr rfl (df rfl aF))
  (Rg.dm (Rg.fq (d := 20) rfl kr rfl (Ba rfl (aT 4) (aT 5) rfl (bne_self_eq_false _)))
  (ah (qo rfl (aT 3) (aT 6))
  (ah (df rfl (aT 7))
  (Rg.dm (Rg.fq (d := 25) rfl kr rfl (df rfl aF))
  (Rg.dm (Rg.fq (d := 25) rfl kr rfl (Ba rfl (aT 9) (Rg.je _) rfl rfl))
  (ah (qo rfl (aT 8) (aT 10))
  Rg.bg)))))))))))) ?_
 intro v3 V3 hG3 hv3 mh
 simp only [Rg.puts, Act.put, tA]
 have e11 : v3 11 = .bool false := hv3 11 de
 simp only [e11]
 have hO := hG3.1
 clear HO
 have HO := hide hO
 clear hO hG3 hv3 mh
 try clear e11
 go_upto_region 5 with fail
 refine Rg.region 11 50 (Rg.pick [Rg.au (.string (tx (qf f n d))), jw [ax [.k (eK f), iv n, iv d], Rg.au (.int .i64 0)], ax [.k (eK f), iv n, iv d], Rg.au (.int .i64 0), aoi f n d 0, ax [.k (eK f), iv n, iv d], Rg.au (.bool true), Rg.au (.bool true), Rg.au (.bool true), Rg.au (.bool true), Rg.au (.bool true)]) (az w _ V3) dz [] kr kr rfl (Rg.ek.pick ⟨Rg.ae _, jm ⟨(bf _), (Rg.ae _), trivial⟩, bf _, Rg.ae _, atu, bf _, Rg.ae _, Rg.ae _, Rg.ae _, Rg.ae _, Rg.ae _, trivial⟩) (az.start (aa HO))
  (ah (df rfl aF)
  (ah (sc1 Tryz.func49 (aT 0) (fun W v0 hG h0 => by cases h0; exact ajb W ((aa HT).below hG.bel) (aa Dz)))
  (ah (mf (ts := [ax [.k (eK f), iv n, iv d], Rg.au (.int .i64 0)]) rfl (aT 1) (of_decide_eq_true rfl) rfl)
  (ah (mf (ts := [ax [.k (eK f), iv n, iv d], Rg.au (.int .i64 0)]) rfl (aT 1) (of_decide_eq_true rfl) rfl)
  (ah (sc2 Tryz.func32 (aT 2) (aT 3) (fun W v0 v1 hG h0 h1 => bjt W _ h0 _ h1))
  (ah (jc Bt me0 aF [] [.k (eK f), iv n, iv d] [])
  (ah (bat rfl az.step (aT 4) (aT 5) (Rg.je _) rfl)
  (ah (df rfl (aT 6))
  (Rg.dm (Rg.fq (d := 47) rfl kr rfl (Pb Tryz.func43 kr rfl az.step  (fun W  hG  => acr W ((aa HT).below hG.bel))))
  (ah (yc rfl (aT 7) (aT 8))
  (ah (ik rfl (aT 9))
  Rg.bg))))))))))) ?_
 intro v4 V4 hG4 hv4 tu
 simp only [Rg.puts, Act.put, tA]
 have e9 : v4 9 = .bool true := hv4 9 de
 have e10 : v4 10 = .bool true := hv4 10 de
 simp only [e9, e10]
 have hO := hG4.1
 clear HO
 have HO := hide hO
 clear hO hG4 hv4 tu
 try clear e9 e10
 go_wp2_with fail
 exact yz Tryz.results9 rfl (aa HO).bel rfl
theorem aml {f : Nat → Int} {n d : Int} (w : World) (hT : og w) (ok : ¬ Nu f n d) (u0 : Value) (h0 : ax [.k (eK f), iv n, iv d] w u0) :
  Calls Tryz.prog 9 #[u0] w (ic (Rg.au (.bool true)) w) := by
 have HT := hide hT
 have Dz := hide ok
 clear hT ok
 have hu0 := Aw h0
 subst hu0
 go_enter Tryz.func9, Tryz.ntmps9
 go_upto_region 1 with fail
 have hO := (Own.push (T := 44) (ls := [.k (eK f), iv n, iv d]) (Own.nil w) (fu.e (fu.v (lh _) (fu.v (lh _) rfl))) (w.heap.size) rfl)
 generalize w.alloc (.cells #[.int .i64 (f 0), .int .i64 (f 1), .int .i64 (f 2), .int .i64 (f 3), .int .i64 (f 4), .int .i64 (f 5), .int .i64 (f 6), .int .i64 n, .int .i64 d] 44) = W0 at *
 have HO := hide hO
 clear hO
 go_upto_region 1 with fail
 refine Rg.di 7 50 (Rg.pick [ax [.k (eK f), iv n, iv d], jw [Rg.au (.string (tx [])), Rg.au (.int .i64 1)], jw [Rg.au (.string (tx [])), Rg.au (.int .i64 1)], Rg.au (.string (tx [])), Rg.au (.int .i64 1), Rg.au (.string (tx [])), Rg.au (.int .i64 1)]) (az w _ W0) dz [] kr rfl (Rg.ek.pick ⟨bf _, jm ⟨(Rg.ae _), (Rg.ae _), trivial⟩, jm ⟨(Rg.ae _), (Rg.ae _), trivial⟩, Rg.ae _, Rg.ae _, Rg.ae _, Rg.ae _, trivial⟩) (az.begin (aa HO))
  (ah (jc Bt me0 aF [] [.k (eK f), iv n, iv d] [])
  (ah (sc1 Tryz.func47 (aT 0) (fun W v0 hG h0 => aiz W ((aa HT).below hG.bel) (aa Dz) _ h0))
  (ah (df rfl (aT 1))
  (ah (mf (ts := [Rg.au (.string (tx [])), Rg.au (.int .i64 1)]) rfl (aT 2) (of_decide_eq_true rfl) rfl)
  (ah (mf (ts := [Rg.au (.string (tx [])), Rg.au (.int .i64 1)]) rfl (aT 2) (of_decide_eq_true rfl) rfl)
  (ah (ik rfl (aT 3))
  (ah (ik rfl (aT 4))
  Rg.bg))))))) ?_
 intro v1 V1 hG1 hv1 hne1
 simp only [Rg.puts, Act.put, tA]
 have e3 : v1 3 = .string (tx []) := hv1 3 de
 have e4 : v1 4 = .int .i64 1 := hv1 4 de
 have e5 : v1 5 = .string (tx []) := hv1 5 de
 have e6 : v1 6 = .int .i64 1 := hv1 6 de
 simp only [e3, e4, e5, e6]
 have hO := hG1.1
 clear HO
 have HO := hide hO
 clear hO hG1 hv1 hne1
 try clear e3 e4 e5 e6
 go_upto_region 2 with fail
 refine Rg.di 7 50 (Rg.pick [ax [.k (eK f), iv n, iv d], jw [Rg.au (.string (tx [])), Rg.au (.int .i64 1)], jw [Rg.au (.string (tx [])), Rg.au (.int .i64 1)], Rg.au (.string (tx [])), Rg.au (.int .i64 1), Rg.au (.string (tx [])), Rg.au (.int .i64 1)]) (az w _ V1) dz [] kr rfl (Rg.ek.pick ⟨bf _, jm ⟨(Rg.ae _), (Rg.ae _), trivial⟩, jm ⟨(Rg.ae _), (Rg.ae _), trivial⟩, Rg.ae _, Rg.ae _, Rg.ae _, Rg.ae _, trivial⟩) (az.begin (aa HO))
  (ah (jc Bt me0 aF [] [.k (eK f), iv n, iv d] [])
  (ah (sc1 Tryz.func48 (aT 0) (fun W v0 hG h0 => afa W (aa Dz) _ h0))
  (ah (df rfl (aT 1))
  (ah (mf (ts := [Rg.au (.string (tx [])), Rg.au (.int .i64 1)]) rfl (aT 2) (of_decide_eq_true rfl) rfl)
  (ah (mf (ts := [Rg.au (.string (tx [])), Rg.au (.int .i64 1)]) rfl (aT 2) (of_decide_eq_true rfl) rfl)
  (ah (ik rfl (aT 3))
  (ah (ik rfl (aT 4))
  Rg.bg))))))) ?_
 intro v2 V2 hG2 hv2 hne2
 simp only [Rg.puts, Act.put, tA]
 have e3 : v2 3 = .string (tx []) := hv2 3 de
 have e4 : v2 4 = .int .i64 1 := hv2 4 de
 have e5 : v2 5 = .string (tx []) := hv2 5 de
 have e6 : v2 6 = .int .i64 1 := hv2 6 de
 simp only [e3, e4, e5, e6]
 have hO := hG2.1
 clear HO
 have HO := hide hO
 clear hO hG2 hv2 hne2
 try clear e3 e4 e5 e6
 go_upto_region 3 with fail
 refine Rg.di 12 50 (Rg.pick [Rg.au (.string (tx [])), Rg.au (.string (tx [])), Rg.au (.bool false), Rg.au (.bool false), Rg.au (.int .i64 1), Rg.au (.int .i64 1), Rg.au (.bool false), Rg.au (.bool false), Rg.au (.bool false), Rg.au (.int .i64 1), Rg.au (.bool true), Rg.au (.bool true)]) (az w _ V2) dz [] kr rfl (Rg.ek.pick ⟨Rg.ae _, Rg.ae _, Rg.ae _, Rg.ae _, Rg.ae _, Rg.ae _, Rg.ae _, Rg.ae _, Rg.ae _, Rg.ae _, Rg.ae _, Rg.ae _, trivial⟩) (az.begin (aa HO))
  (ah (df rfl aF)
  (ah (df rfl aF)
  (ah (Oz (p := ([] : List UInt8)) (q := ([] : List UInt8)) rfl (aT 0) (aT 1) (by rw [decide_eq_true rfl]; rfl) rfl)
  (ah (df rfl (aT 2))
  (Rg.dm (Rg.fq (d := 20) rfl kr rfl (df rfl aF))
  (Rg.dm (Rg.fq (d := 20) rfl kr rfl (df rfl aF))
  (Rg.dm (Rg.fq (d := 20) rfl kr rfl (Ba rfl (aT 4) (aT 5) rfl (bne_self_eq_false _)))
  (ah (qo rfl (aT 3) (aT 6))
  (ah (df rfl (aT 7))
  (Rg.dm (Rg.fq (d := 25) rfl kr rfl (df rfl aF))
  (Rg.dm (Rg.fq (d := 25) rfl kr rfl (Ba rfl (aT 9) (Rg.je _) rfl rfl))
  (ah (qo rfl (aT 8) (aT 10))
  Rg.bg)))))))))))) ?_
 intro v3 V3 hG3 hv3 mh
 simp only [Rg.puts, Act.put, tA]
 have e11 : v3 11 = .bool true := hv3 11 de
 simp only [e11]
 have hO := hG3.1
 clear HO
 have HO := hide hO
 clear hO hG3 hv3 mh
 try clear e11
 go_upto_region 4 with fail
 refine Rg.di 12 50 (Rg.pick [Rg.au (.string (tx [])), Rg.au (.string (tx [])), Rg.au (.bool true), Rg.au (.bool true), Rg.au (.int .i64 1), Rg.au (.int .i64 1), Rg.au (.bool true), Rg.au (.bool true), Rg.au (.bool true), Rg.au (.bool true), Rg.au (.bool true), Rg.au (.bool true)]) (az w _ V3) dz [] kr rfl (Rg.ek.pick ⟨Rg.ae _, Rg.ae _, Rg.ae _, Rg.ae _, Rg.ae _, Rg.ae _, Rg.ae _, Rg.ae _, Rg.ae _, Rg.ae _, Rg.ae _, Rg.ae _, trivial⟩) (az.begin (aa HO))
  (ah (df rfl aF)
  (ah (df rfl aF)
  (ah (ame (p := ([] : List UInt8)) (q := ([] : List UInt8)) rfl (aT 0) (aT 1) (decide_eq_true rfl) rfl)
  (ah (df rfl (aT 2))
  (Rg.dm (Rg.fq (d := 32) rfl kr rfl (df rfl aF))
  (Rg.dm (Rg.fq (d := 32) rfl kr rfl (df rfl aF))
  (Rg.dm (Rg.fq (d := 32) rfl kr rfl (Td rfl (aT 4) (aT 5) rfl rfl))
  (ah (yc rfl (aT 3) (aT 6))
  (ah (df rfl (aT 7))
  (Rg.dm (Rg.fq (d := 37) rfl kr rfl (Pb Tryz.func43 kr rfl az.step  (fun W  hG  => acr W ((aa HT).below hG.bel))))
  (ah (yc rfl (aT 8) (aT 9))
  (ah (ik rfl (aT 10))
  Rg.bg)))))))))))) ?_
 intro v4 V4 hG4 hv4 tu
 simp only [Rg.puts, Act.put, tA]
 have e10 : v4 10 = .bool true := hv4 10 de
 have e11 : v4 11 = .bool true := hv4 11 de
 simp only [e10, e11]
 have hO := hG4.1
 clear HO
 have HO := hide hO
 clear hO hG4 hv4 tu
 try clear e10 e11
 go_wp2_with fail
 exact yz Tryz.results9 rfl (aa HO).bel rfl
theorem amm {f : Nat → Int} {n d : Int} (w : World) (hT : og w) (h10 : Nb w) (hbn : Iy w) (u0 : Value) (h0 : ax [.k (eK f), iv n, iv d] w u0) :
  Calls Tryz.prog 9 #[u0] w (ic (Rg.au (.bool true)) w) := by
 by_cases g : Nu f n d
 ·
  exact aiy w hT h10 hbn g u0 h0
 ·
  exact aml w hT g u0 h0
end Sb

end Go.Proofs.YtfgeaakhlcaibaaGreatDoor
namespace Go.Proofs.YtfgeaakhlcaibaaGreatDoor
open Go.Joins Go.ChangeShapes Go.WideShapes Go.ChangeAt Go.RowKit

theorem own : ownKnob Tryz.prog.godebug = none := by kernel_rfl
theorem amo {H : Type} {enc : TypeId × Value → H} {P : Program} {f : Func} {s : ChangeSpec} {apart : Bool} {W W' : World} {args : Array Value} {v : Value} {ds gs : List (DataW H)}
  (hW : DataW.Whole enc P f.params.toList s.vars apart W args.toList ds gs [])
  (hres : DataW.TrodAll enc P W' W.heap.size (fun _ => false) false f.resultTypes.toList (v.resultList f.resultTypes.size) (s.fn H (ds ++ gs)).results [])
  (hargs : DataW.TrodAll enc P W' 0 (fun b => decide (b < W.heap.size)) true f.params.toList args.toList (s.fn H (ds ++ gs)).args [])
  (hvars : DataW.TrodVars enc P W' (fun b => decide (b < W.heap.size)) s.vars (s.fn H (ds ++ gs)).vars []) (hb : Below W.heap.size W W') :
  s.post enc P f apart true false false W args v W' :=
 ⟨ds, gs, [], [], [], [], hW, hres, hargs, hvars, hb.frame _, fun h => by cases h⟩

def awv {H : Type} (f : Nat → Int) (n d : Int) : DataW H := .agg [.agg [.lit (.int .i64 (f 0)), .lit (.int .i64 (f 1)), .lit (.int .i64 (f 2)), .lit (.int .i64 (f 3)), .lit (.int .i64 (f 4)), .lit (.int .i64 (f 5)), .lit (.int .i64 (f 6))], .agg [.lit (.int .i64 n), .lit (.int .i64 d)]]
def wfU (f : Nat → Int) (n d : Int) : Prop := (∀ j, j < 7 → (Lit.int .i64 (f j)).wf = true) ∧ (Lit.int .i64 n).wf = true ∧ (Lit.int .i64 d).wf = true
theorem bia {α : Type} {cs : Array α} (h : cs.size = 9) : ∃ c0 c1 c2 c3 c4 c5 c6 c7 c8, cs = #[c0, c1, c2, c3, c4, c5, c6, c7, c8] := by
 obtain ⟨l⟩ := cs
 match l, h with
 | [c0, c1, c2, c3, c4, c5, c6, c7, c8], _ => exact ⟨c0, c1, c2, c3, c4, c5, c6, c7, c8, rfl⟩
theorem aqv {H : Type} {enc : TypeId × Value → H} {w : World} {base : Nat} {spare : Nat → Bool} {held : Bool} {r : Reach} {b0 : Nat} {v : Value} {d : DataW H} {p : List MemPlace}
  (hv : Value.okWide Tryz.prog w r b0 44 v) (h : DataW.Trod enc Tryz.prog w base spare held 44 v d p) :
  ∃ (f : Nat → Int) (n m : Int), v = .agg #[.int .i64 (f 0), .int .i64 (f 1), .int .i64 (f 2), .int .i64 (f 3), .int .i64 (f 4), .int .i64 (f 5), .int .i64 (f 6), .int .i64 n, .int .i64 m] ∧ d = awv f n m ∧ p = [] ∧ wfU f n m := by
 obtain ⟨cs, rfl, hsz⟩ := okWide_struct Tryz.underlying44 hv
 obtain ⟨c0, c1, c2, c3, c4, c5, c6, c7, c8, rfl⟩ := bia (hsz.trans (show Tryz.prog.cellsOf 44 = 9 by kernel_rfl))
 obtain ⟨fuel, hf⟩ := h
 obtain ⟨y0, y1, n, hx, _, h0, h1⟩ := trod_struct2 Tryz.underlying44 hf
 have k7 : Tryz.prog.cellsOf 42 = 7 := by kernel_rfl
 have k2 : Tryz.prog.cellsOf 23 = 2 := by kernel_rfl
 have k1 : Tryz.prog.cellsOf 3 = 1 := by kernel_rfl
 have h0' : DataW.trod enc Tryz.prog w base spare held n 42 [c0, c1, c2, c3, c4, c5, c6] = some y0 := by simpa [Value.cells, k7] using h0
 have h1' : DataW.trod enc Tryz.prog w base spare held n 23 [c7, c8] = some y1 := by simpa [Value.cells, k2] using h1
 obtain ⟨z7, z8, m, hy, _, g7, g8⟩ := trod_struct2 Tryz.underlying23 h1'
 have g7' : DataW.trod enc Tryz.prog w base spare held m 3 [c7] = some z7 := by simpa [k1] using g7
 have g8' : DataW.trod enc Tryz.prog w base spare held m 3 [c8] = some z8 := by simpa [k1] using g8
 obtain ⟨xs, m2, _, hy0, _, hl, hel⟩ := DataW.trod_array Tryz.underlying42 h0'
 match xs, hl with
 | [x0, x1, x2, x3, x4, x5, x6], _ =>
 have e0 : DataW.trod enc Tryz.prog w base spare held m2 3 [c0] = some x0 := by simpa [k1] using hel 0 om
 have e1 : DataW.trod enc Tryz.prog w base spare held m2 3 [c1] = some x1 := by simpa [k1] using hel 1 om
 have e2 : DataW.trod enc Tryz.prog w base spare held m2 3 [c2] = some x2 := by simpa [k1] using hel 2 om
 have e3 : DataW.trod enc Tryz.prog w base spare held m2 3 [c3] = some x3 := by simpa [k1] using hel 3 om
 have e4 : DataW.trod enc Tryz.prog w base spare held m2 3 [c4] = some x4 := by simpa [k1] using hel 4 om
 have e5 : DataW.trod enc Tryz.prog w base spare held m2 3 [c5] = some x5 := by simpa [k1] using hel 5 om
 have e6 : DataW.trod enc Tryz.prog w base spare held m2 3 [c6] = some x6 := by simpa [k1] using hel 6 om
 obtain ⟨a0, q0, rfl, w0⟩ := DataW.trod_int Tryz.underlying3 e0
 obtain ⟨a1, q1, rfl, w1⟩ := DataW.trod_int Tryz.underlying3 e1
 obtain ⟨a2, q2, rfl, w2⟩ := DataW.trod_int Tryz.underlying3 e2
 obtain ⟨a3, q3, rfl, w3⟩ := DataW.trod_int Tryz.underlying3 e3
 obtain ⟨a4, q4, rfl, w4⟩ := DataW.trod_int Tryz.underlying3 e4
 obtain ⟨a5, q5, rfl, w5⟩ := DataW.trod_int Tryz.underlying3 e5
 obtain ⟨a6, q6, rfl, w6⟩ := DataW.trod_int Tryz.underlying3 e6
 obtain ⟨a7, q7, rfl, w7⟩ := DataW.trod_int Tryz.underlying3 g7'
 obtain ⟨a8, q8, rfl, w8⟩ := DataW.trod_int Tryz.underlying3 g8'
 simp only [List.cons.injEq, and_true] at q0 q1 q2 q3 q4 q5 q6 q7 q8
 subst q0 q1 q2 q3 q4 q5 q6 q7 q8 hy hy0
 simp only [Prod.mk.injEq] at hx
 refine ⟨fun j => if j = 0 then a0 else if j = 1 then a1 else if j = 2 then a2 else if j = 3 then a3 else if j = 4 then a4 else if j = 5 then a5 else a6, a7, a8, rfl, hx.1, by simpa using hx.2, fun j hj => ?_, w7, w8⟩
 have hc : j = 0 ∨ j = 1 ∨ j = 2 ∨ j = 3 ∨ j = 4 ∨ j = 5 ∨ j = 6 := by omega
 rcases hc with rfl | rfl | rfl | rfl | rfl | rfl | rfl
 ·
  exact w0
 ·
  exact w1
 ·
  exact w2
 ·
  exact w3
 ·
  exact w4
 ·
  exact w5
 ·
  exact w6
theorem aau {H : Type} {enc : TypeId × Value → H} {w : World} {base : Nat} {spare : Nat → Bool} {held : Bool} {f : Nat → Int} (hw : ∀ j, j < 7 → (Lit.int .i64 (f j)).wf = true) :
  DataW.trod enc Tryz.prog w base spare held 2 42 [.int .i64 (f 0), .int .i64 (f 1), .int .i64 (f 2), .int .i64 (f 3), .int .i64 (f 4), .int .i64 (f 5), .int .i64 (f 6)] = some (.agg [.lit (.int .i64 (f 0)), .lit (.int .i64 (f 1)), .lit (.int .i64 (f 2)), .lit (.int .i64 (f 3)), .lit (.int .i64 (f 4)), .lit (.int .i64 (f 5)), .lit (.int .i64 (f 6))], []) := by
 have k7 : Tryz.prog.cellsOf 42 = 7 := by kernel_rfl
 have k1 : Tryz.prog.cellsOf 3 = 1 := by kernel_rfl
 have i0 : ∀ k : Int, (Lit.int .i64 k).wf = true → DataW.trod enc Tryz.prog w base spare held 1 3 [.int .i64 k] = some (.lit (.int .i64 k), []) := fun k hk => trod_int_mk 0 Tryz.underlying3 hk
 have hr : List.range 7 = [0, 1, 2, 3, 4, 5, 6] := rfl
 unfold DataW.trod
 rw [Tryz.underlying42]
 simp [k7, k1, hr, i0 _ (hw 0 om), i0 _ (hw 1 om), i0 _ (hw 2 om), i0 _ (hw 3 om), i0 _ (hw 4 om), i0 _ (hw 5 om), i0 _ (hw 6 om)]
theorem apf {H : Type} {enc : TypeId × Value → H} {w : World} {base : Nat} {spare : Nat → Bool} {held : Bool} {f : Nat → Int} {n d : Int} (hw : wfU f n d) :
  DataW.Trod enc Tryz.prog w base spare held 44 (.agg #[.int .i64 (f 0), .int .i64 (f 1), .int .i64 (f 2), .int .i64 (f 3), .int .i64 (f 4), .int .i64 (f 5), .int .i64 (f 6), .int .i64 n, .int .i64 d]) (awv f n d) [] := by
 have k9 : Tryz.prog.cellsOf 44 = 9 := by kernel_rfl
 have k7 : Tryz.prog.cellsOf 42 = 7 := by kernel_rfl
 have k2 : Tryz.prog.cellsOf 23 = 2 := by kernel_rfl
 have k1 : Tryz.prog.cellsOf 3 = 1 := by kernel_rfl
 have i0 : ∀ k : Int, (Lit.int .i64 k).wf = true → DataW.trod enc Tryz.prog w base spare held 1 3 [.int .i64 k] = some (.lit (.int .i64 k), []) := fun k hk => trod_int_mk 0 Tryz.underlying3 hk
 have r1 := aau (enc := enc) (w := w) (base := base) (spare := spare) (held := held) hw.1
 have r2 := trod_struct2_mk (enc := enc) (P := Tryz.prog) (w := w) (base := base) (spare := spare) (held := held) (n := 1) (cs := [.int .i64 n, .int .i64 d]) (y0 := (.lit (.int .i64 n), [])) (y1 := (.lit (.int .i64 d), [])) Tryz.underlying23 (by simp [k2])
  (by simpa [k1] using i0 n hw.2.1) (by simpa [k1] using i0 d hw.2.2)
 have r3 := trod_struct2_mk (enc := enc) (P := Tryz.prog) (w := w) (base := base) (spare := spare) (held := held) (n := 2) (cs := [.int .i64 (f 0), .int .i64 (f 1), .int .i64 (f 2), .int .i64 (f 3), .int .i64 (f 4), .int .i64 (f 5), .int .i64 (f 6), .int .i64 n, .int .i64 d]) Tryz.underlying44 (by simp [k9])
  (by simpa [k7] using r1) (by simpa [k2] using r2)
 exact ⟨3, by simpa [Value.cells, awv] using r3⟩

theorem att : (Rows.laid_math_bits_deBruijn64tab : DataW Unit) = Lib.tabData .u8 (Lib.deBruijn64tab.map fun (n : Nat) => (n : Int)) := by kernel_rfl
theorem bdt : (Rows.laid_internal_strconv_uint64pow10 : DataW Unit) = Lib.tabData .u64 Lib.pow10Tab := by kernel_rfl
theorem arw (l : List Nat) (j : Nat) : (l.map fun (n : Nat) => (n : Int)).getD j 0 = ((l.getD j 0 : Nat) : Int) := by
 rw [List.getD_eq_getElem?_getD, List.getD_eq_getElem?_getD, List.getElem?_map]
 cases l[j]? <;> rfl

def Vd : List (String × DataW Unit) := [("math/bits.deBruijn32tab", Rows.laid_math_bits_deBruijn32tab), ("math/bits.deBruijn64tab", Rows.laid_math_bits_deBruijn64tab), ("internal/strconv.uint64pow10", Rows.laid_internal_strconv_uint64pow10), ("unicode/utf8.acceptRanges", Rows.laid_unicode_utf8_acceptRanges), ("isocline/unit.baseNames", Rows.laid_isocline_unit_baseNames), ("unicode/utf8.first", Rows.laid_unicode_utf8_first)]
theorem aep {P : Program} {W : World} {name : String} {ls : List (List UInt8)} {rest : List (String × DataW Unit)} {g : Nat} {t e : TypeId} {n : Nat}
  (hg : P.globalNamed name = some g) (hty : (P.globals[g]?).map (·.type) = some t) (ht : P.underlying t = some (.array n e)) (he : P.underlying e = some .string) (hce : P.cellsOf e = 1)
  (h : laidMet P ((name, .agg (ls.map fun l => .lit (.string l))) :: rest) W) (i : Nat) (hi : i < ls.length) : W.cell? ⟨g, i, none⟩ = some (.string (Sb.tx (ls.getD i []))) := by
 obtain ⟨ps, ⟨g', t', cs, fuel, p, q, hg', ht', hvar, hd, _, _⟩, _⟩ := h
 obtain rfl := Option.some.inj (hg.symm.trans hg')
 obtain rfl := Option.some.inj (hty.symm.trans ht')
 obtain ⟨xs, m, _, hx, hl, hxl, hel⟩ := DataW.trod_array ht hd
 have hxs : xs.map (·.1) = ls.map fun l => (DataW.lit (.string l) : DataW Unit) := by
  have := congrArg Prod.fst hx
  simpa using this.symm
 have hn : ls.length = n := by
  have := congrArg List.length hxs
  simp only [List.length_map] at this
  omega
 have hxi : i < xs.length := by omega
 have h1 := hel i om
 rw [hce, List.getElem?_eq_getElem hxi] at h1
 obtain ⟨s, hc, hz, _⟩ := DataW.trod_string he h1
 have h2 : (xs.map (·.1))[i]? = (ls.map fun l => (DataW.lit (.string l) : DataW Unit))[i]? := by rw [hxs]
 rw [List.getElem?_map, List.getElem?_map, List.getElem?_eq_getElem hxi, List.getElem?_eq_getElem hi, hz] at h2
 simp only [Option.map_some, Option.some.injEq, DataW.lit.injEq, Lit.string.injEq] at h2
 have h3 : cs[i]? = some (.string s) := by
  have := congrArg (·[0]?) hc
  simpa [List.getElem?_take, List.getElem?_drop] using this
 have h4 := World.var?_cell hg hvar i
 have h5 : ls.getD i [] = s.data.toList := by rw [List.getD_eq_getElem?_getD, List.getElem?_eq_getElem hi, Option.getD_some]; exact h2.symm
 rw [h5, h4, show Sb.tx s.data.toList = s from Il s]
 simpa using h3
theorem bcr : (Rows.laid_isocline_unit_baseNames : DataW Unit) = .agg (Sb.bnL.map fun l => .lit (.string l)) := by kernel_rfl
theorem abr {W : World} (h : laidMetH Tryz.prog Vd W) : og W ∧ Nb W ∧ Sb.Iy W := by
 rw [MakeChecks.laidMetH_plain _ _ _ kr] at h
 unfold Vd at h
 have h2 := laidMet.tail h
 have h3 := laidMet.tail h2
 have h4 := laidMet.tail (laidMet.tail h3)
 rw [att] at h2
 rw [bdt] at h3
 rw [bcr] at h4
 have g64 : Tryz.prog.globalNamed "math/bits.deBruijn64tab" = some 1 := by kernel_rfl
 have t64 := Lib.tabIs_of_head g64 (show (Tryz.prog.globals[1]?).map (·.type) = some 229 by kernel_rfl) Tryz.underlying229 Tryz.underlying5 kr kr h2
 have t10 := Lib.tabIs_of_head (show Tryz.prog.globalNamed "internal/strconv.uint64pow10" = some 2 by kernel_rfl) (show (Tryz.prog.globals[2]?).map (·.type) = some 246 by kernel_rfl) Tryz.underlying246 Tryz.underlying157 kr kr h3
 have tbn := fun i hi => aep (show Tryz.prog.globalNamed "isocline/unit.baseNames" = some 0 by kernel_rfl) (show (Tryz.prog.globals[0]?).map (·.type) = some 176 by kernel_rfl) Tryz.underlying176 Tryz.underlying9 kr h4 i hi
 have cell : ∀ j, j < Lib.deBruijn64tab.length → W.cell? ⟨1, j, none⟩ = some (.int .u8 (Lib.deBruijn64tab.getD j 0)) := fun j hj => by
  have := t64.cell g64 j (by rw [List.length_map]; exact hj)
  rwa [arw] at this
 refine ⟨⟨cell, ?_⟩, Lib.tabBelow_of_tabIs t10, fun j hj => tbn j hj, World.block_lt_of_cell? W _ (tbn 0 de)⟩
 exact World.block_lt_of_cell? W _ (cell 0 de)
end Go.Proofs.YtfgeaakhlcaibaaGreatDoor
