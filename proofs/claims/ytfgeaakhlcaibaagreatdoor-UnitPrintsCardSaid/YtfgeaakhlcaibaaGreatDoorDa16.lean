/- Texts beneath a law of layer 1. -/
import Derived.Test.YtfgeaakhlcaibaaGreatDoorDa15
import Derived.Lib.ItoaNum
import Derived.Lib.Join
import Derived.Lib.AppendIntMem
set_option maxRecDepth 100000
set_option maxHeartbeats 16000000
namespace Go.Proofs.YtfgeaakhlcaibaaGreatDoor
open Go.RowKit

namespace Sb
theorem bec {Q : Exit → Act → World → Prop} {l : List Oper} {n : Nat} {T : Nat → World → Value → Prop} {G : World → Prop} {al : List Nat} {a0 : Act} {k d : Nat} {ty : TypeId} {pos : String} {af : Array Edge} {gd : Option (Nat × Bool)} {x : Operand} {s : ByteArray} (hal : al.contains k = false) (hx : Rg.ib l n T a0 k x (Rg.au (.string s))) (hT : T k = Rg.au (.int .i64 (s.size : Int))) :
  Rg.Step Tryz.prog Q l n T G dz al a0 k { dst := some d, op := .call { callee := .builtin .len, args := #[x], argTypes := #[9] }, type := ty, pos := pos, after := af, guard := gd } := by
 intro a w hG hO hN
 have h : a.eval x = .string s := hx a w hO hN
 have hr : (execOp a.eval { dst := some d, op := .call { callee := .builtin .len, args := #[x], argTypes := #[9] }, type := ty, pos := pos, after := af, guard := gd }).run Tryz.prog w = .ok (.value (.int .i64 (s.size : Int))) w := by
  simp only [execOp, resolve, invoke, h, List.map_toArray, List.map_cons, List.map_nil]
  simp [go_sem, h, Builtin.len_]
 exact iq (P := Tryz.prog) hr ⟨_, rfl, hG, Below.refl _ _, by rw [hT]; rfl, fun h => by rw [hal] at h; cases h⟩
def Fa : Nat → Int := fun j => if j = 0 then 2 else if j = 1 then 1 else if j = 2 then -4 else 0
theorem bng {Q : Exit → Act → World → Prop} {l : List Oper} {n : Nat} {T : Nat → World → Value → Prop} {G : World → Prop} {al : List Nat} {a0 : Act} {k d : Nat} {ty : TypeId} {pos : String} {af : Array Edge} {gd : Option (Nat × Bool)} (hal : al.contains k = false) (hT : T k = ax [.k (eK Fa)]) :
  Rg.Step Tryz.prog Q l n T G dz al a0 k { dst := some d, op := .build 42 #[(0, .const (.int .i64 2)), (1, .const (.int .i64 1)), (2, .const (.int .i64 (-4)))], type := ty, pos := pos, after := af, guard := gd } := by
 intro a w hG hO hN
 have hr : (execOp a.eval { dst := some d, op := .build 42 #[(0, .const (.int .i64 2)), (1, .const (.int .i64 1)), (2, .const (.int .i64 (-4)))], type := ty, pos := pos, after := af, guard := gd }).run Tryz.prog w = .ok (.value (.agg #[.int .i64 2, .int .i64 1, .int .i64 (-4), .int .i64 0, .int .i64 0, .int .i64 0, .int .i64 0])) w := by
  have hc : ∀ v, a.eval (.const v) = v := fun _ => rfl
  simp only [execOp, hc]
  simp [go_sem, hc]
  try rfl
 exact iq (P := Tryz.prog) hr ⟨_, rfl, hG, Below.refl _ _, by rw [hT]; exact ⟨_, rfl, fu.e (f := Fa) rfl⟩, fun h => by rw [hal] at h; cases h⟩
theorem Ey {s a b : ByteArray} {n d : Int} {fs : List (ByteArray × Int)} {F F' : Nat → Int} {X X' : Rat} (w : World) (hT : og w) (hz : decide ((s.size : Int) > 600) = false) (ok : Wd.qm n d) (hpos : decide (n > 0) = true)
  (hsp : ∀ W, Calls Tryz.prog 114 #[.string s] W (ic (jw [Rg.au (.string a), Rg.au (.string b)]) W))
  (hrp : ∀ W, og W → Calls Tryz.prog 24 #[.string a] W (ic (jw [ax [iv n, iv d], Rg.au (.int .i64 0)]) W))
  (hq : ∀ W, Calls Tryz.prog 115 #[.string b] W (ic (jw [Fj fs, Rg.au (.bool true)]) W))
  (hmul : ∀ W ao c, og W → Sa W ao fs → Calls Tryz.prog 117 #[.slice ao fs.length c] W (ic (jw [ax [.k (eK F), .q X], Rg.au (.bool true)]) W))
  (bfr : ∀ W v0 v1, og W → ax [.k (eK z7), .q (Wd.qR n d)] W v0 → ax [.k (eK F), .q X] W v1 → Calls Tryz.prog 119 #[v0, v1] W (ic (ax [.k (eK F'), .q X']) W)) :
  Calls Tryz.prog 49 #[.string s] w (ic (UnT (ru F' X')) w) := by
 have HT := hide hT
 have HZ := hide hz
 have Dz := hide ok
 have HPO := hide hpos
 have HSP := hide hsp
 have HRP := hide hrp
 have HQ := hide hq
 have HMU := hide hmul
 have HTM := hide bfr
 clear hT hz ok hpos hsp hrp hq hmul bfr
 go_enter Tryz.func49, Tryz.ntmps49
 go_upto_region 1 with fail
 have hO := (Own.push (T := 44) (ls := zU) (Own.nil w) (fu.vs w [.int .i64 0, .int .i64 0, .int .i64 0, .int .i64 0, .int .i64 0, .int .i64 0, .int .i64 0, .int .i64 0, .int .i64 0] rfl) (w.heap.size) rfl)
 generalize w.alloc (.cells #[.int .i64 0, .int .i64 0, .int .i64 0, .int .i64 0, .int .i64 0, .int .i64 0, .int .i64 0, .int .i64 0, .int .i64 0] 44) = W0 at *
 have HO := hide hO
 clear hO
 go_upto_region 1 with fail
 refine Rg.di 3 59 (Rg.pick [Rg.au (.string s), Rg.au (.int .i64 (s.size : Int)), Rg.au (.bool false)]) (az w _ W0) dz [] kr rfl (Rg.ek.pick ⟨Rg.ae _, Rg.ae _, Rg.ae _, trivial⟩) (az.begin (aa HO))
  (ah (df rfl aF)
  (ah (bec rfl (aT 0) rfl)
  (ah (Uz rfl (aT 1) (Rg.je _) rfl (aa HZ))
  Rg.bg))) ?_
 intro v1 V1 hG1 hv1 hne1
 simp only [Rg.puts, Act.put, tA]
 have e2 : v1 2 = .bool false := hv1 2 de
 simp only [e2]
 have hO := hG1.1
 clear HO
 have HO := hide hO
 clear hO hG1 hv1 hne1
 try clear e2
 go_upto_region 3 with fail
 refine Rg.di 7 59 (Rg.pick [Rg.au (.string s), jw [Rg.au (.string a), Rg.au (.string b)], jw [Rg.au (.string a), Rg.au (.string b)], Rg.au (.string a), Rg.au (.string b), Rg.au (.string a), Rg.au (.string b)]) (az w _ V1) dz [] kr rfl (Rg.ek.pick ⟨Rg.ae _, jm ⟨(Rg.ae _), (Rg.ae _), trivial⟩, jm ⟨(Rg.ae _), (Rg.ae _), trivial⟩, Rg.ae _, Rg.ae _, Rg.ae _, Rg.ae _, trivial⟩) (az.begin (aa HO))
  (ah (df rfl aF)
  (ah (sc1 Tryz.func114 (aT 0) (fun W v0 hG h0 => by cases h0; exact (aa HSP) W))
  (ah (df rfl (aT 1))
  (ah (mf (ts := [Rg.au (.string a), Rg.au (.string b)]) rfl (aT 2) (of_decide_eq_true rfl) rfl)
  (ah (mf (ts := [Rg.au (.string a), Rg.au (.string b)]) rfl (aT 2) (of_decide_eq_true rfl) rfl)
  (ah (ik rfl (aT 3))
  (ah (ik rfl (aT 4))
  Rg.bg))))))) ?_
 intro v2 V2 hG2 hv2 hne2
 simp only [Rg.puts, Act.put, tA]
 have e3 : v2 3 = .string a := hv2 3 de
 have e4 : v2 4 = .string b := hv2 4 de
 have e5 : v2 5 = .string a := hv2 5 de
 have e6 : v2 6 = .string b := hv2 6 de
 simp only [e3, e4, e5, e6]
 have hO := hG2.1
 clear HO
 have HO := hide hO
 clear hO hG2 hv2 hne2
 try clear e3 e4 e5 e6
 go_upto_region 4 with fail
 refine Rg.di 6 59 (Rg.pick [Rg.au (.string a), jw [ax [iv n, iv d], Rg.au (.int .i64 0)], jw [ax [iv n, iv d], Rg.au (.int .i64 0)], ax [iv n, iv d], Rg.au (.int .i64 0), qj 23 zR V2.heap.size]) (az w _ V2) dz [5] kr rfl (Rg.ek.pick ⟨Rg.ae _, jm ⟨(bf _), (Rg.ae _), trivial⟩, jm ⟨(bf _), (Rg.ae _), trivial⟩, bf _, Rg.ae _, qz _ _ _, trivial⟩) (az.begin (aa HO))
  (ah (df rfl aF)
  (ah (sc1 Tryz.func24 (aT 0) (fun W v0 hG h0 => by cases h0; exact (aa HRP) W ((aa HT).below hG.bel)))
  (ah (df rfl (aT 1))
  (ah (mf (ts := [ax [iv n, iv d], Rg.au (.int .i64 0)]) rfl (aT 2) (of_decide_eq_true rfl) rfl)
  (ah (mf (ts := [ax [iv n, iv d], Rg.au (.int .i64 0)]) rfl (aT 2) (of_decide_eq_true rfl) rfl)
  (ah (uh Zd rfl az.step az.size rfl (xm (by intro j hj; simp at hj; (repeat' (first | (rcases hj with rfl | hj))) <;> first | (subst hj; exact ⟨_, _, _, rfl⟩) | exact ⟨_, _, _, rfl⟩)))
  Rg.bg)))))) ?_
 intro v3 V3 hG3 hv3 mh
 simp only [Rg.puts, Act.put, tA]
 have e4 : v3 4 = .int .i64 0 := hv3 4 de
 obtain ⟨bvb, e5, Mr, Tu⟩ := (show qj 23 zR V2.heap.size V3 (v3 5) from hv3 5 de)
 simp only [e4, e5]
 have hO := hG3.1
 replace hO := Own.add (aa HO) hG3.2 Mr Tu
 clear Mr Tu
 refine oo hO 0 [] zR [iv n, iv d] [] rfl Oy rfl (show ax [iv n, iv d] V3 (v3 3) from hv3 3 de) rfl rfl rfl ?_
 intro Ou jb hk0
 replace hO := jb
 clear jb
 clear HO
 have HO := hide hO
 clear hO hG3 hv3 mh hk0
 try clear e4 e5
 go_upto_region 5 with fail
 refine Rg.di 7 59 (Rg.pick [Rg.au (.string b), jw [Fj fs, Rg.au (.bool true)], jw [Fj fs, Rg.au (.bool true)], Fj fs, Rg.au (.bool true), Fj fs, Rg.au (.bool true)]) (az w _ Ou) dz [] kr rfl (Rg.ek.pick ⟨Rg.ae _, jm ⟨(Qq _), (Rg.ae _), trivial⟩, jm ⟨(Qq _), (Rg.ae _), trivial⟩, Qq _, Rg.ae _, Qq _, Rg.ae _, trivial⟩) (az.begin (aa HO))
  (ah (df rfl aF)
  (ah (sc1 Tryz.func115 (aT 0) (fun W v0 hG h0 => by cases h0; exact (aa HQ) W))
  (ah (df rfl (aT 1))
  (ah (mf (ts := [Fj fs, Rg.au (.bool true)]) rfl (aT 2) (of_decide_eq_true rfl) rfl)
  (ah (mf (ts := [Fj fs, Rg.au (.bool true)]) rfl (aT 2) (of_decide_eq_true rfl) rfl)
  (ah (ik rfl (aT 3))
  (ah (ik rfl (aT 4))
  Rg.bg))))))) ?_
 intro v4 V4 hG4 hv4 tu
 simp only [Rg.puts, Act.put, tA]
 have e4 : v4 4 = .bool true := hv4 4 de
 have e6 : v4 6 = .bool true := hv4 6 de
 simp only [e4, e6]
 obtain ⟨ao, c, em, hfa⟩ := (show Fj fs V4 (v4 5) from hv4 5 de)
 simp only [em]
 have HFA := hide hfa
 clear hfa
 have hO := hG4.1
 clear HO
 have HO := hide hO
 clear hO hG4 hv4 tu
 try clear e4 e6
 go_upto_region 6 with fail
 refine Rg.di 9 59 (Rg.pick [Rg.au (.bool true), Rg.au (.bool false), Rg.au (.bool false), Rg.au (.string a), ax [iv n, iv d], Rg.au (.int .i64 0), Rg.au (.bool true), Rg.au (.bool false), Rg.au (.bool false)]) (az w _ V4) dz [] kr rfl (Rg.ek.pick ⟨Rg.ae _, Rg.ae _, Rg.ae _, Rg.ae _, bf _, Rg.ae _, Rg.ae _, Rg.ae _, Rg.ae _, trivial⟩) (az.begin (aa HO))
  (ah (df rfl aF)
  (ah (zw rfl (aT 0) rfl rfl)
  (ah (df rfl (aT 1))
  (Rg.dm (Rg.fq (d := 32) rfl kr rfl (df rfl aF))
  (Rg.dm (Rg.fq (d := 32) rfl kr rfl (jc zn me0 aF [] [iv n, iv d] []))
  (Rg.dm (Rg.fq (d := 32) rfl kr rfl (df rfl aF))
  (Rg.dm (Rg.fq (d := 32) rfl kr rfl (bau Tryz.func116 kr rfl az.step (aT 3) (aT 4) (aT 5) (fun W v0 v1 v2 hG h0 h1 h2 => by cases h0; cases h2; exact bev W _ h1 (aa HPO))))
  (Rg.dm (Rg.fq (d := 32) rfl kr rfl (zw rfl (aT 6) rfl rfl))
  (ah (qo rfl (aT 2) (aT 7))
  Rg.bg))))))))) ?_
 intro v5 V5 zz hv5 hne5
 simp only [Rg.puts, Act.put, tA]
 have e8 : v5 8 = .bool false := hv5 8 de
 simp only [e8]
 have hO := zz.1
 replace HFA := hide ((aa HFA).below zz.2)
 clear HO
 have HO := hide hO
 clear hO zz hv5 hne5
 try clear e8
 go_upto_region 8 with fail
 refine Rg.di 6 59 (Rg.pick [Rg.au (.slice ao (List.length fs) c), jw [ax [.k (eK F), .q X], Rg.au (.bool true)], jw [ax [.k (eK F), .q X], Rg.au (.bool true)], ax [.k (eK F), .q X], Rg.au (.bool true), qj 118 zM V5.heap.size]) (az w _ V5) dz [5] kr rfl (Rg.ek.pick ⟨Rg.ae _, jm ⟨(bf _), (Rg.ae _), trivial⟩, jm ⟨(bf _), (Rg.ae _), trivial⟩, bf _, Rg.ae _, qz _ _ _, trivial⟩) (az.begin (aa HO))
  (ah (df rfl aF)
  (ah (sc1 Tryz.func117 (aT 0) (fun W v0 hG h0 => by cases h0; exact (aa HMU) W ao c ((aa HT).below hG.bel) ((aa HFA).below hG.2)))
  (ah (df rfl (aT 1))
  (ah (mf (ts := [ax [.k (eK F), .q X], Rg.au (.bool true)]) rfl (aT 2) (of_decide_eq_true rfl) rfl)
  (ah (mf (ts := [ax [.k (eK F), .q X], Rg.au (.bool true)]) rfl (aT 2) (of_decide_eq_true rfl) rfl)
  (ah (uh adu rfl az.step az.size rfl (xm (by intro j hj; simp at hj; (repeat' (first | (rcases hj with rfl | hj))) <;> first | (subst hj; exact ⟨_, _, _, rfl⟩) | exact ⟨_, _, _, rfl⟩)))
  Rg.bg)))))) ?_
 intro v6 V6 Ch hv6 Gp
 simp only [Rg.puts, Act.put, tA]
 have e4 : v6 4 = .bool true := hv6 4 de
 obtain ⟨buy, e5, Mr, Tu⟩ := (show qj 118 zM V5.heap.size V6 (v6 5) from hv6 5 de)
 simp only [e4, e5]
 have hO := Ch.1
 replace hO := Own.add (aa HO) Ch.2 Mr Tu
 clear Mr Tu
 refine oo hO 0 [] zM [.k (eK F), .q X] [] rfl Au rfl (show ax [.k (eK F), .q X] V6 (v6 3) from hv6 3 de) rfl rfl rfl ?_
 intro axh jb hk0
 replace hO := jb
 clear jb
 clear HO
 have HO := hide hO
 clear hO Ch hv6 Gp hk0
 try clear e4 e5
 go_upto_region 9 with fail
 refine Rg.di 2 59 (Rg.pick [Rg.au (.bool true), Rg.au (.bool false)]) (az w _ axh) dz [] kr rfl (Rg.ek.pick ⟨Rg.ae _, Rg.ae _, trivial⟩) (az.begin (aa HO))
  (ah (df rfl aF)
  (ah (zw rfl (aT 0) rfl rfl)
  Rg.bg)) ?_
 intro v7 V7 Bh hv7 En
 simp only [Rg.puts, Act.put, tA]
 have e1 : v7 1 = .bool false := hv7 1 de
 simp only [e1]
 have hO := Bh.1
 clear HO
 have HO := hide hO
 clear hO Bh hv7 En
 try clear e1
 go_upto_region 11 with fail
 refine Rg.di 2 59 (Rg.pick [Rg.au (.int .i64 0), Rg.au (.bool false)]) (az w _ V7) dz [] kr rfl (Rg.ek.pick ⟨Rg.ae _, Rg.ae _, trivial⟩) (az.begin (aa HO))
  (ah (df rfl aF)
  (ah (Ba rfl (aT 0) (Rg.je _) rfl rfl)
  Rg.bg)) ?_
 intro v8 V8 Fy Km Mo
 simp only [Rg.puts, Act.put, tA]
 have e1 : v8 1 = .bool false := Km 1 de
 simp only [e1]
 have hO := Fy.1
 clear HO
 have HO := hide hO
 clear hO Fy Km Mo
 try clear e1
 go_upto_region 13 with fail
 refine Rg.region 7 59 (Rg.pick [ax [iv n, iv d], ax [.k (eK z7), .q (Wd.qR n d)], ax [.k (eK F), .q X], ax [.k (eK F'), .q X'], jw [ax [.k (eK (ru F' X').f), iv (ru F' X').n, iv (ru F' X').d], Rg.au (.int .i64 (ru F' X').e)], ax [.k (eK (ru F' X').f), iv (ru F' X').n, iv (ru F' X').d], Rg.au (.int .i64 (ru F' X').e)]) (az w _ V8) dz [] kr kr rfl (Rg.ek.pick ⟨bf _, bf _, bf _, bf _, jm ⟨(bf _), (Rg.ae _), trivial⟩, bf _, Rg.ae _, trivial⟩) (az.start (aa HO))
  (ah (jc zn wz aF [] [iv n, iv d] [])
  (ah (sc1 Tryz.func118 (aT 0) (fun W v0 hG h0 => ahz (aa Dz) W _ h0))
  (ah (jc Pt me0 aF [] [.k (eK F), .q X] [])
  (ah (sc2 Tryz.func119 (aT 1) (aT 2) (fun W v0 v1 hG h0 h1 => (aa HTM) W _ _ ((aa HT).below hG.bel) h0 h1))
  (ah (sc1 Tryz.func105 (aT 3) (fun W v0 hG h0 => bcm W _ h0))
  (ah (mf (ts := [ax [.k (eK (ru F' X').f), iv (ru F' X').n, iv (ru F' X').d], Rg.au (.int .i64 (ru F' X').e)]) rfl (aT 4) (of_decide_eq_true rfl) rfl)
  (ah (mf (ts := [ax [.k (eK (ru F' X').f), iv (ru F' X').n, iv (ru F' X').d], Rg.au (.int .i64 (ru F' X').e)]) rfl (aT 4) (of_decide_eq_true rfl) rfl)
  Rg.bg))))))) ?_
 intro v9 V9 Ms Ml Rn
 simp only [Rg.puts, Act.put, tA]
 have e6 : v9 6 = .int .i64 (ru F' X').e := Ml 6 de
 simp only [e6]
 have hO := Ms.1
 refine oo hO 2 [] zU [.k (eK (ru F' X').f), iv (ru F' X').n, iv (ru F' X').d] [] rfl Bo rfl (show ax [.k (eK (ru F' X').f), iv (ru F' X').n, iv (ru F' X').d] V9 (v9 5) from Ml 5 de) rfl rfl rfl ?_
 intro bvf jb hk0
 replace hO := jb
 clear jb
 clear HO
 have HO := hide hO
 clear hO Ms Ml Rn hk0
 try clear e6
 go_wp2_with fail
 exact Im Tryz.results49 Ps rfl rfl (aa HO) Ib rfl rfl
theorem amx (w : World) (hT : og w) (hp : ∀ W, og W → Calls Tryz.prog 49 #[.string ⟨#[107, 78, 46, 109, 47, 115, 50]⟩] W (ic (UnT ⟨Fa, 1000, 1, 0⟩) W)) :
  Calls Tryz.prog 43 #[] w (ic (Rg.au (.bool true)) w) := by
 have HT := hide hT
 have HP := hide hp
 clear hT hp
 go_enter Tryz.func43, Tryz.ntmps43
 go_upto_region 1 with fail
 have hO := (Own.nil w)
 have HO := hide hO
 clear hO
 go_upto_region 1 with fail
 refine Rg.di 5 26 (Rg.pick [jw [ax [.k (eK Fa), iv 1000, iv 1], Rg.au (.int .i64 0)], jw [ax [.k (eK Fa), iv 1000, iv 1], Rg.au (.int .i64 0)], ax [.k (eK Fa), iv 1000, iv 1], Rg.au (.int .i64 0), qj 44 zU w.heap.size]) (az w _ w) dz [4] kr rfl (Rg.ek.pick ⟨jm ⟨(bf _), (Rg.ae _), trivial⟩, jm ⟨(bf _), (Rg.ae _), trivial⟩, bf _, Rg.ae _, qz _ _ _, trivial⟩) (az.begin (aa HO))
  (ah (sc1 Tryz.func49 (Rg.je _) (fun W v0 hG h0 => by cases h0; exact (aa HP) W ((aa HT).below hG.bel)))
  (ah (df rfl (aT 0))
  (ah (mf (ts := [ax [.k (eK Fa), iv 1000, iv 1], Rg.au (.int .i64 0)]) rfl (aT 1) (of_decide_eq_true rfl) rfl)
  (ah (mf (ts := [ax [.k (eK Fa), iv 1000, iv 1], Rg.au (.int .i64 0)]) rfl (aT 1) (of_decide_eq_true rfl) rfl)
  (ah (uh Re rfl az.step az.size rfl (xm (by intro j hj; simp at hj; (repeat' (first | (rcases hj with rfl | hj))) <;> first | (subst hj; exact ⟨_, _, _, rfl⟩) | exact ⟨_, _, _, rfl⟩)))
  Rg.bg))))) ?_
 intro v1 V1 hG1 hv1 hne1
 simp only [Rg.puts, Act.put, tA]
 have e3 : v1 3 = .int .i64 0 := hv1 3 de
 obtain ⟨bow, e4, hge4, hz4⟩ := (show qj 44 zU w.heap.size V1 (v1 4) from hv1 4 de)
 simp only [e3, e4]
 have hO := hG1.1
 replace hO := Own.add (aa HO) hG1.2 hge4 hz4
 clear hge4 hz4
 refine oo hO 0 [] zU [.k (eK Fa), iv 1000, iv 1] [] rfl Bo rfl (show ax [.k (eK Fa), iv 1000, iv 1] V1 (v1 2) from hv1 2 de) rfl rfl rfl ?_
 intro Cg jb hk0
 replace hO := jb
 clear jb
 clear HO
 have HO := hide hO
 clear hO hG1 hv1 hne1 hk0
 try clear e3 e4
 go_upto_region 2 with fail
 refine Rg.di 5 26 (Rg.pick [jw [ax [.k (eK z7), iv 0, iv 0], Rg.au (.int .i64 4)], jw [ax [.k (eK z7), iv 0, iv 0], Rg.au (.int .i64 4)], ax [.k (eK z7), iv 0, iv 0], Rg.au (.int .i64 4), qj 44 zU Cg.heap.size]) (az w _ Cg) dz [4] kr rfl (Rg.ek.pick ⟨jm ⟨(bf _), (Rg.ae _), trivial⟩, jm ⟨(bf _), (Rg.ae _), trivial⟩, bf _, Rg.ae _, qz _ _ _, trivial⟩) (az.begin (aa HO))
  (ah (sc1 Tryz.func50 (Rg.je _) (fun W v0 hG h0 => by cases h0; exact aqy W))
  (ah (df rfl (aT 0))
  (ah (mf (ts := [ax [.k (eK z7), iv 0, iv 0], Rg.au (.int .i64 4)]) rfl (aT 1) (of_decide_eq_true rfl) rfl)
  (ah (mf (ts := [ax [.k (eK z7), iv 0, iv 0], Rg.au (.int .i64 4)]) rfl (aT 1) (of_decide_eq_true rfl) rfl)
  (ah (uh Re rfl az.step az.size rfl (xm (by intro j hj; simp at hj; (repeat' (first | (rcases hj with rfl | hj))) <;> first | (subst hj; exact ⟨_, _, _, rfl⟩) | exact ⟨_, _, _, rfl⟩)))
  Rg.bg))))) ?_
 intro v2 V2 hG2 hv2 hne2
 simp only [Rg.puts, Act.put, tA]
 have e3 : v2 3 = .int .i64 4 := hv2 3 de
 obtain ⟨bve, e4, hge4, hz4⟩ := (show qj 44 zU Cg.heap.size V2 (v2 4) from hv2 4 de)
 simp only [e3, e4]
 have hO := hG2.1
 replace hO := Own.add (aa HO) hG2.2 hge4 hz4
 clear hge4 hz4
 refine oo hO 0 [] zU [.k (eK z7), iv 0, iv 0] [] rfl Bo rfl (show ax [.k (eK z7), iv 0, iv 0] V2 (v2 2) from hv2 2 de) rfl rfl rfl ?_
 intro Jo jb hk0
 replace hO := jb
 clear jb
 clear HO
 have HO := hide hO
 clear hO hG2 hv2 hne2 hk0
 try clear e3 e4
 go_upto_region 3 with fail
 refine Rg.di 14 26 (Rg.pick [ax [.k (eK Fa), iv 1000, iv 1], ax [.k (eK Fa)], ax [iv 1000, iv 1], ax [.k (eK Fa), iv 1000, iv 1], Rg.au (.bool true), Rg.au (.bool true), Rg.au (.int .i64 0), Rg.au (.bool true), Rg.au (.bool true), Rg.au (.bool true), Rg.au (.int .i64 4), Rg.au (.bool true), Rg.au (.bool true), Rg.au (.bool true)]) (az w _ Jo) dz [] kr rfl (Rg.ek.pick ⟨bf _, bf _, bf _, bf _, Rg.ae _, Rg.ae _, Rg.ae _, Rg.ae _, Rg.ae _, Rg.ae _, Rg.ae _, Rg.ae _, Rg.ae _, Rg.ae _, trivial⟩) (az.begin (aa HO))
  (ah (jc Bt wz aF [] [.k (eK Fa), iv 1000, iv 1] [])
  (ah (bng rfl rfl)
  (ah (Md rfl (Rg.je _) (Rg.je _) rfl)
  (ah (Gm akz rfl (aT 1) (aT 2) rfl rfl rfl)
  (ah (aka rfl (aT 0) (aT 3) rfl)
  (ah (df rfl (aT 4))
  (Rg.dm (Rg.fq (d := 18) rfl kr rfl (df rfl aF))
  (Rg.dm (Rg.fq (d := 18) rfl kr rfl (Td rfl (aT 6) (Rg.je _) rfl (beq_self_eq_true _)))
  (ah (yc rfl (aT 5) (aT 7))
  (ah (df rfl (aT 8))
  (Rg.dm (Rg.fq (d := 22) rfl kr rfl (df rfl aF))
  (Rg.dm (Rg.fq (d := 22) rfl kr rfl (Td rfl (aT 10) (Rg.je _) rfl (beq_self_eq_true _)))
  (ah (yc rfl (aT 9) (aT 11))
  (ah (ik rfl (aT 12))
  Rg.bg)))))))))))))) ?_
 intro v3 V3 hG3 hv3 mh
 simp only [Rg.puts, Act.put, tA]
 have e12 : v3 12 = .bool true := hv3 12 de
 have e13 : v3 13 = .bool true := hv3 13 de
 simp only [e12, e13]
 have hO := hG3.1
 clear HO
 have HO := hide hO
 clear hO hG3 hv3 mh
 try clear e12 e13
 go_wp2_with fail
 exact yz Tryz.results43 rfl (aa HO).bel rfl
end Sb


namespace Sb
theorem aqg (s : ByteArray) (m : Nat) (c : UInt8) (p : Int) (hm : 0 < m) (hlm : m < s.size) (hs : s.size = m + 1) (hl : ∀ j (h : j < s.size), j < m → Dr (s[j].toNat : Int) = true) (hc : s[m] = c) (hcl : Dr (c.toNat : Int) = false) (h1 : 49 ≤ c.toNat) (h2 : c.toNat ≤ 57) (hp : p = (c.toNat : Int) - 48) (hz : s.size ≤ 1000000) (w : World) :
  Calls Tryz.prog 209 #[.string s] w (ic (Us (s.extract 0 m) p true) w) := by
 have HL := hide (fun W b => Zj b W)
 have HH := hide hl
 obtain ⟨r, hr⟩ : ∃ r, r = s.extract m s.size := ⟨_, rfl⟩
 have hrs : r.size = 1 := by rw [hr, ByteArray.size_extract]; omega
 have hr0 : r[0]'(by omega) = c := by
  rw [← hc]
  subst hr
  rw [ByteArray.getElem_extract]
  simp only [Nat.add_zero]
 have hcp := (fun W => akw r (by
  have h3 : r.data.toList.head? = some (r[0]'(by omega)) := by
   have h1 : 0 < r.data.toList.length := by rw [ou]; omega
   rw [List.head?_eq_getElem?, List.getElem?_eq_getElem h1]; rfl
  rw [h3, hr0]
  intro h
  have h4 : c = 45 := Option.some.inj h
  rw [h4] at h1
  exact absurd h1 de) W)
 have HC : Hid (∀ W, Calls Tryz.prog 85 #[.string (s.extract m s.size), .string ⟨#[45]⟩] W fun e w' => e = .returned (.tuple #[.string r, .bool false]) ∧ w' = W) := hide (fun W => by rw [← hr]; exact hcp W)
 clear hl hcp
 have HZ := hide (And.intro hs hz)
 have z0 : ((m : Int) == 0) = false := beq_eq_false_iff_ne.2 om
 have z1 : ((m : Int) == (s.size : Int)) = false := beq_eq_false_iff_ne.2 om
 have hms : m ≤ s.size := by omega
 have hd : Dr (s[m].toNat : Int) = false := by rw [hc]; exact hcl
 clear hs hz hc hcl
 go_enter Tryz.func209, Tryz.ntmps209
 go_wp2_with fail
 go_loop [4] (fun i => ∃ k : Nat, k ≤ m ∧ i = .int .i64 k) (fun i => m - (intOf i).toNat)
 case atStart => exact ⟨0, Nat.zero_le _, rfl⟩
 case round =>
  obtain ⟨k, hk, rfl⟩ := hrel
  by_cases g : k < m
  ·
   have hlt : k < s.size := by omega
   have e1 := (aa HH) k hlt g
   have HG := hide g
   have hz2 := (aa HZ).2
   clear hd hr0 hp h1 h2
   go_wp2_with (go_at_call 235; refine ((aa HL) _ _).mono ?_; rintro e w' ⟨rfl, rfl⟩; rw [e1])
   go_round
   case rel => exact ⟨k + 1, by have := aa HG; omega, by go_num⟩
   case measure => have := aa HG; simp [intOf]; omega
  ·
   obtain rfl : k = m := by omega
   go_wp2_with (go_at_call 235; refine ((aa HL) _ _).mono ?_; rintro e w' ⟨rfl, rfl⟩; rw [hd])
   refine ((aa HC) _).mono ?_
   rintro e w' ⟨rfl, rfl⟩
   dsimp only
   have hq : ((r.size : Int) != 1) = false := by rw [hrs]; rfl
   have hr1 : 0 < r.size := by omega
   have hr9 : r[0]'hr1 = c := hr0
   rw [← hr9] at h1 h2 hp
   have e4 : decide ((r[0].toNat : Int) < 49) = false := decide_eq_false om
   have e5 : decide ((57 : Int) < (r[0].toNat : Int)) = false := decide_eq_false om
   have e6 : IntKind.u8.wrap ((r[0].toNat : Int) - 48) = p := by rw [hp]; exact wrap_u8 om om
   have e7 : IntKind.i64.wrap p = p := IntWalk.i64_in _ om
   have e8 : wrap64 p = p := IntWalk.wrap64_in _ om
   clear h1 h2 hp hr9 hr0 hrs hr hd
   go_wp2_with fail
   exact bodyPost_ret (v := .tuple #[.agg #[.string (s.extract 0 k), .int .i64 p], .bool true]) (by simp [results, Tryz.results209, go_sem]) rfl ⟨_, rfl, ig (Below.refl _ _) _, akr⟩
end Sb
end Go.Proofs.YtfgeaakhlcaibaaGreatDoor
namespace Go.Proofs.YtfgeaakhlcaibaaGreatDoor
namespace Wd
open Go.Lib

theorem Vj {k : Nat} (h : k < 10) : (UInt8.ofNat (48 + k)).toNat = 48 + k := by
 rw [UInt8.toNat_ofNat']; omega
theorem aaa (u : Nat) : uk (decDigits u) = u := by
 induction u using Nat.strongRecOn with
 | _ u ih =>
  by_cases h : u < 10
  ·
   rw [decDigits_one h]
   show 0 * 10 + ((UInt8.ofNat (48 + u)).toNat - 48) = u
   rw [Vj h]; omega
  ·
   rw [decDigits, dif_neg h, Sr, ih (u / 10) om, Vj om]; omega
theorem agj {k : Nat} (h : k < 10) : yx (UInt8.ofNat (48 + k)) = true := by
 unfold yx
 rw [Vj h, decide_eq_true (show 48 ≤ ((48 + k : Nat) : Int) by omega), decide_eq_true (show ((48 + k : Nat) : Int) ≤ 57 by omega)]; rfl
theorem asa (u : Nat) : (decDigits u).all yx = true := by
 induction u using Nat.strongRecOn with
 | _ u ih =>
  by_cases h : u < 10
  ·
   rw [decDigits_one h, List.all_cons, agj h]; rfl
  ·
   rw [decDigits, dif_neg h, List.all_append, ih (u / 10) om, List.all_cons, agj om]; rfl
theorem aab : ∀ (k u : Nat), 1 ≤ k → u < 10 ^ k → (decDigits u).length ≤ k
 | 0, _, h, _ => absurd h om
 | k + 1, u, _, h => by
  by_cases h1 : u < 10
  ·
   rw [decDigits_one h1]; simp
  ·
   rw [decDigits, dif_neg h1, List.length_append]
   rcases Nat.eq_zero_or_pos k with rfl | hk
   ·
    rw [Nat.zero_add, Nat.pow_one] at h; omega
   ·
    have := aab k (u / 10) hk (by rw [Nat.pow_succ] at h; omega)
    simp only [List.length_cons, List.length_nil]; omega
theorem ahv (u : Nat) : 1 ≤ (decDigits u).length := by
 by_cases h : u < 10
 ·
  rw [decDigits_one h]; simp
 ·
  rw [decDigits, dif_neg h, List.length_append]; simp
theorem bcj (u : Nat) (h0 : 1 ≤ u) : (decDigits u).head? ≠ some 48 := by
 induction u using Nat.strongRecOn with
 | _ u ih =>
  by_cases h : u < 10
  ·
   rw [decDigits_one h]
   intro e
   have e2 : UInt8.ofNat (48 + u) = 48 := Option.some.inj e
   have e3 := Vj h
   rw [e2] at e3
   have : (48 : UInt8).toNat = 48 := rfl
   omega
  ·
   rw [decDigits, dif_neg h]
   have h1 := ahv (u / 10)
   have h2 := ih (u / 10) om om
   cases hl : decDigits (u / 10) with
   | nil => rw [hl] at h1; exact absurd h1 de
   | cons c l => rw [hl] at h2; exact h2
theorem ahw {u : Nat} (h : u ≤ 1000000000000) : Bg (decDigits u) = true := by
 refine yw.2 ⟨uy.2 ⟨ahv u, ?_, asa u⟩, ?_⟩
 ·
  have := aab 20 u om (Nat.lt_of_le_of_lt h de); omega
 ·
  rcases Nat.eq_zero_or_pos u with rfl | h0
  ·
   exact .inl (by rw [decDigits_one om]; rfl)
  ·
   exact .inr (bcj u h0)
theorem Uj (u : Nat) {c : UInt8} (hc : c.toNat < 48) : c ∉ decDigits u := fun h => by
 have := ady (asa u) h; omega
theorem bhq {u : Nat} (h : 1 ≤ u) : ¬ decDigits u = [48] := fun e => by
 have h1 := aaa u
 rw [e] at h1
 have : uk [48] = 0 := rfl
 omega
def nk (n d : Int) : List UInt8 := if d = 1 then itoa n else itoa n ++ 47 :: itoa d
theorem arh {d : Int} (h : 0 ≤ d) : itoa d = decDigits d.natAbs := by
 unfold itoa; rw [if_neg om, show d.toNat = d.natAbs by omega]
theorem bbm (u d : Nat) (hu : u ≤ 1000000000000) (hd : d ≤ 1000000000000) (h1 : 1 ≤ d) :
  Ad (if d = 1 then decDigits u else decDigits u ++ 47 :: decDigits d) = some (Rat.divInt u d) := by
 by_cases h : d = 1
 ·
  rw [if_pos h, Ra (Uj u de) (Uj u de), if_pos (ahw hu), aaa, h]; rfl
 ·
  rw [if_neg h, Hz rfl (Uj u de), ahw hu, ahw hd, beq_eq_false_iff_ne.2 (bhq h1), aaa, aaa]; rfl
theorem ace {n d : Int} (ok : qm n d) : Tf (nk n d) = ⟨n, d, 0⟩ := by
 obtain ⟨h1, h2, h3, h4, _⟩ := id ok
 have hp := bbm n.natAbs d.natAbs om om om
 rw [show ((d.natAbs : Nat) : Int) = d by omega] at hp
 have hdd : (if d.natAbs = 1 then decDigits n.natAbs else decDigits n.natAbs ++ 47 :: decDigits d.natAbs) = (if d = 1 then decDigits n.natAbs else decDigits n.natAbs ++ 47 :: itoa d) := by
  rw [arh om]
  by_cases h : d = 1
  ·
   rw [if_pos h, if_pos om]
  ·
   rw [if_neg h, if_neg om]
 rw [hdd] at hp
 unfold Tf
 by_cases hn : n < 0
 ·
  have e : nk n d = 45 :: (if d = 1 then decDigits n.natAbs else decDigits n.natAbs ++ 47 :: itoa d) := by
   unfold nk
   have e1 : itoa n = 45 :: decDigits n.natAbs := by unfold itoa; rw [if_pos hn]
   rw [e1]
   by_cases h : d = 1
   ·
    rw [if_pos h, if_pos h]
   ·
    rw [if_neg h, if_neg h]; rfl
  rw [e, List.head?_cons, if_pos rfl, List.tail_cons, hp]
  have hq : -Rat.divInt (n.natAbs : Int) d = qR n d := by unfold qR; rw [Rat.neg_divInt, show -(n.natAbs : Int) = n by omega]
  have h0 : ¬ Rat.divInt (n.natAbs : Int) d = 0 := fun hz => by
   rw [hz] at hq
   have := (bbj ok).1 (by rw [← hq]; rfl)
   omega
  dsimp only
  rw [if_neg h0, hq, Lg ok]
 ·
  have e : nk n d = (if d = 1 then decDigits n.natAbs else decDigits n.natAbs ++ 47 :: itoa d) := by
   unfold nk
   rw [arh (d := n) om]
  have hh : ¬ (nk n d).head? = some 45 := by
   have hdp := ahv n.natAbs
   have hno : (45 : UInt8) ∉ decDigits n.natAbs := Uj _ de
   rw [e]
   cases hl : decDigits n.natAbs with
   | nil => rw [hl] at hdp; exact absurd hdp de
   | cons c l =>
    rw [hl] at hno
    have hc : ¬ c = 45 := fun e => hno (by rw [e]; exact List.mem_cons_self)
    split
    ·
     intro h; exact hc (Option.some.inj h)
    ·
     intro h; exact hc (Option.some.inj h)
  rw [if_neg hh, e, hp]
  dsimp only
  rw [show ((n.natAbs : Nat) : Int) = n by omega]
  exact Lg ok
end Wd
end Go.Proofs.YtfgeaakhlcaibaaGreatDoor
namespace Go.Proofs.YtfgeaakhlcaibaaGreatDoor
open Go.RowKit

namespace Sb
theorem Ve {s a b : ByteArray} {c : UInt8} (h : s.data.toList = a.data.toList ++ c :: b.data.toList) (hn : c ∉ a.data.toList) (hs : s.size ≤ 1000) (W : World) :
  Calls Tryz.prog 155 #[.string s, .string ⟨#[c]⟩] W fun e w' => e = .returned (.tuple #[.string a, .string b, .bool true]) ∧ Below W.heap.size W w' := by
 refine (Kb s ⟨#[c]⟩ c rfl W om).mono ?_
 rintro e w' ⟨x, y, f, rfl, hb, ⟨rfl, h1, h2⟩ | ⟨rfl, rfl, h1, h2⟩⟩
 ·
  have e1 := Wd.Kq c _ y.data.toList h2
  rw [← h1, h, Wd.Kq c _ _ hn] at e1
  simp only [Option.some.injEq, Prod.mk.injEq] at e1
  obtain rfl : a = x := by rw [← Il a, e1.1, Il]
  obtain rfl : b = y := by rw [← Il b, e1.2, Il]
  exact ⟨rfl, hb⟩
 ·
  exact absurd (by rw [h]; exact List.mem_append_right _ List.mem_cons_self) h2
theorem aer {s : ByteArray} (hn : (32 : UInt8) ∉ s.data.toList) (hs : s.size ≤ 600) (w : World) :
  Calls Tryz.prog 114 #[.string s] w (ic (jw [Rg.au (.string ⟨#[49]⟩), Rg.au (.string s)]) w) := by
 have HC := hide (fun W => Kb s ⟨#[32]⟩ 32 rfl W om)
 have HN := hide hn
 clear hn hs
 go_enter Tryz.func114, Tryz.ntmps114
 go_wp2_with fail
 refine ((aa HC) _).mono ?_
 rintro e W1 ⟨x, y, f, rfl, hb, ⟨_, h, _⟩ | ⟨rfl, rfl, h1, h2⟩⟩
 ·
  exact absurd (by rw [h]; exact List.mem_append_right _ List.mem_cons_self) (aa HN)
 clear h1 h2
 dsimp only
 go_wp2_with fail
 go_ret2
 exact ⟨_, rfl, hb, [_, _], rfl, _, _, rfl, rfl, _, _, rfl, rfl, rfl⟩
theorem Cc : Wd.qm 1 1 := by unfold Wd.qm; decide
theorem Mf : Wd.qm 1000 1 := by unfold Wd.qm; decide
theorem Yy (w : World) (hT : og w) : Calls Tryz.prog 24 #[.string ⟨#[49]⟩] w (ic (jw [ax [iv 1, iv 1], Rg.au (.int .i64 0)]) w) := by
 have e1 := Wd.ace (n := 1) (d := 1) Cc
 rw [show Wd.nk 1 1 = [49] by kernel_rfl] at e1
 refine (acf ⟨#[49]⟩ w hT de).mono ?_
 rintro e w' ⟨rfl, hb⟩
 rw [show (⟨#[49]⟩ : ByteArray).data.toList = [49] from rfl, e1]
 exact ⟨_, rfl, hb, [_, _], rfl, _, _, rfl, Bd _ _ _, _, _, rfl, rfl, rfl⟩
theorem Uk {p q : Nat → Int} (h : ([0, 1, 2, 3, 4, 5, 6].all fun j => p j == q j) = true) : ∀ j, j < 7 → p j = q j := fun j hj => by
 have := List.all_eq_true.1 h j (by
  have hc : j = 0 ∨ j = 1 ∨ j = 2 ∨ j = 3 ∨ j = 4 ∨ j = 5 ∨ j = 6 := by omega
  rcases hc with rfl | rfl | rfl | rfl | rfl | rfl | rfl <;> decide)
 exact eq_of_beq this
theorem beu {F : Nat} {vs : Array Value} {W : World} {f : Nat → Int} {a b : Rat} {v : Value} (e : a = b) (h : Calls Tryz.prog F vs W (ic (jw [ax [.k (eK f), .q a], Rg.au v]) W)) : Calls Tryz.prog F vs W (ic (jw [ax [.k (eK f), .q b], Rg.au v]) W) := e ▸ h
theorem Pf {F : Nat} {vs : Array Value} {W : World} {a b : Rat} (e : a = b) (h : Calls Tryz.prog F vs W (ic (ax [.q a]) W)) : Calls Tryz.prog F vs W (ic (ax [.q b]) W) := e ▸ h
theorem Yq {w : World} {g k : Nat} {nm : ByteArray} {p : Int} {f u q f' : Nat → Int} {n d n' d' a b a' b' : Int} (hat : Lr w g k nm p)
  (hfind : ∀ W r, og W → xx W r wu → Calls Tryz.prog 121 #[.map (some r), .string nm] W (ic (jw [ax [.k (eK u), .q (Wd.qR n d)], Rg.au (.bool true)]) W))
  (okx : Wd.qm a b) (oky : Wd.qm n d) (okz : Wd.qm n' d') (hp : -((9 : Nat) : Int) ≤ p ∧ p ≤ (9 : Nat)) (hq : ∀ j, j < 7 → wrap64 (u j * p) = q j) (h0n : (Wd.qR n d).num ≠ 0) (hz : Hy (Wd.qR n d) p = Wd.qR n' d')
  (hf : ∀ j, j < 7 → wrap64 (f j + q j) = f' j) (hx : Wd.qR a b * Wd.qR n' d' = Wd.qR a' b') : Vm w g k nm p f (Wd.qR a b) f' (Wd.qR a' b') :=
 ⟨u, Wd.qR n d, q, Wd.qR n' d', hat, hfind, fun W v0 hT h0 => aqp W v0 h0 hq (fun W' v0' hb h => Pf hz (bht (K := 1) (b := 9) (Eg oky) h0n hp om om W' _ h)),
  fun W v0 v1 hT h0 h1 => Ka W v0 h0 v1 h1 hf (fun W' x y hb g0 g1 => Pf hx (Vk (hT.below hb) (Eg okx) (Eg okz) g0 g1))⟩
theorem ayi : Wd.qR 1 1 * Wd.qR 1 1 = Wd.qR 1 1 := by kernel_rfl
theorem ayh : Wd.qR 1 1 * Wd.qR 1000 1 = Wd.qR 1000 1 := by kernel_rfl
theorem amv : Wd.qR 1000 1 * Wd.qR 1 1 = Wd.qR 1000 1 := by kernel_rfl
theorem bjj : Hy (Wd.qR 1000 1) 1 = Wd.qR 1000 1 := by kernel_rfl
theorem bjl : Hy (Wd.qR 1 1) 1 = Wd.qR 1 1 := by kernel_rfl
theorem bjk : Hy (Wd.qR 1 1) (-2) = Wd.qR 1 1 := by kernel_rfl
theorem auy : (Wd.qR 1 1).num ≠ 0 := by decide
theorem bnj : (Wd.qR 1000 1).num ≠ 0 := by decide
def kF (k : Nat) : Nat → Int := if k = 0 then z7 else if k = 1 then (fun j => if j = 0 then 1 else if j = 1 then 1 else if j = 2 then -2 else 0) else if k = 2 then (fun j => if j = 0 then 2 else if j = 1 then 1 else if j = 2 then -2 else 0) else Fa
def kX (k : Nat) : Rat := if k = 0 then Wd.qR 1 1 else Wd.qR 1000 1
def kN' : Nat → Int := fun j => if j = 0 then 1 else if j = 1 then 1 else if j = 2 then -2 else 0
def km' : Nat → Int := fun j => if j = 0 then 1 else 0
def ks' : Nat → Int := fun j => if j = 2 then 1 else 0
def ks2 : Nat → Int := fun j => if j = 2 then -2 else 0
def kFs : List (ByteArray × Int) := [(⟨#[107, 78]⟩, 1), (⟨#[109]⟩, 1), (⟨#[115]⟩, -2)]
theorem bby (W : World) (r : Nat) (hT : og W) (hm : xx W r wu) : Calls Tryz.prog 121 #[.map (some r), .string ⟨#[107, 78]⟩] W (ic (jw [ax [.k (eK kN'), .q (Wd.qR 1000 1)], Rg.au (.bool true)]) W) :=
 beu amv (awj (b := 107) (ls := [78]) (f := kN') (n := 1) (d := 1) (p := 1000) (q := 1) W hm rfl kr kr kr kr hT Mf Cc (Uk (p := fun j => wrap64 (z7 j + kN' j)) kr))
theorem bhi (W : World) (r : Nat) (hm : xx W r wu) : Calls Tryz.prog 121 #[.map (some r), .string ⟨#[109]⟩] W (ic (jw [ax [.k (eK km'), .q (Wd.qR 1 1)], Rg.au (.bool true)]) W) :=
 Yb (f := km') (n := 1) (d := 1) W hm kr Cc
theorem bhh (W : World) (r : Nat) (hm : xx W r wu) : Calls Tryz.prog 121 #[.map (some r), .string ⟨#[115]⟩] W (ic (jw [ax [.k (eK ks'), .q (Wd.qR 1 1)], Rg.au (.bool true)]) W) :=
 Yb (f := ks') (n := 1) (d := 1) W hm kr Cc
theorem amt (W : World) (ao : Option Addr) (c : Nat) (hT : og W) (hf : Sa W ao kFs) :
  Calls Tryz.prog 117 #[.slice ao kFs.length c] W (ic (jw [ax [.k (eK Fa), .q (Wd.qR 1000 1)], Rg.au (.bool true)]) W) := by
 refine acg (F := kF) (X := kX) (n := 3) W hT om rfl rfl Cc (fun k hk => ?_)
 have hc : k = 0 ∨ k = 1 ∨ k = 2 := by omega
 rcases hc with rfl | rfl | rfl
 ·
  obtain ⟨g, e, hat⟩ := hf 0 _ rfl
  exact ⟨g, e, _, _, Yq hat bby Cc Mf Mf de (q := kN') (Uk (p := fun j => wrap64 (kN' j * 1)) kr) bnj bjj (Uk (p := fun j => wrap64 (kF 0 j + kN' j)) (q := kF 1) kr) ayh⟩
 ·
  obtain ⟨g, e, hat⟩ := hf 1 _ rfl
  exact ⟨g, e, _, _, Yq hat (fun W r _ hm => bhi W r hm) Mf Cc Cc de (q := km') (Uk (p := fun j => wrap64 (km' j * 1)) kr) auy bjl (Uk (p := fun j => wrap64 (kF 1 j + km' j)) (q := kF 2) kr) amv⟩
 ·
  obtain ⟨g, e, hat⟩ := hf 2 _ rfl
  exact ⟨g, e, _, _, Yq hat (fun W r _ hm => bhh W r hm) Mf Cc Cc de (q := ks2) (Uk (p := fun j => wrap64 (ks' j * (-2))) kr) auy bjk (Uk (p := fun j => wrap64 (kF 2 j + ks2 j)) (q := kF 3) kr) amv⟩
abbrev tkN : ByteArray := ⟨#[107, 78]⟩
abbrev tm : ByteArray := ⟨#[109]⟩
abbrev ts : ByteArray := ⟨#[115]⟩
abbrev ts2 : ByteArray := ⟨#[115, 50]⟩
abbrev bdo : ByteArray := ⟨#[107, 78, 46, 109]⟩
abbrev alv : ByteArray := ⟨#[107, 78, 46, 109, 47, 115, 50]⟩
def l1k : List (ByteArray × Int) := [(tkN, 1), (tm, 1)]
theorem bep (k : Nat) (p : ByteArray) (f : ByteArray × Int) (hp : [tkN, tm][k]? = some p) (hf : l1k[k]? = some f) (W : World) : Calls Tryz.prog 209 #[.string p] W (ic (Us f.1 f.2 true) W) := by
 match k, hp, hf with
 | 0, hp, hf =>
  cases hp
  cases hf
  exact aaz tkN (fun j h => by
   have hc : j = 0 ∨ j = 1 := by
    have h2 : j < 2 := h
    omega
   rcases hc with rfl | rfl <;> rfl) de de W
 | 1, hp, hf =>
  cases hp
  cases hf
  exact aaz tm (fun j h => by
   have hc : j = 0 := by
    have h2 : j < 1 := h
    omega
   subst hc
   rfl) de de W
 | k + 2, hp, _ => cases hp
theorem bjs : ts2.extract 0 1 = ts := by kernel_rfl
theorem ber (k : Nat) (p : ByteArray) (f : ByteArray × Int) (hp : [ts2][k]? = some p) (hf : [(ts, (2 : Int))][k]? = some f) (W : World) : Calls Tryz.prog 209 #[.string p] W (ic (Us f.1 f.2 true) W) := by
 match k, hp, hf with
 | 0, hp, hf =>
  cases hp
  cases hf
  have h := aqg ts2 1 50 2 de de rfl (fun j h hj => by
   have hc : j = 0 := by omega
   subst hc
   rfl) rfl rfl de de de de W
  rw [bjs] at h
  exact h
 | k + 1, hp, _ => cases hp
theorem amj (w : World) : Calls Tryz.prog 115 #[.string alv] w (ic (jw [Fj kFs, Rg.au (.bool true)]) w) := by
 refine akb alv bdo ts2 l1k kFs w (fun W => Ve (c := 47) rfl de de W) kr (fun w0 W v hf hb => ?_) (fun w0 W v hf hb => ?_)
 ·
  have h := abb bdo [tkN, tm] l1k [] 1 v w0 W kr de rfl de bep hf hb
  rw [show [] ++ l1k.map (fun (f : ByteArray × Int) => (f.1, wrap64 (f.2 * 1))) = l1k by kernel_rfl] at h
  exact h
 ·
  have h := abb ts2 [ts2] [(ts, 2)] l1k (-1) v w0 W kr de rfl de ber hf hb
  rw [show l1k ++ [(ts, (2 : Int))].map (fun (f : ByteArray × Int) => (f.1, wrap64 (f.2 * (-1)))) = kFs by kernel_rfl] at h
  exact h
theorem bjr : xw Fa := fun j hj => by
 have hc : j = 0 ∨ j = 1 ∨ j = 2 ∨ j = 3 ∨ j = 4 ∨ j = 5 ∨ j = 6 := by omega
 rcases hc with rfl | rfl | rfl | rfl | rfl | rfl | rfl <;> decide
theorem bdr : ru Fa (Wd.qR 1000 1) = ⟨Fa, 1000, 1, 0⟩ := by
 unfold ru
 rw [if_pos bjr, Wd.Lg Mf]
 rfl
theorem ajc (w : World) (hT : og w) : Calls Tryz.prog 49 #[.string alv] w (ic (UnT ⟨Fa, 1000, 1, 0⟩) w) := by
 rw [← bdr]
 exact Ey (a := ⟨#[49]⟩) (b := alv) (n := 1) (d := 1) (fs := kFs) (F := Fa) (X := Wd.qR 1000 1) w hT de Cc de (fun W => aer de de W) (fun W h => Yy W h) amj (fun W ao c h hf => amt W ao c h hf)
  (fun W v0 v1 h h0 h1 => Ka W v0 h0 v1 h1 (Uk (p := fun j => wrap64 (z7 j + Fa j)) kr) (fun W' x y hb g0 g1 => Pf ayh (Vk (h.below hb) (Eg Cc) (Eg Mf) g0 g1)))
theorem acr (w : World) (hT : og w) : Calls Tryz.prog 43 #[] w (ic (Rg.au (.bool true)) w) := amx w hT fun W h => ajc W h
end Sb

namespace Sb
def tx (l : List UInt8) : ByteArray := ⟨l.toArray⟩
theorem bdn (l k : List UInt8) : tx l ++ tx k = tx (l ++ k) := by
 rw [← Il (tx l ++ tx k), Kz]
 rfl
theorem Gw (l : List UInt8) : (tx l).data.toList = l := rfl
theorem Gv (l : List UInt8) : (tx l).toList = l := (Lib.toList_data _).trans rfl
theorem zf (l : List UInt8) : (tx l).size = l.length := (ou _).symm
theorem bhr {l k : List UInt8} (h : l.length + k.length ≤ 1000000) (W : World) : (Op.stringOp .add (tx l) (tx k)).run Tryz.prog W = .ok (.string (tx (l ++ k))) W := by
 rw [← bdn]
 exact run_string_add_sum W _ _ (by rw [zf, zf]; omega)
def bnL : List (List UInt8) := [[109], [107, 103], [115], [65], [75], [109, 111, 108], [99, 100]]
def bn (j : Nat) : List UInt8 := bnL.getD j []
theorem Mw (j : Nat) : (bn j).length ≤ 3 := by
 unfold bn
 by_cases h : j < 7
 ·
  have hc : j = 0 ∨ j = 1 ∨ j = 2 ∨ j = 3 ∨ j = 4 ∨ j = 5 ∨ j = 6 := by omega
  rcases hc with rfl | rfl | rfl | rfl | rfl | rfl | rfl <;> decide
 ·
  rw [List.getD_eq_getElem?_getD, List.getElem?_eq_none (by show 7 ≤ j; omega)]
  decide
theorem Rj {p : Int} (h1 : 0 ≤ p) (h2 : p < 10) : Lib.itoa p = [UInt8.ofNat (48 + p.toNat)] := by
 unfold Lib.itoa
 rw [if_neg om, Lib.decDigits_one om]
def piece (j : Nat) (p : Int) : List UInt8 := if p = 1 then bn j else bn j ++ Lib.itoa p
def qy (z : Nat → Int) : Nat → List (List UInt8)
 | 0 => []
 | k + 1 => if 0 < z k then qy z k ++ [piece k (z k)] else qy z k
theorem abe (z : Nat → Int) : ∀ k, (qy z k).length ≤ k
 | 0 => Nat.le_refl _
 | k + 1 => by
  have := abe z k
  unfold qy
  split
  ·
   rw [List.length_append, List.length_singleton]; omega
  ·
   omega
def ry (z : Nat → Int) : List UInt8 := Lib.join (qy z 7) [46]
theorem abd {z : Nat → Int} {k : Nat} (h : z k = 1) : qy z (k + 1) = qy z k ++ [bn k] := by
 show (if 0 < z k then qy z k ++ [piece k (z k)] else qy z k) = _
 rw [if_pos om]; unfold piece; rw [if_pos h]
theorem Xf {z : Nat → Int} {k : Nat} (h : 1 < z k) : qy z (k + 1) = qy z k ++ [bn k ++ Lib.itoa (z k)] := by
 show (if 0 < z k then qy z k ++ [piece k (z k)] else qy z k) = _
 rw [if_pos om]; unfold piece; rw [if_neg om]
theorem afh {z : Nat → Int} {k : Nat} (h : z k ≤ 0) : qy z (k + 1) = qy z k := by
 show (if 0 < z k then qy z k ++ [piece k (z k)] else qy z k) = _
 rw [if_neg om]
theorem Hm (ps : List (List UInt8)) (p : List UInt8) : Lib.join (ps ++ [p]) [46] = if ps = [] then p else Lib.join ps [46] ++ 46 :: p := by
 cases ps with
 | nil => rw [if_pos rfl, List.nil_append, Lib.join_one]
 | cons x r =>
  rw [if_neg (by simp), List.cons_append, Lib.join_cons, Lib.join_cons]
  unfold Lib.joinTail
  rw [List.map_append, List.flatten_append]
  simp
theorem aqs {j : Nat} {p : Int} (h1 : 0 ≤ p) (h2 : p ≤ 9) : (piece j p).length ≤ 4 := by
 have h3 := Mw j
 unfold piece
 split
 ·
  omega
 ·
  rw [List.length_append, Rj h1 om, List.length_singleton]; omega
theorem Mi {z : Nat → Int} : ∀ k, (∀ j, j < k → z j ≤ 9) → (Lib.join (qy z k) [46]).length ≤ 5 * k
 | 0, _ => Nat.le_refl _
 | k + 1, h => by
  have ih := Mi k (fun j hj => h j om)
  show (Lib.join (if 0 < z k then qy z k ++ [piece k (z k)] else qy z k) [46]).length ≤ 5 * (k + 1)
  by_cases g : 0 < z k
  ·
   rw [if_pos g, Hm]
   have h4 := aqs (j := k) (p := z k) om (h k om)
   split
   ·
    omega
   ·
    rw [List.length_append, List.length_cons]; omega
  ·
   rw [if_neg g]; omega
def Iy (w : World) : Prop := (∀ j, j < 7 → w.cell? ⟨0, j, none⟩ = some (.string (tx (bn j)))) ∧ 0 < w.heap.size
theorem Iy.below {w W : World} (h : Iy w) (hb : Below w.heap.size w W) : Iy W := ⟨fun j hj => (hb.cell (p := ⟨0, j, none⟩) h.2).trans (h.1 j hj), Nat.lt_of_lt_of_le h.2 hb.size⟩
def Jp (w : World) (base : Nat) (v : Value) (ps : List (List UInt8)) : Prop := w.ownsRow base 9 1 v ps.length (ps.map fun l => Value.string (tx l))
theorem Jp.nil (w : World) (base : Nat) : Jp w base (.slice none 0 0) [] := World.ownsRow_nil _ _ _ _
theorem Jp.ge {w : World} {base : Nat} {v : Value} {l : List (List UInt8)} (h : Jp w base v l) : ∀ g, v.ownBlock = some g → base ≤ g := fun g hg => (World.ownsRow.lt h g hg).1
theorem Jp.below {w w' : World} {base : Nat} {v : Value} {l : List (List UInt8)} (h : Jp w base v l) (hb : Below w.heap.size w w') : Jp w' base v l := by
 obtain ⟨h1, h2 | ⟨g, cap, cur, e, h3, h4, h5⟩⟩ := h
 ·
  exact ⟨h1, .inl h2⟩
 ·
  exact ⟨h1, .inr ⟨g, cap, cur, e, h3, (hb.block _ (lt_of_block h4)).trans h4, h5⟩⟩
theorem bbu : (Tryz.prog.info? 9).map (fun i => (i.zero, i.size, i.bytes)) = some (some (.string ⟨#[]⟩), 1, 16) := by kernel_rfl
theorem bbr {w : World} {s : ByteArray} {T : TypeId} {b : Nat} (hb : b = w.heap.size) : ∀ (j : Nat) u, [Value.string s][j]? = some u → (w.alloc (.cells #[.string s] T)).cell? ((⟨b, 0, none⟩ : Addr).add j) = some u := by
 intro j u h
 subst hb
 have h1 := ag (heap_alloc_new w (.cells #[.string s] T)) j
 rw [show (⟨w.heap.size, 0, none⟩ : Addr).add j = ⟨w.heap.size, j, none⟩ by (simp [Addr.add]; try omega), h1]
 simpa using h
theorem ake {s : ByteArray} : ∀ u ∈ [Value.string s], u.oneCell' = true := by
 intro u hu
 rw [List.mem_singleton] at hu
 subst hu
 rfl
theorem agh {z : Int} (h1 : 0 ≤ z) (h2 : z < 100) (w : World) : Calls Tryz.prog 83 #[.int .i64 z] w fun e w' => e = .returned (.string (tx (Lib.itoa z))) ∧ Below w.heap.size w w' := by
 obtain ⟨i, rfl⟩ : ∃ i : Nat, z = i := ⟨z.toNat, by omega⟩
 refine (Tryz.strconv_Itoa_small i om w).mono ?_
 rintro e w' ⟨rfl, hw⟩
 exact ⟨rfl, by subst hw; exact Below.refl _ _⟩
theorem beg {Q : Exit → Act → World → Prop} {l : List Oper} {n : Nat} {T : Nat → World → Value → Prop} {G : World → Prop} {al : List Nat} {a0 : Act} {k d : Nat} {ty : TypeId} {pos : String} {af : Array Edge} {gd : Option (Nat × Bool)} {i : Nat} {y : Operand} (hal : al.contains k = false) (hy : Rg.ib l n T a0 k y (Rg.au (.int .i64 (i : Int)))) (hi : i < 7) (hT : T k = Rg.au (.pointer (some ⟨0, i, none⟩))) :
  Rg.Step Tryz.prog Q l n T G dz al a0 k { dst := some d, op := .indexAddr 176 (.global 0) y, type := ty, pos := pos, after := af, guard := gd } := by
 intro a w hG hO hN
 have h2 : a.eval y = .int .i64 (i : Int) := hy a w hO hN
 have h1 : a.eval (.global 0) = .pointer (some ⟨0, 0, none⟩) := rfl
 have hr : (execOp a.eval { dst := some d, op := .indexAddr 176 (.global 0) y, type := ty, pos := pos, after := af, guard := gd }).run Tryz.prog w = .ok (.value (.pointer (some ⟨0, i, none⟩))) w := by
  simp only [execOp, h1, h2]
  simp [go_sem, hi]
  intro h
  exfalso
  omega
 exact iq (P := Tryz.prog) hr ⟨_, rfl, hG, Below.refl _ _, by rw [hT]; rfl, fun h => by rw [hal] at h; cases h⟩
theorem amc {Q : Exit → Act → World → Prop} {l : List Oper} {n : Nat} {T : Nat → World → Value → Prop} {G : World → Prop} {al : List Nat} {a0 : Act} {k d : Nat} {ty : TypeId} {pos : String} {af : Array Edge} {gd : Option (Nat × Bool)} {b o : Nat} {x : Operand} {s : ByteArray} (hb : ∀ W, G W → W.cell? ⟨b, o, none⟩ = some (.string s)) (hal : al.contains k = false) (hx : Rg.ib l n T a0 k x (Rg.au (.pointer (some ⟨b, o, none⟩)))) (hT : T k = Rg.au (.string s)) :
  Rg.Step Tryz.prog Q l n T G dz al a0 k { dst := some d, op := .load 9 x, type := ty, pos := pos, after := af, guard := gd } := by
 intro a w hG hO hN
 exact iq (P := Tryz.prog) (akk a.eval w (some d) x b o _ ty pos af gd (hb w hG) (hx a w hO hN)) ⟨_, rfl, hG, Below.refl _ _, by rw [hT]; rfl, fun h => by rw [hal] at h; cases h⟩
theorem Dx {Q : Exit → Act → World → Prop} {l : List Oper} {n : Nat} {T : Nat → World → Value → Prop} {G : World → Prop} {al : List Nat} {a0 : Act} {k d : Nat} {ty : TypeId} {pos : String} {af : Array Edge} {gd : Option (Nat × Bool)} {x y : Operand} {p q : List UInt8} (hal : al.contains k = false) (hx : Rg.ib l n T a0 k x (Rg.au (.string (tx p)))) (hy : Rg.ib l n T a0 k y (Rg.au (.string (tx q)))) (hs : p.length + q.length ≤ 1000000) (hT : T k = Rg.au (.string (tx (p ++ q)))) :
  Rg.Step Tryz.prog Q l n T G dz al a0 k { dst := some d, op := .binOp .add 9 x y 9, type := ty, pos := pos, after := af, guard := gd } := by
 intro a w hG hO hN
 have h1 : a.eval x = .string (tx p) := hx a w hO hN
 have h2 : a.eval y = .string (tx q) := hy a w hO hN
 have key := fun w => bhr hs w
 have hr : (execOp a.eval { dst := some d, op := .binOp .add 9 x y 9, type := ty, pos := pos, after := af, guard := gd }).run Tryz.prog w = .ok (.value (.string (tx (p ++ q)))) w := by
  simp only [execOp, h1, h2]
  simp [go_sem, key]
 exact iq (P := Tryz.prog) hr ⟨_, rfl, hG, Below.refl _ _, by rw [hT]; rfl, fun h => by rw [hal] at h; cases h⟩
theorem aui {ρ : Operand → Value} {w : World} {d : Option Tmp} {x : Operand} {s : ByteArray} {ty : TypeId} {pos : String} {af : Array Edge} {gd : Option (Nat × Bool)} (h : ρ x = .string s) :
  (execOp ρ { dst := d, op := .buildSlice 175 1 #[(0, x)], type := ty, pos := pos, after := af, guard := gd }).run Tryz.prog w = .ok (.value (.slice (some ⟨w.heap.size, 0, none⟩) 1 1)) (w.alloc (.cells #[.string s] 9)) := by
 simp only [execOp]
 simp [go_sem, h]
theorem bei {Q : Exit → Act → World → Prop} {l : List Oper} {n : Nat} {T : Nat → World → Value → Prop} {G : World → Prop} {al : List Nat} {a0 : Act} {k d : Nat} {ty : TypeId} {pos : String} {af : Array Edge} {gd : Option (Nat × Bool)} {x : Operand} {s : ByteArray} (hal : al.contains k = false) (Fx : ∀ W W', G W → dz W W' → G W') (hx : Rg.ib l n T a0 k x (Rg.au (.string s))) (hT : T k = SlT 9 1 [.v (.string s)]) :
  Rg.Step Tryz.prog Q l n T G dz al a0 k { dst := some d, op := .buildSlice 175 1 #[(0, x)], type := ty, pos := pos, after := af, guard := gd } := by
 intro a w hG hO hN
 have h1 : a.eval x = .string s := hx a w hO hN
 have hr : (execOp a.eval { dst := some d, op := .buildSlice 175 1 #[(0, x)], type := ty, pos := pos, after := af, guard := gd }).run Tryz.prog w = .ok (.value (.slice (some ⟨w.heap.size, 0, none⟩) 1 1)) (w.alloc (.cells #[.string s] 9)) := aui h1
 have hb : dz w (w.alloc (.cells #[.string s] 9)) := ig (Below.refl _ _) _
 exact iq (P := Tryz.prog) hr ⟨_, rfl, Fx _ _ hG hb, hb, by rw [hT]; exact ⟨w.heap.size, rfl, _, heap_alloc_new w _, fu.v (Zc _) rfl⟩, fun h => by rw [hal] at h; cases h⟩
theorem bfl {f : Nat → Int} {k : Nat} (hk : k < 7) (w : World) : (Instr.index 42 (.agg #[.int .i64 (f 0), .int .i64 (f 1), .int .i64 (f 2), .int .i64 (f 3), .int .i64 (f 4), .int .i64 (f 5), .int .i64 (f 6)]) (.int .i64 (k : Int))).run Tryz.prog w = .ok (.int .i64 (f k)) w := by
 have hc : k = 0 ∨ k = 1 ∨ k = 2 ∨ k = 3 ∨ k = 4 ∨ k = 5 ∨ k = 6 := by omega
 rcases hc with rfl | rfl | rfl | rfl | rfl | rfl | rfl <;> simp [go_sem, Instr.index]
end Sb

namespace Sb
theorem agf {W : World} {base : Nat} {v : Value} {ps : List (List UInt8)} (h : Jp W base v ps) (hn : ps.length ≤ 1000) (hl : (Lib.join ps [46]).length ≤ 100000) :
  Calls Tryz.prog 169 #[v, .string ⟨#[46]⟩] W fun e w' => e = .returned (.string (tx (Lib.join ps [46]))) ∧ Below W.heap.size W w' := by
 have h0 := h
 obtain ⟨h1, ⟨rfl, h2⟩ | ⟨g, cap, cur, rfl, h3, h4, h5, h6, h7, h8⟩⟩ := h
 ·
  obtain rfl := List.length_eq_zero_iff.1 h2
  refine (Tryz.strings_Join_none none 0 ⟨#[46]⟩ W).mono ?_
  rintro e w' ⟨rfl, rfl⟩
  exact ⟨rfl, Below.refl _ _⟩
 ·
  have hm : (ps.map tx).map (fun b => b.data.toList) = ps := by
   rw [List.map_map]
   exact List.map_id' ps
  have hc := World.ownsRow.cells (g := g) h0 rfl
  have hj := Tryz.strings_Join g 0 cap (ps.map tx) ⟨#[46]⟩ W (fun j x hx => by
   rw [List.getElem?_map] at hx
   have h9 : (ps.map fun l => Value.string (tx l))[j]? = some (.string x) := by
    rw [List.getElem?_map]
    cases hq : ps[j]? with
    | none => rw [hq] at hx; cases hx
    | some q => rw [hq] at hx; injection hx with hx; rw [← hx]; rfl
   have h10 := hc j _ h9
   rw [show (⟨g, 0, none⟩ : Addr).add j = ⟨g, 0 + j, none⟩ by (simp [Addr.add]; try omega)] at h10
   exact h10) (lt_of_block h4) (by rw [List.length_map]; omega) (by rw [List.length_map]; exact h5) (by rw [hm]; exact Nat.le_trans hl om)
  rw [List.length_map, hm] at hj
  exact hj
theorem aet {f : Nat → Int} (hf : xw f) (sg : Int) (hsg : sg = 1 ∨ sg = -1) (w : World) (hB : Iy w) :
  Calls Tryz.prog 112 #[.agg #[.int .i64 (f 0), .int .i64 (f 1), .int .i64 (f 2), .int .i64 (f 3), .int .i64 (f 4), .int .i64 (f 5), .int .i64 (f 6)], .int .i64 sg] w
   fun e w' => e = .returned (.string (tx (ry (fun j => f j * sg)))) ∧ Below w.heap.size w w' := by
 obtain ⟨z, hz⟩ : ∃ z, z = fun j => f j * sg := ⟨_, rfl⟩
 have hzb : ∀ j, j < 7 → wrap64 (f j * sg) = z j ∧ -9 ≤ z j ∧ z j ≤ 9 := fun j hj => by
  have h1 := hf j hj
  rw [hz]
  show wrap64 (f j * sg) = f j * sg ∧ -9 ≤ f j * sg ∧ f j * sg ≤ 9
  rcases hsg with rfl | rfl
  ·
   exact ⟨IntWalk.wrap64_in _ om, by omega, by omega⟩
  ·
   exact ⟨IntWalk.wrap64_in _ om, by omega, by omega⟩
 rw [← hz]
 have HZ := hide hzb
 have HB := hide hB
 obtain ⟨i0, hi0, hz0, hz1, hz2⟩ := info_parts bbu
 clear hz hzb hf hsg hB
 go_enter Tryz.func112, Tryz.ntmps112
 go_wp2_with fail
 go_loopw [5, 9] (fun lv kv wr => ∃ k : Nat, k ≤ 7 ∧ kv = .int .i64 ((k : Nat) : Int) ∧ Jp wr w.heap.size lv (qy z k) ∧ Below w.heap.size w wr) (fun _ kv _ => 7 - (intOf kv).toNat)
 case atStart => exact ⟨0, Nat.zero_le _, rfl, Jp.nil _ _, ig (Below.refl _ _) _⟩
 case round =>
  obtain ⟨k, hk, rfl, hown, hb0⟩ := hrel
  by_cases hlt : k < 7
  ·
   have hix := fun W => bfl (f := f) hlt W
   have hc := ((aa HB).below hb0).1 k hlt
   obtain ⟨e1, h1, h2⟩ := (aa HZ) k hlt
   have e2 : IntKind.i64.wrap (f k * sg) = z k := (IntWalk.i64_left _).trans e1
   have hpl := abe z k
   obtain ⟨p, hp⟩ : ∃ p, p = z k := ⟨_, rfl⟩
   rw [← hp] at e1 e2 h1 h2
   have HP := hide hp
   clear hp
   by_cases g1 : p = 1
   ·
    subst g1
    have ht := abd (aa HP).symm
    have Iu := hide ht
    clear ht
    go_wp2_with (first | (at_builtin; go_loud (refine wpList_append_own _ rfl _ _ 175 rfl w.heap.size 9 i0 (.string ⟨#[]⟩) 1 16 Tryz.underlying175 hi0 hz0 hz1 hz2 rfl de _ _ _ rfl (hown.alloc _) ⟨_, 0, none⟩ 1 1 [.string (tx (bn k))] rfl rfl (bbr (by simp only [World.size_alloc])) ake (by unfold maxLen; omega) om (by simp; have := hb0.size; omega) ?_; intro v' w1 hown1 hgrow1 _)) | fail)
    have hbX : Below wr.heap.size wr (wr.alloc (.cells #[.string (tx (bn k))] 9)) := ig (Below.refl _ _) _
    have hb1 := ay hb0 hbX
    refine ⟨⟨k + 1, by omega, by push_cast; rfl, ?_, hb1.grown hgrow1 hb1.size hown.ge⟩, by simp [intOf]; omega⟩
    rw [aa Iu]
    unfold Jp
    rw [List.map_append, show (qy z k ++ [bn k]).length = (qy z k).length + 1 from List.length_append]
    exact hown1
   ·
    by_cases g2 : 1 < p
    ·
     have Iu : Hid (qy z (k + 1) = qy z k ++ [bn k ++ Lib.itoa p]) := hide (by have := Xf (z := z) (k := k) (by rw [← aa HP]; exact g2); rwa [← aa HP] at this)
     have HI := hide (fun W => agh (z := p) om om W)
     have bub : Jp wr.drew w.heap.size _ (qy z k) := hown.below (dz.drew wr)
     have hg0 := ((aa HB).below hb0).2
     have hsm : (bn k).length + (Lib.itoa p).length ≤ 1000000 := by have h3 := Mw k; rw [Rj om om]; simp; omega
     go_upto_region 9 with fail
     refine Rg.region 8 40 (Rg.pick [Rg.au u5, Rg.au (.int .i64 (k : Int)), Rg.au (.pointer (some ⟨0, k, none⟩)), Rg.au (.string (tx (bn k))), Rg.au (.int .i64 p), Rg.au (.string (tx (Lib.itoa p))), Rg.au (.string (tx (bn k ++ Lib.itoa p))), SlT 9 1 [.v (.string (tx (bn k ++ Lib.itoa p)))]]) (fun W => dz wr W) dz [] kr kr rfl (Rg.ek.pick ⟨Rg.ae _, Rg.ae _, Rg.ae _, Rg.ae _, Rg.ae _, Rg.ae _, Rg.ae _, bal _ _ _, trivial⟩) (dz.drew wr)
      (ah (df rfl aF)
      (ah (df rfl aF)
      (ah (beg rfl (aT 1) hlt rfl)
      (ah (amc (fun W h => (h.cell (p := ⟨0, k, none⟩) hg0).trans hc) rfl (aT 2) rfl)
      (ah (df rfl aF)
      (ah (Bp Tryz.func83 kr rfl (fun _ _ h hb => ay h hb) (aT 4) (fun W v0 hG h0 => by cases h0; exact ((aa HI) W).mono (fun e w' h => ⟨_, h.1, h.2, rfl⟩)))
      (ah (Dx rfl (aT 3) (aT 5) hsm rfl)
      (ah (bei rfl (fun _ _ h hb => ay h hb) (aT 6) rfl)
      Rg.bg)))))))) ?_
     intro v1 V1 hG1 hv1 hne1
     simp only [Rg.puts, Act.put, tA]
     have e0 : v1 0 = u5 := hv1 0 de
     obtain ⟨b, e7, cs, hbx, hbl⟩ := (show SlT 9 1 [.v (.string (tx (bn k ++ Lib.itoa p)))] V1 (v1 7) from hv1 7 de)
     obtain ⟨r, rfl, _, hr0⟩ := fu.Ci hbl
     cases hr0
     simp only [e0, e7]
     refine wpList_append_own V1 rfl _ _ 175 rfl w.heap.size 9 i0 (.string ⟨#[]⟩) 1 16 Tryz.underlying175 hi0 hz0 hz1 hz2 rfl de _ _ _ rfl (hown.below hG1) ⟨b, 0, none⟩ 1 1 [.string (tx (bn k ++ Lib.itoa p))] rfl rfl (fun j u hj => by
      have h9 := ag hbx j
      rw [show (⟨b, 0, none⟩ : Addr).add j = ⟨b, j, none⟩ by (simp [Addr.add]; try omega), h9]
      simpa using hj) ake (by unfold maxLen; omega) om (by have := hb0.size; have := hG1.size; omega) ?_
     intro v' w1 hown1 hgrow1 _
     refine aoz ?_
     clear hv1 hne1 e0 e7
     go_wp2_with fail
     refine ⟨⟨k + 1, by omega, by push_cast; rfl, ?_, (ay hb0 hG1).grown hgrow1 (ay hb0 hG1).size hown.ge⟩, by simp [intOf]; omega⟩
     rw [aa Iu]
     unfold Jp
     rw [List.map_append, show (qy z k ++ [bn k ++ Lib.itoa p]).length = (qy z k).length + 1 from List.length_append]
     exact hown1
    ·
     have Iu := hide (afh (z := z) (k := k) (by rw [← aa HP]; omega))
     go_wp2_with fail
     refine ⟨⟨k + 1, by omega, by push_cast; rfl, ?_, hb0⟩, by simp [intOf]; omega⟩
     rw [aa Iu]
     exact hown
  ·
   obtain rfl : k = 7 := by omega
   clear hlt
   go_wp2_with fail
   have hj := agf hown (by have := abe z 7; omega) (by
    have := Mi (z := z) 7 (fun j hj => ((aa HZ) j hj).2.2)
    omega)
   refine hj.mono ?_
   rintro e W2 ⟨rfl, hb2⟩
   try dsimp only
   go_wp2_with fail
   go_ret
   exact ⟨rfl, ay hb0 hb2⟩
end Sb

def Nb (w : World) : Prop := Lib.TabBelow Tryz.prog w.heap.size w "internal/strconv.uint64pow10" .u64 Lib.pow10Tab
theorem Nb.below {w W : World} (h : Nb w) (hb : Below w.heap.size w W) : Nb W := fun w' hb' => h w' (ay hb hb')
theorem Xp (n : Int) (h0 : -9223372036854775808 ≤ n) (h1 : n ≤ 9223372036854775807) (w : World) (h10 : Nb w) :
  Calls Tryz.prog 83 #[.int .i64 n] w fun e w' => e = .returned (.string ⟨(Lib.itoa n).toArray⟩) ∧ Below w.heap.size w w' := by
 refine (Tryz.strconv_Itoa n h0 h1 w h10.here).mono ?_
 rintro e w' ⟨he, k, os, rfl⟩
 exact ⟨he, Lib.below_grow _ w (Nat.le_refl _) k os⟩
theorem Oe {y : ByteArray} {l : List UInt8} (h : y.data.toList = l) : y = ⟨l.toArray⟩ := by rw [← h, Il]
theorem Jk {n : Int} (h1 : -1000000000000 ≤ n) (h2 : n ≤ 1000000000000) : (Lib.itoa n).length ≤ 14 := by
 have := Wd.aab 13 n.natAbs om (Nat.lt_of_le_of_lt (show n.natAbs ≤ 1000000000000 by omega) de)
 unfold Lib.itoa
 split
 ·
  rw [List.length_cons]; omega
 ·
  rw [show n.toNat = n.natAbs by omega]; omega
theorem aqo (n : Int) (w : World) (hT : og w) (h10 : Nb w) (ok : Wd.qm n 1) :
  Calls Tryz.prog 22 #[(Value.agg #[.int .i64 n, .int .i64 1])] w fun e w' => e = .returned (.tuple #[.string ⟨(Wd.nk n 1).toArray⟩, .int .i64 0]) ∧ Below w.heap.size w w' := by
 have HV := hide (aat n 1)
 rw [show Sq n 1 = 0 from if_pos ok] at HV
 have HT := hide hT
 have HI := hide (fun W (hW : Nb W) => Xp n (by have := ok.2.2.1; omega) (by have := ok.2.2.2.1; omega) W hW)
 have Nf := hide h10
 have HE := Lib.hid (show Lib.itoa n = Wd.nk n 1 from (if_pos rfl).symm)
 clear hT h10 ok
 go_enter Tryz.func22, Tryz.ntmps22
 go_wp2_with fail
 obtain ⟨nx, hsz, hw0⟩ := He w (.cells #[.int .i64 n, .int .i64 1] 23)
 generalize w.alloc (.cells #[.int .i64 n, .int .i64 1] 23) = W0 at *
 clear hsz
 refine ((aa HV) _ ((aa HT).below hw0)).mono ?_
 rintro e W1 ⟨rfl, hb⟩
 replace nx := (hb.block _ (lt_of_block nx)).trans nx
 replace hw0 := ay hw0 hb
 have k0 : W1.cell? ⟨w.heap.size, 0, none⟩ = some (.int .i64 n) := ag nx 0
 have k1 : W1.cell? ⟨w.heap.size, 1, none⟩ = some (.int .i64 1) := ag nx 1
 clear hb nx
 go_wp2_with fail
 refine ((aa HI) _ ((aa Nf).below hw0)).mono ?_
 rintro e W2 ⟨rfl, hb⟩
 have jq := ay hw0 hb
 clear hb
 go_wp2_with fail
 all_goals first | go_ret2 | skip
 exact ⟨by rw [HE.out]; rfl, jq⟩
theorem amn (n d : Int) (w : World) (hT : og w) (h10 : Nb w) (ok : Wd.qm n d) (hd : ¬ d = 1) :
  Calls Tryz.prog 22 #[(Value.agg #[.int .i64 n, .int .i64 d])] w fun e w' => e = .returned (.tuple #[.string ⟨(Wd.nk n d).toArray⟩, .int .i64 0]) ∧ Below w.heap.size w w' := by
 obtain ⟨o1, o2, o3, o4, _⟩ := id ok
 have HV := hide (aat n d)
 rw [show Sq n d = 0 from if_pos ok] at HV
 have HT := hide hT
 have hI1 := (fun W (hW : Nb W) => Xp n om om W hW)
 have hI2 := (fun W (hW : Nb W) => Xp d om om W hW)
 have g1 := Jk o3 o4
 have g2 := Jk (n := d) om o2
 obtain ⟨a, ha⟩ : ∃ a : ByteArray, a = ⟨(Lib.itoa n).toArray⟩ := ⟨_, rfl⟩
 obtain ⟨b, hb⟩ : ∃ b : ByteArray, b = ⟨(Lib.itoa d).toArray⟩ := ⟨_, rfl⟩
 have la : a.data.toList = Lib.itoa n := by rw [ha]
 have lb : b.data.toList = Lib.itoa d := by rw [hb]
 have sa : a.size ≤ 14 := by rw [← ou, la]; exact g1
 have sb : b.size ≤ 14 := by rw [← ou, lb]; exact g2
 rw [← ha] at hI1
 rw [← hb] at hI2
 have s47 : (⟨#[47]⟩ : ByteArray).size = 1 := rfl
 have anq : ∀ W, (Op.stringOp .add a ⟨#[47]⟩).run Tryz.prog W = .ok (.string (a ++ ⟨#[47]⟩)) W := fun W => run_string_add_sum W a _ (by rw [s47]; omega)
 have awc : ¬ (a.size + (⟨#[47]⟩ : ByteArray).size > 9223372036854775807) := by rw [s47]; omega
 have bfx : ¬ (a.size + 1 > 9223372036854775807) := by omega
 have sy : (a ++ ⟨#[47]⟩ : ByteArray).size = a.size + 1 := by rw [Qr]; rfl
 have ly : (a ++ ⟨#[47]⟩ : ByteArray).data.toList = Lib.itoa n ++ [47] := by rw [Kz, la]
 obtain ⟨y, hy⟩ : ∃ y, a ++ ⟨#[47]⟩ = y := ⟨_, rfl⟩
 rw [hy] at anq sy ly
 have anp : ∀ W, (Op.stringOp .add y b).run Tryz.prog W = .ok (.string (y ++ b)) W := fun W => run_string_add_sum W y b om
 have bny : ¬ (y.size + b.size > 9223372036854775807) := by omega
 have lz : (y ++ b).data.toList = Wd.nk n d := by
  rw [Kz, ly, lb]; unfold Wd.nk; rw [if_neg hd, List.append_assoc]; rfl
 obtain ⟨z, hz⟩ : ∃ z, y ++ b = z := ⟨_, rfl⟩
 rw [hz] at anp lz
 have HZ := Lib.hid (Oe lz)
 have e1 : (d == 1) = false := beq_eq_false_iff_ne.2 hd
 have HI1 := hide hI1; have HI2 := hide hI2
 have Nf := hide h10
 clear hT h10 ok o1 o2 o3 o4 g1 g2 ha hb la lb sa sb sy ly lz hy hz hI1 hI2 s47
 go_enter Tryz.func22, Tryz.ntmps22
 go_wp2_with fail
 obtain ⟨nx, hsz, hw0⟩ := He w (.cells #[.int .i64 n, .int .i64 d] 23)
 generalize w.alloc (.cells #[.int .i64 n, .int .i64 d] 23) = W0 at *
 clear hsz
 refine ((aa HV) _ ((aa HT).below hw0)).mono ?_
 rintro e W1 ⟨rfl, hb⟩
 replace nx := (hb.block _ (lt_of_block nx)).trans nx
 replace hw0 := ay hw0 hb
 have k0 : W1.cell? ⟨w.heap.size, 0, none⟩ = some (.int .i64 n) := ag nx 0
 have k1 : W1.cell? ⟨w.heap.size, 1, none⟩ = some (.int .i64 d) := ag nx 1
 have qx := lt_of_block nx
 clear hb nx
 have KEEP := hide (show ∀ X, Below W1.heap.size W1 X → X.cell? ⟨w.heap.size, 0, none⟩ = some (.int .i64 n) ∧ X.cell? ⟨w.heap.size, 1, none⟩ = some (.int .i64 d) from fun X hB => ⟨gy hB qx k0, gy hB qx k1⟩)
 go_upto_region 6 with fail
 go_region_held3 (fun w' => w'.cell? ⟨w.heap.size, 0, none⟩ = some (.int .i64 n) ∧ w'.cell? ⟨w.heap.size, 1, none⟩ = some (.int .i64 d)) (exact (aa KEEP) _ bel) (first | (go_at_call_of 83 (Value.int .i64 n); refine ((aa HI1) _ ((aa Nf).below (ay hw0 bel))).mono ?_; rintro e w' ⟨rfl, hb1⟩; have hbw := bz (w := W1) bel hb1; have hsw := hbw.size; obtain ⟨hc, hfz⟩ := fe hbw) | (go_at_call_of 83 (Value.int .i64 d); refine ((aa HI2) _ ((aa Nf).below (ay hw0 bel))).mono ?_; rintro e w' ⟨rfl, hb2⟩; have hbw := bz (w := W1) bel hb2; have hsw := hbw.size; obtain ⟨hc, hfz⟩ := fe hbw))
 all_goals
  have jq := ay hw0 hbw
  clear hbw hc hfz
  go_wp2_with fail
  first | go_ret2 | skip
  exact ⟨by rw [HZ.out]; rfl, jq⟩

namespace Sb
theorem ame {Q : Exit → Act → World → Prop} {l : List Oper} {n : Nat} {T : Nat → World → Value → Prop} {G : World → Prop} {al : List Nat} {a0 : Act} {k d : Nat} {ty : TypeId} {pos : String} {af : Array Edge} {gd : Option (Nat × Bool)} {x y : Operand} {p q : List UInt8} {b : Bool} (hal : al.contains k = false) (hx : Rg.ib l n T a0 k x (Rg.au (.string (tx p)))) (hy : Rg.ib l n T a0 k y (Rg.au (.string (tx q)))) (hb : (decide (p = q)) = b) (hT : T k = Rg.au (.bool b)) :
  Rg.Step Tryz.prog Q l n T G dz al a0 k { dst := some d, op := .binOp .eql 9 x y 9, type := ty, pos := pos, after := af, guard := gd } := by
 intro a w hG hO hN
 have h1 : a.eval x = .string (tx p) := hx a w hO hN
 have h2 : a.eval y = .string (tx q) := hy a w hO hN
 have e : ((tx p).toList == (tx q).toList) = decide (p = q) := by
  rw [Gv, Gv]
  by_cases h : p = q
  ·
   rw [decide_eq_true h, h]; exact beq_self_eq_true _
  ·
   rw [decide_eq_false h]; exact beq_eq_false_iff_ne.2 h
 have hr : (execOp a.eval { dst := some d, op := .binOp .eql 9 x y 9, type := ty, pos := pos, after := af, guard := gd }).run Tryz.prog w = .ok (.value (.bool b)) w := by
  rw [← hb]
  simp only [execOp, h1, h2]
  simp [go_sem, e]
 exact iq (P := Tryz.prog) hr ⟨_, rfl, hG, Below.refl _ _, by rw [hT]; rfl, fun h => by rw [hal] at h; cases h⟩
theorem Oz {Q : Exit → Act → World → Prop} {l : List Oper} {n : Nat} {T : Nat → World → Value → Prop} {G : World → Prop} {al : List Nat} {a0 : Act} {k d : Nat} {ty : TypeId} {pos : String} {af : Array Edge} {gd : Option (Nat × Bool)} {x y : Operand} {p q : List UInt8} {b : Bool} (hal : al.contains k = false) (hx : Rg.ib l n T a0 k x (Rg.au (.string (tx p)))) (hy : Rg.ib l n T a0 k y (Rg.au (.string (tx q)))) (hb : (!decide (p = q)) = b) (hT : T k = Rg.au (.bool b)) :
  Rg.Step Tryz.prog Q l n T G dz al a0 k { dst := some d, op := .binOp .neq 9 x y 9, type := ty, pos := pos, after := af, guard := gd } := by
 intro a w hG hO hN
 have h1 : a.eval x = .string (tx p) := hx a w hO hN
 have h2 : a.eval y = .string (tx q) := hy a w hO hN
 have e : ((tx p).toList == (tx q).toList) = decide (p = q) := by
  rw [Gv, Gv]
  by_cases h : p = q
  ·
   rw [decide_eq_true h, h]; exact beq_self_eq_true _
  ·
   rw [decide_eq_false h]; exact beq_eq_false_iff_ne.2 h
 have hr : (execOp a.eval { dst := some d, op := .binOp .neq 9 x y 9, type := ty, pos := pos, after := af, guard := gd }).run Tryz.prog w = .ok (.value (.bool b)) w := by
  rw [← hb]
  simp only [execOp, h1, h2]
  simp [go_sem, e, bne]
 exact iq (P := Tryz.prog) hr ⟨_, rfl, hG, Below.refl _ _, by rw [hT]; rfl, fun h => by rw [hal] at h; cases h⟩
theorem Te {F : Nat} {vs : Array Value} {W : World} {v : Value} (h : Calls Tryz.prog F vs W fun e w' => e = .returned v ∧ Below W.heap.size W w') : Calls Tryz.prog F vs W (ic (Rg.au v) W) := h.mono fun e w' ⟨h1, h2⟩ => ⟨v, h1, h2, rfl⟩
theorem bco {n d : Int} {W : World} {v : Value} (hT : og W) (h10 : Nb W) (ok : Wd.qm n d) (h : ax [iv n, iv d] W v) : Calls Tryz.prog 22 #[v] W (ic (jw [Rg.au (.string (tx (Wd.nk n d))), Rg.au (.int .i64 0)]) W) := by
 have hv := Eo h
 subst hv
 have key : Calls Tryz.prog 22 #[(Value.agg #[.int .i64 n, .int .i64 d])] W fun e w' => e = .returned (.tuple #[.string ⟨(Wd.nk n d).toArray⟩, .int .i64 0]) ∧ Below W.heap.size W w' := by
  by_cases hd : d = 1
  ·
   subst hd; exact aqo n W hT h10 ok
  ·
   exact amn n d W hT h10 ok hd
 refine key.mono ?_
 rintro e w' ⟨rfl, hb⟩
 exact ⟨_, rfl, hb, [_, _], rfl, _, _, rfl, rfl, _, _, rfl, rfl, rfl⟩
theorem Ux {n d : Int} (ok : Wd.qm n d) : (Wd.nk n d).length ≤ 40 := by
 obtain ⟨o1, o2, o3, o4, _⟩ := ok
 have h1 := Jk o3 o4
 have h2 := Jk (n := d) om o2
 unfold Wd.nk
 split
 ·
  omega
 ·
  simp only [List.length_append, List.length_cons, List.length_nil]; omega
theorem aiz {f : Nat → Int} {n d : Int} (w : World) (hT : og w) (g0 : ¬ Nu f n d) (u0 : Value) (h0 : ax [.k (eK f), iv n, iv d] w u0) :
  Calls Tryz.prog 47 #[u0] w (ic (jw [Rg.au (.string ⟨#[]⟩), Rg.au (.int .i64 1)]) w) := by
 have HT := hide hT
 clear hT
 have hu0 := Aw h0
 subst hu0
 go_enter Tryz.func47, Tryz.ntmps47
 go_upto_region 1 with fail
 have hO := (Own.push (T := 44) (ls := [.k (eK f), iv n, iv d]) (Own.nil w) (fu.e (fu.v (lh _) (fu.v (lh _) rfl))) (w.heap.size) rfl)
 generalize w.alloc (.cells #[.int .i64 (f 0), .int .i64 (f 1), .int .i64 (f 2), .int .i64 (f 3), .int .i64 (f 4), .int .i64 (f 5), .int .i64 (f 6), .int .i64 n, .int .i64 d] 44) = W0 at *
 have HO := hide hO
 clear hO
 have k1 : Sn f n d = 1 := if_neg g0
 go_upto_region 1 with fail
 refine Rg.di 3 46 (Rg.pick [ax [.k (eK f), iv n, iv d], Rg.au (.int .i64 1), Rg.au (.int .i64 1)]) (az w _ W0) dz [] kr rfl (Rg.ek.pick ⟨bf _, Rg.ae _, Rg.ae _, trivial⟩) (az.begin (aa HO))
  (ah (jc Bt me0 aF [] [.k (eK f), iv n, iv d] [])
  (ah (sc1 Tryz.func30 (aT 0) (fun W v0 hG h0 => k1 ▸ ash W ((aa HT).below hG.bel) _ h0))
  (ah (ik rfl (aT 1))
  Rg.bg))) ?_
 intro v1 V1 hG1 hv1 hne1
 simp only [Rg.puts, Act.put, tA]
 have e1 : v1 1 = .int .i64 1 := hv1 1 de
 have e2 : v1 2 = .int .i64 1 := hv1 2 de
 simp only [e1, e2]
 have hO := hG1.1
 clear HO
 have HO := hide hO
 clear hO hG1 hv1 hne1
 try clear e1 e2
 go_upto_region 2 with fail
 refine Rg.di 2 46 (Rg.pick [Rg.au (.int .i64 1), Rg.au (.bool true)]) (az w _ V1) dz [] kr rfl (Rg.ek.pick ⟨Rg.ae _, Rg.ae _, trivial⟩) (az.begin (aa HO))
  (ah (df rfl aF)
  (ah (Ba rfl (aT 0) (Rg.je _) rfl rfl)
  Rg.bg)) ?_
 intro v2 V2 hG2 hv2 hne2
 simp only [Rg.puts, Act.put, tA]
 have e1 : v2 1 = .bool true := hv2 1 de
 simp only [e1]
 have hO := hG2.1
 clear HO
 have HO := hide hO
 clear hO hG2 hv2 hne2
 try clear e1
 go_upto_region 3 with fail
 refine Rg.di 3 46 (Rg.pick [Rg.au (.int .i64 1), Rg.au (.string ⟨#[]⟩), Rg.au (.int .i64 1)]) (az w _ V2) dz [] kr rfl (Rg.ek.pick ⟨Rg.ae _, Rg.ae _, Rg.ae _, trivial⟩) (az.begin (aa HO))
  (ah (df rfl aF)
  (ah (ik rfl (Rg.je _))
  (ah (ik rfl (aT 0))
  Rg.bg))) ?_
 intro v3 V3 hG3 hv3 mh
 simp only [Rg.puts, Act.put, tA]
 have e0 : v3 0 = .int .i64 1 := hv3 0 de
 have e1 : v3 1 = .string ⟨#[]⟩ := hv3 1 de
 have e2 : v3 2 = .int .i64 1 := hv3 2 de
 simp only [e0, e1, e2]
 have hO := hG3.1
 clear HO
 have HO := hide hO
 clear hO hG3 hv3 mh
 try clear e0 e1 e2
 go_wp2_with fail
 exact Uh Tryz.results47 rfl rfl (aa HO).bel rfl
theorem aff {f : Nat → Int} {n d : Int} {A B P M R : List UInt8} {b1 b2 : Bool} (w : World) (hT : og w) (h10 : Nb w) (hbn : Iy w) (ok : Nu f n d)
  (hs1 : ∀ W, Iy W → Calls Tryz.prog 112 #[aV f, .int .i64 1] W (ic (Rg.au (.string (tx A))) W)) (hs2 : ∀ W, Iy W → Calls Tryz.prog 112 #[aV f, .int .i64 (-1)] W (ic (Rg.au (.string (tx B))) W))
  (hb1 : decide (A = []) = b1) (hb2 : (!decide (B = [])) = b2) (hp : P = if A = [] then [49] else A) (hm : M = if B = [] then P else P ++ 47 :: B) (hr : R = if n = 1 ∧ d = 1 then M else Wd.nk n d ++ [32] ++ M) (hl : A.length ≤ 100 ∧ B.length ≤ 100 ∧ P.length ≤ 100 ∧ M.length ≤ 300 ∧ (Wd.nk n d).length ≤ 100) (u0 : Value) (h0 : ax [.k (eK f), iv n, iv d] w u0) :
  Calls Tryz.prog 47 #[u0] w (ic (jw [Rg.au (.string (tx R)), Rg.au (.int .i64 0)]) w) := by
 have HT := hide hT
 have Nf := hide h10
 have HBN := hide hbn
 have Dz := hide ok.2.1
 have g0 := ok
 have nz := hide hs1
 have HS2 := hide hs2
 have HB1 := hide hb1
 have HB2 := hide hb2
 have HP := hide hp
 have HM := hide hm
 have HR := hide hr
 have HL := hide hl
 clear hT h10 hbn ok hs1 hs2 hb1 hb2 hp hm hr hl
 have hu0 := Aw h0
 subst hu0
 go_enter Tryz.func47, Tryz.ntmps47
 go_upto_region 1 with fail
 have hO := (Own.push (T := 44) (ls := [.k (eK f), iv n, iv d]) (Own.nil w) (fu.e (fu.v (lh _) (fu.v (lh _) rfl))) (w.heap.size) rfl)
 generalize w.alloc (.cells #[.int .i64 (f 0), .int .i64 (f 1), .int .i64 (f 2), .int .i64 (f 3), .int .i64 (f 4), .int .i64 (f 5), .int .i64 (f 6), .int .i64 n, .int .i64 d] 44) = W0 at *
 have HO := hide hO
 clear hO
 have k1 : Sn f n d = 0 := if_pos g0
 go_upto_region 1 with fail
 refine Rg.di 3 46 (Rg.pick [ax [.k (eK f), iv n, iv d], Rg.au (.int .i64 0), Rg.au (.int .i64 0)]) (az w _ W0) dz [] kr rfl (Rg.ek.pick ⟨bf _, Rg.ae _, Rg.ae _, trivial⟩) (az.begin (aa HO))
  (ah (jc Bt me0 aF [] [.k (eK f), iv n, iv d] [])
  (ah (sc1 Tryz.func30 (aT 0) (fun W v0 hG h0 => k1 ▸ ash W ((aa HT).below hG.bel) _ h0))
  (ah (ik rfl (aT 1))
  Rg.bg))) ?_
 intro v1 V1 hG1 hv1 hne1
 simp only [Rg.puts, Act.put, tA]
 have e1 : v1 1 = .int .i64 0 := hv1 1 de
 have e2 : v1 2 = .int .i64 0 := hv1 2 de
 simp only [e1, e2]
 have hO := hG1.1
 clear HO
 have HO := hide hO
 clear hO hG1 hv1 hne1
 try clear e1 e2
 go_upto_region 2 with fail
 refine Rg.di 2 46 (Rg.pick [Rg.au (.int .i64 0), Rg.au (.bool false)]) (az w _ V1) dz [] kr rfl (Rg.ek.pick ⟨Rg.ae _, Rg.ae _, trivial⟩) (az.begin (aa HO))
  (ah (df rfl aF)
  (ah (Ba rfl (aT 0) (Rg.je _) rfl rfl)
  Rg.bg)) ?_
 intro v2 V2 hG2 hv2 hne2
 simp only [Rg.puts, Act.put, tA]
 have e1 : v2 1 = .bool false := hv2 1 de
 simp only [e1]
 have hO := hG2.1
 clear HO
 have HO := hide hO
 clear hO hG2 hv2 hne2
 try clear e1
 clear k1
 go_upto_region 4 with fail
 refine Rg.di 4 46 (Rg.pick [Rg.au (.pointer (some ⟨w.heap.size, 0, none⟩)), Rg.au (aV f), Rg.au (.string (tx A)), Rg.au (.string (tx A))]) (az w _ V2) dz [] kr rfl (Rg.ek.pick ⟨Rg.ae _, Rg.ae _, Rg.ae _, Rg.ae _, trivial⟩) (az.begin (aa HO))
  (ah (vw (b := w.heap.size) (off := 0) rfl aF rfl rfl)
  (ah (amd (f := f) Bu me0 rfl (aT 0) rfl)
  (ah (sc2 Tryz.func112 (aT 1) (Rg.je _) (fun W v0 v1 hG h0 h1 => by cases h0; cases h1; exact (aa nz) W ((aa HBN).below hG.bel)))
  (ah (ik rfl (aT 2))
  Rg.bg)))) ?_
 intro v3 V3 hG3 hv3 mh
 simp only [Rg.puts, Act.put, tA]
 have e2 : v3 2 = .string (tx A) := hv3 2 de
 have e3 : v3 3 = .string (tx A) := hv3 3 de
 simp only [e2, e3]
 have hO := hG3.1
 clear HO
 have HO := hide hO
 clear hO hG3 hv3 mh
 try clear e2 e3
 go_upto_region 5 with fail
 refine Rg.di 2 46 (Rg.pick [Rg.au (.string (tx A)), Rg.au (.bool b1)]) (az w _ V3) dz [] kr rfl (Rg.ek.pick ⟨Rg.ae _, Rg.ae _, trivial⟩) (az.begin (aa HO))
  (ah (df rfl aF)
  (ah (ame (q := []) rfl (aT 0) (Rg.je _) (aa HB1) rfl)
  Rg.bg)) ?_
 intro v4 V4 hG4 hv4 tu
 simp only [Rg.puts, Act.put, tA]
 have e1 : v4 1 = .bool b1 := hv4 1 de
 simp only [e1]
 have hO := hG4.1
 clear HO
 have HO := hide hO
 clear hO hG4 hv4 tu
 try clear e1
 go_upto_if 18 with (fail)
 go_cut [5] (fun s5 wx => s5 = .string (tx P) ∧ Own w [(w.heap.size, 44, [.k (eK f), iv n, iv d])] wx)
 case first =>
  cases b1 with
  | true =>
   obtain rfl : P = [49] := by rw [aa HP, if_pos (of_decide_eq_true (aa HB1))]
   go_wp2_with fail
   go_meet
   exact ⟨rfl, aa HO⟩
  | false =>
   obtain rfl : P = A := by rw [aa HP, if_neg (of_decide_eq_false (aa HB1))]
   go_wp2_with fail
   go_meet
   exact ⟨rfl, aa HO⟩
 case rest =>
  revert hcut
  generalize wc = C5
  intro hcut
  obtain ⟨rfl, Ny⟩ := hcut
  clear HO
  have HO := hide Ny
  clear Ny
  go_upto_region 7 with fail
  refine Rg.di 4 46 (Rg.pick [Rg.au (.pointer (some ⟨w.heap.size, 0, none⟩)), Rg.au (aV f), Rg.au (.string (tx B)), Rg.au (.string (tx B))]) (az w _ C5) dz [] kr rfl (Rg.ek.pick ⟨Rg.ae _, Rg.ae _, Rg.ae _, Rg.ae _, trivial⟩) (az.begin (aa HO))
   (ah (vw (b := w.heap.size) (off := 0) rfl aF rfl rfl)
   (ah (amd (f := f) Bu me0 rfl (aT 0) rfl)
   (ah (sc2 Tryz.func112 (aT 1) (Rg.je _) (fun W v0 v1 hG h0 h1 => by cases h0; cases h1; exact (aa HS2) W ((aa HBN).below hG.bel)))
   (ah (ik rfl (aT 2))
   Rg.bg)))) ?_
  intro v6 V6 Ch hv6 Gp
  simp only [Rg.puts, Act.put, tA]
  have e2 : v6 2 = .string (tx B) := hv6 2 de
  have e3 : v6 3 = .string (tx B) := hv6 3 de
  simp only [e2, e3]
  have hO := Ch.1
  clear HO
  have HO := hide hO
  clear hO Ch hv6 Gp
  try clear e2 e3
  go_upto_region 8 with fail
  refine Rg.di 2 46 (Rg.pick [Rg.au (.string (tx B)), Rg.au (.bool b2)]) (az w _ V6) dz [] kr rfl (Rg.ek.pick ⟨Rg.ae _, Rg.ae _, trivial⟩) (az.begin (aa HO))
   (ah (df rfl aF)
   (ah (Oz (q := []) rfl (aT 0) (Rg.je _) (aa HB2) rfl)
   Rg.bg)) ?_
  intro v7 V7 Bh hv7 En
  simp only [Rg.puts, Act.put, tA]
  have e1 : v7 1 = .bool b2 := hv7 1 de
  simp only [e1]
  have hO := Bh.1
  clear HO
  have HO := hide hO
  clear hO Bh hv7 En
  try clear e1
  go_upto_if 23 with (fail)
  go_cut [5] (fun s5 wx => s5 = .string (tx M) ∧ Own w [(w.heap.size, 44, [.k (eK f), iv n, iv d])] wx)
  case first =>
   cases b2 with
   | true =>
    obtain rfl : M = P ++ ([47] ++ B) := by rw [aa HM, if_neg (by have := aa HB2; simpa using this)]; rfl
    go_upto_region 9 with fail
    refine Rg.di 4 46 (Rg.pick [Rg.au (.string (tx P)), Rg.au (.string (tx B)), Rg.au (.string (tx ([47] ++ B))), Rg.au (.string (tx (P ++ ([47] ++ B))))]) (az w _ V7) dz [] kr rfl (Rg.ek.pick ⟨Rg.ae _, Rg.ae _, Rg.ae _, Rg.ae _, trivial⟩) (az.begin (aa HO))
     (ah (df rfl aF)
     (ah (df rfl aF)
     (ah (Dx (p := [47]) rfl (Rg.je _) (aT 1) (by have := aa HL; simp; omega) rfl)
     (ah (Dx rfl (aT 0) (aT 2) (by have := aa HL; simp; omega) rfl)
     Rg.bg)))) ?_
    intro v8 V8 Fy Km Mo
    simp only [Rg.puts, Act.put, tA]
    have e3 : v8 3 = .string (tx (P ++ ([47] ++ B))) := Km 3 de
    simp only [e3]
    have hO := Fy.1
    clear HO
    have HO := hide hO
    clear hO Fy Km Mo
    try clear e3
    go_wp2_with fail
    go_meet
    exact ⟨rfl, aa HO⟩
   | false =>
    obtain rfl : M = P := by rw [aa HM, if_pos (by have := aa HB2; simpa using this)]
    go_wp2_with fail
    go_meet
    exact ⟨rfl, aa HO⟩
  case rest =>
   revert hcut
   generalize wc = C8
   intro hcut
   obtain ⟨rfl, Ny⟩ := hcut
   clear HO
   have HO := hide Ny
   clear Ny
   by_cases g3 : n = 1 ∧ d = 1
   ·
    have d3 : decide (n = 1 ∧ d = 1) = true := decide_eq_true g3
    obtain rfl : M = R := by rw [aa HR, if_pos g3]
    go_upto_region 10 with fail
    refine Rg.di 4 46 (Rg.pick [Rg.au (.pointer (some ⟨w.heap.size, 7, none⟩)), ax [iv n, iv d], ax [iv 1, iv 1], Rg.au (.bool true)]) (az w _ C8) dz [] kr rfl (Rg.ek.pick ⟨Rg.ae _, bf _, bf _, Rg.ae _, trivial⟩) (az.begin (aa HO))
     (ah (tq (b := w.heap.size) (off := 0) rfl aF rfl rfl)
     (ah (jc zn me0 (aT 0) [.k (eK f)] [iv n, iv d] [])
     (ah (Md rfl (Rg.je _) (Rg.je _) rfl)
     (ah (apq rfl (aT 1) (aT 2) d3 rfl)
     Rg.bg)))) ?_
    intro v9 V9 Ms Ml Rn
    simp only [Rg.puts, Act.put, tA]
    have e3 : v9 3 = .bool true := Ml 3 de
    simp only [e3]
    have hO := Ms.1
    clear HO
    have HO := hide hO
    clear hO Ms Ml Rn
    try clear e3
    clear d3
    go_upto_region 11 with fail
    refine Rg.di 3 46 (Rg.pick [Rg.au (.string (tx M)), Rg.au (.string (tx M)), Rg.au (.int .i64 0)]) (az w _ V9) dz [] kr rfl (Rg.ek.pick ⟨Rg.ae _, Rg.ae _, Rg.ae _, trivial⟩) (az.begin (aa HO))
     (ah (df rfl aF)
     (ah (ik rfl (aT 0))
     (ah (ik rfl (Rg.je _))
     Rg.bg))) ?_
    intro v10 V10 Ud Jl Zw
    simp only [Rg.puts, Act.put, tA]
    have e0 : v10 0 = .string (tx M) := Jl 0 de
    have e1 : v10 1 = .string (tx M) := Jl 1 de
    have e2 : v10 2 = .int .i64 0 := Jl 2 de
    simp only [e0, e1, e2]
    have hO := Ud.1
    clear HO
    have HO := hide hO
    clear hO Ud Jl Zw
    try clear e0 e1 e2
    go_wp2_with fail
    exact Uh Tryz.results47 rfl rfl (aa HO).bel rfl
   ·
    have d3 : decide (n = 1 ∧ d = 1) = false := decide_eq_false g3
    obtain rfl : R = Wd.nk n d ++ [32] ++ M := by rw [aa HR, if_neg g3]
    go_upto_region 10 with fail
    refine Rg.di 4 46 (Rg.pick [Rg.au (.pointer (some ⟨w.heap.size, 7, none⟩)), ax [iv n, iv d], ax [iv 1, iv 1], Rg.au (.bool false)]) (az w _ C8) dz [] kr rfl (Rg.ek.pick ⟨Rg.ae _, bf _, bf _, Rg.ae _, trivial⟩) (az.begin (aa HO))
     (ah (tq (b := w.heap.size) (off := 0) rfl aF rfl rfl)
     (ah (jc zn me0 (aT 0) [.k (eK f)] [iv n, iv d] [])
     (ah (Md rfl (Rg.je _) (Rg.je _) rfl)
     (ah (apq rfl (aT 1) (aT 2) d3 rfl)
     Rg.bg)))) ?_
    intro v9 V9 Ms Ml Rn
    simp only [Rg.puts, Act.put, tA]
    have e3 : v9 3 = .bool false := Ml 3 de
    simp only [e3]
    have hO := Ms.1
    clear HO
    have HO := hide hO
    clear hO Ms Ml Rn
    try clear e3
    clear d3
    go_upto_region 12 with fail
    refine Rg.di 8 46 (Rg.pick [Rg.au (.pointer (some ⟨w.heap.size, 7, none⟩)), ax [iv n, iv d], jw [Rg.au (.string (tx (Wd.nk n d))), Rg.au (.int .i64 0)], jw [Rg.au (.string (tx (Wd.nk n d))), Rg.au (.int .i64 0)], Rg.au (.string (tx (Wd.nk n d))), Rg.au (.int .i64 0), Rg.au (.string (tx (Wd.nk n d))), Rg.au (.int .i64 0)]) (az w _ V9) dz [] kr rfl (Rg.ek.pick ⟨Rg.ae _, bf _, jm ⟨(Rg.ae _), (Rg.ae _), trivial⟩, jm ⟨(Rg.ae _), (Rg.ae _), trivial⟩, Rg.ae _, Rg.ae _, Rg.ae _, Rg.ae _, trivial⟩) (az.begin (aa HO))
     (ah (tq (b := w.heap.size) (off := 0) rfl aF rfl rfl)
     (ah (jc zn me0 (aT 0) [.k (eK f)] [iv n, iv d] [])
     (ah (sc1 Tryz.func22 (aT 1) (fun W v0 hG h0 => bco ((aa HT).below hG.bel) ((aa Nf).below hG.bel) (aa Dz) h0))
     (ah (df rfl (aT 2))
     (ah (mf (ts := [Rg.au (.string (tx (Wd.nk n d))), Rg.au (.int .i64 0)]) rfl (aT 3) (of_decide_eq_true rfl) rfl)
     (ah (mf (ts := [Rg.au (.string (tx (Wd.nk n d))), Rg.au (.int .i64 0)]) rfl (aT 3) (of_decide_eq_true rfl) rfl)
     (ah (ik rfl (aT 4))
     (ah (ik rfl (aT 5))
     Rg.bg)))))))) ?_
    intro v10 V10 Ud Jl Zw
    simp only [Rg.puts, Act.put, tA]
    have e4 : v10 4 = .string (tx (Wd.nk n d)) := Jl 4 de
    have e5 : v10 5 = .int .i64 0 := Jl 5 de
    have e6 : v10 6 = .string (tx (Wd.nk n d)) := Jl 6 de
    have e7 : v10 7 = .int .i64 0 := Jl 7 de
    simp only [e4, e5, e6, e7]
    have hO := Ud.1
    clear HO
    have HO := hide hO
    clear hO Ud Jl Zw
    try clear e4 e5 e6 e7
    go_upto_region 13 with fail
    refine Rg.di 2 46 (Rg.pick [Rg.au (.int .i64 0), Rg.au (.bool false)]) (az w _ V10) dz [] kr rfl (Rg.ek.pick ⟨Rg.ae _, Rg.ae _, trivial⟩) (az.begin (aa HO))
     (ah (df rfl aF)
     (ah (Ba rfl (aT 0) (Rg.je _) rfl rfl)
     Rg.bg)) ?_
    intro v11 V11 ahi agp anj
    simp only [Rg.puts, Act.put, tA]
    have e1 : v11 1 = .bool false := agp 1 de
    simp only [e1]
    have hO := ahi.1
    clear HO
    have HO := hide hO
    clear hO ahi agp anj
    try clear e1
    go_upto_region 15 with fail
    refine Rg.di 6 46 (Rg.pick [Rg.au (.string (tx (Wd.nk n d))), Rg.au (.string (tx (Wd.nk n d ++ [32]))), Rg.au (.string (tx M)), Rg.au (.string (tx (Wd.nk n d ++ [32] ++ M))), Rg.au (.string (tx (Wd.nk n d ++ [32] ++ M))), Rg.au (.int .i64 0)]) (az w _ V11) dz [] kr rfl (Rg.ek.pick ⟨Rg.ae _, Rg.ae _, Rg.ae _, Rg.ae _, Rg.ae _, Rg.ae _, trivial⟩) (az.begin (aa HO))
     (ah (df rfl aF)
     (ah (Dx (q := [32]) rfl (aT 0) (Rg.je _) (by have := aa HL; simp; omega) rfl)
     (ah (df rfl aF)
     (ah (Dx rfl (aT 1) (aT 2) (by have := aa HL; simp; omega) rfl)
     (ah (ik rfl (aT 3))
     (ah (ik rfl (Rg.je _))
     Rg.bg)))))) ?_
    intro v12 V12 ahh Rl ani
    simp only [Rg.puts, Act.put, tA]
    have e3 : v12 3 = .string (tx (Wd.nk n d ++ [32] ++ M)) := Rl 3 de
    have e4 : v12 4 = .string (tx (Wd.nk n d ++ [32] ++ M)) := Rl 4 de
    have e5 : v12 5 = .int .i64 0 := Rl 5 de
    simp only [e3, e4, e5]
    have hO := ahh.1
    clear HO
    have HO := hide hO
    clear hO ahh Rl ani
    try clear e3 e4 e5
    go_wp2_with fail
    exact Uh Tryz.results47 rfl rfl (aa HO).bel rfl
end Sb

end Go.Proofs.YtfgeaakhlcaibaaGreatDoor
