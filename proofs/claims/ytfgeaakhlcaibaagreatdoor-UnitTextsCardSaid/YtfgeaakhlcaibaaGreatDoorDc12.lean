/- Texts beneath a law of layer 1. -/
import Derived.Test.YtfgeaakhlcaibaaGreatDoorDc11
import Derived.Test.YtfgeaakhlcaibaaGreatDoorRows
import Derived.ProofKit
import Derived.OpenShut
import Derived.LaidMore
import Derived.Lay
import Derived.Lib.SmallJoins
import Derived.Stop.Joined
import Derived.Lib.LaidTab
import Derived.Stop.LaidErr
set_option maxRecDepth 100000
set_option maxHeartbeats 16000000
namespace Go.Proofs.YtfgeaakhlcaibaaGreatDoor
open Go.RowKit
open Go.Proofs.Tryz
open Go renaming World → Wq
variable {x q:Rat} {a t r:List UInt8} {W w w' W':Wq} {z p:Int} {fs:List (ByteArray×Int)} {b K k n B m c1 c2:Nat} {c:UInt8} {P:Program} {A1 A2:Option Addr} {l1 l2:List Nat} {m1 m2:Bool} {o:Option Rat}

namespace Sb
variable {Q:Exit→Act→Wq→Prop} {l:List Oper} {n:Nat} {T:Nat→Wq→Value→Prop} {G:Wq→Prop} {al:List Nat} {a0:Act} {k d:Nat} {ty:TypeId} {pos:String} {af:Array Edge} {gd:Option (Nat×Bool)}
structure cbo (W:Wq) (g k:Nat) (nm:ByteArray) (p:Int) (f:Nat→Int) (x:Rat) (u:Nat→Int) (y:Rat) (f':Nat→Int) (x':Rat):Prop where
 at_:Qy W g k nm p
 find : ∀ W,Calls prog 122 #[.string nm] W (gp (ko [bz [.k (eK u),.r y],ax (.bool true)]) W)
 tim : ∀ W v0 v1,bz [.k (eK f),.r x] W v0→bz [.k (eK u),.r y] W v1→Calls prog 101 #[v0,v1,.int .i64 p] W (gp (bz [.k (eK f'),.r x']) W)
structure cci (x:Rat) (fs:List (ByteArray×Int)) (t:Xy) (n:Nat) (F:Nat→Nat→Int) (X:Nat→Rat):Prop where
 len:fs.length≤1300∧n≤fs.length
 f0:F 0=z7
 x0:X 0=x
 step : ∀ W ao,Pj W ao fs → ∀ k,k<n → ∃ g,ao=some ⟨g,0,none⟩ ∧ ∃ nm p u y,cbo W g k nm p (F k) (X k) u y (F (k+1)) (X (k+1))
 fin:(n=fs.length∧(¬ uw x→t=⟨z7,0,0,3⟩)∧(uw x→t=xk (F n) (X n)∧0<X n))∨(n<fs.length∧t=⟨z7,0,0,4⟩ ∧ ∀ W ao,Pj W ao fs → ∃ g,ao=some ⟨g,0,none⟩ ∧ ∃ nm p,Qy W g n nm p ∧ ∀ W',Calls prog 122 #[.string nm] W' (gp (ko [bz zV,ax (.bool false)]) W'))
theorem bta {l:List UInt8} (h:Calls prog 124 #[.string (tx l)] W (avq (some fs) W)):Calls prog 124 #[.string (tx l)] W (gp (ko [zz fs,ax (.bool true)]) W):=by
 refine h.mono ?_
 rintro e w' ⟨hb,⟨fs',v',h1,rfl,h2⟩|⟨v',h1,_⟩⟩
 ·
  cases h1
  exact⟨_,rfl,hb,[_,_],rfl,_,_,rfl,h2,_,_,rfl,rfl,rfl⟩
 ·
  cases h1
theorem btb {l:List UInt8} (h:Calls prog 124 #[.string (tx l)] W (avq none W)):Calls prog 124 #[.string (tx l)] W (gp (ko [ams,ax (.bool false)]) W):=by
 refine h.mono ?_
 rintro e w' ⟨hb,⟨fs',v',h1,_⟩|⟨v',_,rfl⟩⟩
 ·
  cases h1
 ·
  exact⟨_,rfl,hb,[_,_],rfl,_,_,rfl,trivial,_,_,rfl,rfl,rfl⟩
theorem brf (W:Wq) (v:Value) (h:bz [.r x] W v):Calls prog 123 #[v] W (gp (ax (.int .i64 (zm x.num))) W):=Go.Proofs.YtfgeaakhlcaibaaGreatDoor.ckn W v (blj h)
theorem ccv (h:0<z):decide (zm z≤0)=false:=dw (by unfold zm;omega)
theorem ccw (h : ¬ 0<z):decide (zm z≤0)=true:=dm (by unfold zm;split<;>omega)
theorem bcm {x:Operand} {A:Option Addr} {c:Nat} (hal:al.contains k=false) (hx:cu l n T a0 k x (ax (.slice A m c))) (hT:T k=ax (.int .i64 m)) :
  ib prog Q l n T G il al a0 k { dst:=some d,op := .call { callee := .builtin .len,args:=#[x],argTypes:=#[141]},type:=ty,pos:=pos,after:=af,guard:=gd}:=by
 intro a w hG hO hN
 have h:a.eval x = .slice A m c:=hx a w hO hN
 have hr:(execOp a.eval { dst:=some d,op := .call { callee := .builtin .len,args:=#[x],argTypes:=#[141]},type:=ty,pos:=pos,after:=af,guard:=gd}).run prog w = .ok (.value (.int .i64 m)) w:=by
  simp only[execOp,resolve,invoke,h,Rk,Gr,Rl];simp[go_sem,h,Builtin.len_]
 exact wvz hr hG hal (by rw[hT];rfl)
theorem awc {i c:Nat} {x y:Operand} (hal:al.contains k=false) (hx:cu l n T a0 k x (ax (.slice (some ⟨b,0,none⟩) m c))) (hy:cu l n T a0 k y (ax (.int .i64 (i:Int)))) (hi:i<m) (hT:T k=ax (.pointer (some ⟨b,2*i,none⟩))) :
  ib prog Q l n T G il al a0 k { dst:=some d,op := .indexAddr 141 x y,type:=ty,pos:=pos,after:=af,guard:=gd}:=by
 intro a w hG hO hN
 have h1:a.eval x = .slice (some ⟨b,0,none⟩) m c:=hx a w hO hN
 have h2:a.eval y = .int .i64 (i:Int):=hy a w hO hN
 have hr:(execOp a.eval { dst:=some d,op := .indexAddr 141 x y,type:=ty,pos:=pos,after:=af,guard:=gd}).run prog w = .ok (.value (.pointer (some ⟨b,2*i,none⟩))) w:=by
  simp only[execOp,h1,h2];simp[go_sem,hi,og]
 exact wvz hr hG hal (by rw[hT];rfl)
theorem cgz {o:Nat} {x:Operand} (hb : ∀ W,G W→W.cell? ⟨b,o,none⟩=some (.int .i64 p)) (hal:al.contains k=false) (hx:cu l n T a0 k x (ax (.pointer (some ⟨b,o,none⟩)))) (hT:T k=ax (.int .i64 p)) :
  ib prog Q l n T G il al a0 k { dst:=some d,op := .load 3 x,type:=ty,pos:=pos,after:=af,guard:=gd}:=by
 intro a w hG hO hN
 exact wvz (Fe a.eval w (some d) x b o _ ty pos af gd (hb w hG) (hx a w hO hN)) hG hal (by rw[hT];rfl)
theorem bhd {l:List UInt8} (w:Wq) (hz:600<l.length) :
  Calls prog 52 #[.string (tx l)] w (gp (Kg ⟨z7,0,0,3⟩) w):=by
 have d0:decide (((tx l).size:Int)>600)=true:=dm (by rw[xw];omega)
 clear hz
 go_enter func52,ntmps52
 go_upto_region 1 with fail
 have hO:=(Own.push (T:=44) (ls:=zU) (Own.nil w) (gy.vs w [.int .i64 0,.int .i64 0,.int .i64 0,.int .i64 0,.int .i64 0,.int .i64 0,.int .i64 0,.int .i64 0,.int .i64 0] rfl) (w.heap.size) rfl)
 generalize w.alloc (.cells #[.int .i64 0,.int .i64 0,.int .i64 0,.int .i64 0,.int .i64 0,.int .i64 0,.int .i64 0,.int .i64 0,.int .i64 0] 44)=W0 at *
 have HO:=ae hO
 clear hO
 refine fw 3 [_,_,_] [] HO (dh aF (au (Ar rfl (aT 0) rfl) (au (Lp rfl (aT 1) (fe _) rfl d0) ai))) ?_
 intro v1 V1 hG1 hv1 hne1
 simp only[ay,Act.put,tA,exv (hv1 2 de)]
 replace HO:=ae hG1.1
 clear hG1 hv1 hne1
 go_upto_region 2 with fail
 refine fw 1 [_] [] HO (au (Pv rfl rfl) ai) ?_
 intro v2 V2 hG2 hv2 hne2
 simp only[ay,Act.put,tA]
 have hO:=hG2.1
 refine kg hO 0 vv (hv2 0 de) ?_
 clear hO
 intro Oy hO hk0
 replace HO:=ae hO
 clear hO hG2 hv2 hne2 hk0
 go_wp2_with fail
 exact vo results52 Bq rfl rfl (aa HO) me0 rfl rfl
theorem atn {l:List UInt8} {o1:Option Rat} (w:Wq) (hz:l.length≤600) (hin:(32:UInt8)∈l) (hr : ∀ W,Calls prog 89 #[.string (tx (Au 32 l))] W (gp (RdT o1) W)) (hnp : ∀ x,o1=some x → ¬ 0<x.num) :
  Calls prog 52 #[.string (tx l)] w (gp (Kg ⟨z7,0,0,2⟩) w):=by
 have d0:decide (((tx l).size:Int)>600)=false:=dw (by rw[xw];omega)
 have HZ:=ae hz
 have ctn:=ae hin
 have HR:=ae hr
 have HNP:=ae hnp
 clear hz hin hr hnp
 go_enter func52,ntmps52
 go_upto_region 1 with fail
 have hO:=(Own.push (T:=44) (ls:=zU) (Own.nil w) (gy.vs w [.int .i64 0,.int .i64 0,.int .i64 0,.int .i64 0,.int .i64 0,.int .i64 0,.int .i64 0,.int .i64 0,.int .i64 0] rfl) (w.heap.size) rfl)
 generalize w.alloc (.cells #[.int .i64 0,.int .i64 0,.int .i64 0,.int .i64 0,.int .i64 0,.int .i64 0,.int .i64 0,.int .i64 0,.int .i64 0] 44)=W0 at *
 have HO:=ae hO
 clear hO
 refine fw 3 [_,_,_] [] HO (dh aF (au (Ar rfl (aT 0) rfl) (au (Lp rfl (aT 1) (fe _) rfl d0) ai))) ?_
 intro v1 V1 hG1 hv1 hne1
 simp only[ay,Act.put,tA,exv (hv1 2 de)]
 replace HO:=ae hG1.1
 clear hG1 hv1 hne1
 clear d0
 go_upto_region 3 with fail
 refine fw 3 [_,_,_] [2] HO (au (sc1 func95 (fe _) (fun W v0 hG h0=>by cases h0;exact atr 1 om om W)) (dh aF (Am ann ai))) ?_
 intro v2 V2 hG2 hv2 hne2
 obtain⟨Iq,e2,Mf,hz2⟩:=(show qw 68 zX V1.heap.size V2 (v2 2)from hv2 2 de)
 simp only[ay,Act.put,tA,show v2 1 = .string (tx l)from hv2 1 de,e2]
 have hO:=hG2.1
 replace hO:=Own.add (aa HO) hG2.2 Mf hz2
 clear Mf hz2
 refine kg hO 0 Cv (hv2 0 de) ?_
 clear hO
 intro Oy hO hk0
 replace HO:=ae hO
 clear hO hG2 hv2 hne2 hk0
 try clear e2
 go_wp2_with fail
 go_loopw [5,6] (fun rv kv wr => ∃ k:Nat,k≤l.length∧kv = .int .i64 ((k:Nat):Int)∧rv = .string (tx l)∧Hid ((32:UInt8) ∉ l.take k)∧Hid (Own w [(Iq,68,[.r (Rat.divInt 1 1)]),(w.heap.size,44,zU)] wr)) (fun _ kv _=>l.length+1-(intOf kv).toNat)
 case atStart=>exact⟨0,ug _,rfl,rfl,ae mi,HO⟩
 case round =>
  clear HO;obtain⟨k,hk,rfl,rfl,hnot,HO⟩:=hrel;have HK:=ae hk;clear hk
  by_cases g1:k<l.length
  ·
   have d1:decide ((k:Int)<((tx l).size:Int))=true:=dm (by rw[xw];omega);have qp:=ae g1;have Mx:=ae (show k<(tx l).size by rw[xw];exact g1);clear g1;go_upto_region 5 with fail;refine fw 4 [_,_,_,_] [] HO (dh aF (dh aF (au (Ar rfl (aT 1) rfl) (au (wu rfl (aT 0) (aT 2) rfl d1) ai)))) ?_
   intro v3 V3 hG3 hv3 ji;simp only[ay,Act.put,tA,exv (hv3 3 de)];replace HO:=ae hG3.1;clear hG3 hv3 ji;clear d1
   by_cases g2:l[k]'(aa qp)=32
   ·
    have d2:((((tx l)[k]'(aa Mx)).toNat:Int)==32)=true:=by
     have h9:(tx l)[k]'(aa Mx)=l[k]'(aa qp):=rfl;rw[h9,g2];rfl
    obtain⟨e1,e2,e3⟩:=aqf (aa qp) (aa hnot) g2;have HE1:=ae (show(tx l).extract 0 k=tx (Au 32 l)by rw[Ul,Ac,← e1];simp);have HE2:=ae (show(tx l).extract (k+1) (tx l).size=tx (xu 32 l)by rw[Ul,Ac,← e2,Fb (by rw[Kv,xw];omega)]);have HIN:=ae e3;have HWK:=ae (show wrap64 ((k:Int)+1)=((k+1:Nat):Int)from by have:=aa qp;have:=aa HZ;rw[Cs _ om];push_cast;rfl);clear g2 e1 e2 e3;go_upto_region 7 with fail;refine fw 4 [_,_,_,_] [] HO (dh aF (dh aF (au (Yo (i:=k) rfl (aT 0) (aT 1) (aa Mx) rfl) (au (abv rfl (aT 2) (fe _) d2 rfl) ai)))) ?_
    intro v4 V4 hG4 hv4 ma;simp only[ay,Act.put,tA,exv (hv4 3 de)];replace HO:=ae hG4.1;clear hG4 hv4 ma;clear d2
    cases o1 with
    | none =>
     go_upto_region 8 with fail;refine yc 8 102 (ui [ax (.string (tx l)),ax (.int .i64 (k:Int)),ax (.string (tx (Au 32 l))),ko [AnyX,ax (.bool false)],ko [AnyX,ax (.bool false)],AnyX,ax (.bool false),qw 68 zX V4.heap.size]) (iw w _ V4) il [7] kr rfl (qm.pick ⟨fo _,fo _,fo _,rq ⟨(akn),(fo _),trivial⟩,rq ⟨(akn),(fo _),trivial⟩,akn,fo _,Nf _ _ _,trivial⟩) (iw.begin (aa HO))
      (au (jh rfl aF)
      (au (jh rfl aF)
      (au (bau (aa HE1) rfl (aT 0) (aT 1) (Lt (aa Mx)) rfl)
      (au (sc1 func89 (aT 2) (fun W v0 hG h0=>by cases h0;exact(aa HR) W))
      (au (jh rfl (aT 3))
      (au (xq (ts:=[AnyX,ax (.bool false)]) rfl (aT 4) (sw rfl) rfl)
      (au (xq (ts:=[AnyX,ax (.bool false)]) rfl (aT 4) (sw rfl) rfl)
      (au (Ud ann rfl iw.step iw.size rfl (Yv (by intro j hj;simp at hj;(repeat' (first|(rcases hj with rfl|hj)))<;>first|(subst hj;exact⟨_,_,_,rfl⟩)|exact⟨_,_,_,rfl⟩)))
      ai)))))))) ?_
     intro v5 V5 mo hv5 hne5;obtain⟨Vr,e7,Fy,Lb⟩:=(show qw 68 zX V4.heap.size V5 (v5 7)from hv5 7 de)
     simp only[ay,Act.put,tA,exv (hv5 6 de),e7];have hO:=mo.1;replace hO:=Own.add (aa HO) mo.2 Fy Lb;clear Fy Lb;obtain⟨cml,cmk,cmj,cmh,hy5⟩:=(show AnyX V5 (v5 5)from hv5 5 de)
     refine kg hO 0 Cv (show bz [.v cml,.v cmk,.v cmj,.v cmh] V5 (v5 5)from hy5) ?_
     clear hO;intro Jv hO hk0;replace HO:=ae hO;clear hO mo hv5 hne5 hk0;try clear e7;go_upto_region 9 with fail;refine fw 7 [_,_,_,_,_,_,_] [] HO (dh aF (au (tq rfl (aT 0) rfl rfl) (dh (aT 1) (ve (ve (ve (au (qj rfl (aT 2) (fe _)) ai))))))) ?_
     intro v6 V6 qb hv6 vw;simp only[ay,Act.put,tA,exv (hv6 6 de)];replace HO:=ae qb.1;clear qb hv6 vw;go_upto_region 10 with fail;refine fw 1 [_] [] HO (au (Pv rfl rfl) ai) ?_
     intro v7 V7 vg hv7 zw;simp only[ay,Act.put,tA];have hO:=vg.1;refine kg hO 2 vv (hv7 0 de) ?_
     clear hO;intro Xm hO hk0;replace HO:=ae hO;clear hO vg hv7 zw hk0;go_wp2_with fail;exact vo results52 Bq rfl rfl (aa HO) Ed rfl rfl
    | some x =>
     have d3:decide (zm x.num≤0)=true:=ccw (by have:=(aa HNP) x rfl;omega);go_upto_region 8 with fail;refine fw 8 [_,_,_,_,_,_,_,_] [7] HO (dh aF (dh aF (au (bau (aa HE1) rfl (aT 0) (aT 1) (Lt (aa Mx)) rfl) (au (sc1 func89 (aT 2) (fun W v0 hG h0=>by cases h0;exact(aa HR) W)) (dh (aT 3) (pq [bz [.r x],ax (.bool true)] (aT 4) (pq _ (aT 4) (Am ann ai)))))))) ?_
     intro v5 V5 mo hv5 hne5;obtain⟨Vr,e7,Fy,Lb⟩:=(show qw 68 zX V4.heap.size V5 (v5 7)from hv5 7 de)
     simp only[ay,Act.put,tA,exv (hv5 6 de),e7];have hO:=mo.1;replace hO:=Own.add (aa HO) mo.2 Fy Lb;clear Fy Lb;refine kg hO 0 Cv (hv5 5 de) ?_
     clear hO;intro Jv hO hk0;replace HO:=ae hO;clear hO mo hv5 hne5 hk0;try clear e7;go_upto_region 9 with fail;refine fw 7 [_,_,_,_,_,_,_] [] HO (dh aF (au (tq rfl (aT 0) rfl rfl) (dh (aT 1) (ku (El Dt me0 aF [] [.r x] []) (ku (Ei func123 kr rfl iw.step (aT 3) (fun W v0 hG h0=>brf W _ h0)) (ku (atl rfl (aT 4) (fe _) rfl d3) (au (mh rfl (aT 2) (aT 5)) ai))))))) ?_
     intro v6 V6 qb hv6 vw;simp only[ay,Act.put,tA,exv (hv6 6 de)];replace HO:=ae qb.1;clear qb hv6 vw;go_upto_region 10 with fail;refine fw 1 [_] [] HO (au (Pv rfl rfl) ai) ?_
     intro v7 V7 vg hv7 zw;simp only[ay,Act.put,tA];have hO:=vg.1;refine kg hO 2 vv (hv7 0 de) ?_
     clear hO;intro Xm hO hk0;replace HO:=ae hO;clear hO vg hv7 zw hk0;go_wp2_with fail;exact vo results52 Bq rfl rfl (aa HO) Ed rfl rfl
   ·
    have d2:((((tx l)[k]'(aa Mx)).toNat:Int)==32)=false:=by
     have h9:(tx l)[k]'(aa Mx)=l[k]'(aa qp):=rfl;rw[h9];exact oo.2 fun e=>g2 (Rf.1 (by show(l[k]'(aa qp)).toNat=32;omega))
    have HNN:=ae (akm (aa qp) (aa hnot) g2);clear g2;go_upto_region 7 with fail;refine fw 4 [_,_,_,_] [] HO (dh aF (dh aF (au (Yo (i:=k) rfl (aT 0) (aT 1) (aa Mx) rfl) (au (abv rfl (aT 2) (fe _) d2 rfl) ai)))) ?_
    intro v4 V4 hG4 hv4 ma;simp only[ay,Act.put,tA,exv (hv4 3 de)];replace HO:=ae hG4.1;clear hG4 hv4 ma;clear d2;have hz:=aa HZ;have Us:=HO;clear HO;go_wp2_with fail
    go_roundw
    case rel =>
     exact⟨k+1,aa qp,He (aa qp) om,rfl,HNN,Us⟩
    case measure =>
     have h1:=aa qp;rw[Ih h1 om];simp[intOf]<;>omega
  ·
   have hkl:k=l.length:=by have:=aa HK;omega
   have hno:=aa hnot;rw[hkl,abq]at hno;exact absurd (aa ctn) hno
theorem _root_.Go.Proofs.YtfgeaakhlcaibaaGreatDoor.sc3 {Q : Exit → Act → Wq → Prop} {l : List Oper} {T : Nat → Wq → Value → Prop} {V : Wq} {bs : List Sb.yz} {al : List Nat} {a0 : Act} {F d : Nat} {fn : Func} {ats : Array TypeId} {ty : TypeId} {pos : String} {af : Array Edge} {gd : Option (Nat × Bool)} {x1 x2 x3 : Operand} {A1 A2 A3 : Wq → Value → Prop} (hF : P.funcs[F]? = some fn) (h1 : cu l n T a0 k x1 A1) (h2 : cu l n T a0 k x2 A2) (h3 : cu l n T a0 k x3 A3) (hc : ∀ (W : Wq) (v1 v2 v3 : Value), Sb.iw w bs V W → A1 W v1 → A2 W v2 → A3 W v3 → Calls P F #[v1, v2, v3] W fun e w' => ∃ u, e = .returned u ∧ il W w' ∧ T k w' u) (hn : (!(fn.name == "runtime.NumGoroutine") && fn.body.isSome) = true := by kernel_rfl) (hal : al.contains k = false := by rfl) :
  ib P Q l n T (Sb.iw w bs V) il al a0 k { dst:=some d,op := .call { callee := .value (.func F),args:=#[x1,x2,x3],argTypes:=ats},type:=ty,pos:=pos,after:=af,guard:=gd}:=afg hF hn hal Sb.iw.step h1 h2 h3 hc
theorem aoi {l b:List UInt8} {o2:Option (List (ByteArray×Int))} {t:Xy} (w:Wq) (hz:l.length≤600) (hc:((32:UInt8)∈l→Qt (Au 32 l)=some x∧b=xu 32 l)∧((32:UInt8) ∉ l→x=Rat.divInt 1 1∧b=l)) (hx:0<x.num)
  (hr:(32:UInt8)∈l → ∀ W,Calls prog 89 #[.string (tx (Au 32 l))] W (gp (RdT (Qt (Au 32 l))) W)) (hf : ∀ W,Calls prog 124 #[.string (tx b)] W (avq o2 W))
  (ht:(o2=none→t=⟨z7,0,0,2⟩)∧(∀ fs,o2=some fs → ∃ n F X,cci x fs t n F X)) :
  Calls prog 52 #[.string (tx l)] w (gp (Kg t) w):=by
 have d0:decide (((tx l).size:Int)>600)=false:=dw (by rw[xw];omega)
 have HZ:=ae hz
 have HC:=ae hc
 have HX:=ae hx
 have HR:=ae hr
 have HF:=ae hf
 have HT:=ae ht
 clear hz hc hx hr hf ht
 go_enter func52,ntmps52
 go_upto_region 1 with fail
 have hO:=(Own.push (T:=44) (ls:=zU) (Own.nil w) (gy.vs w [.int .i64 0,.int .i64 0,.int .i64 0,.int .i64 0,.int .i64 0,.int .i64 0,.int .i64 0,.int .i64 0,.int .i64 0] rfl) (w.heap.size) rfl)
 generalize w.alloc (.cells #[.int .i64 0,.int .i64 0,.int .i64 0,.int .i64 0,.int .i64 0,.int .i64 0,.int .i64 0,.int .i64 0,.int .i64 0] 44)=W0 at *
 have HO:=ae hO
 clear hO
 refine fw 3 [_,_,_] [] HO (dh aF (au (Ar rfl (aT 0) rfl) (au (Lp rfl (aT 1) (fe _) rfl d0) ai))) ?_
 intro v1 V1 hG1 hv1 hne1
 simp only[ay,Act.put,tA,exv (hv1 2 de)]
 replace HO:=ae hG1.1
 clear hG1 hv1 hne1
 clear d0
 go_upto_region 3 with fail
 refine fw 3 [_,_,_] [2] HO (au (sc1 func95 (fe _) (fun W v0 hG h0=>by cases h0;exact atr 1 om om W)) (dh aF (Am ann ai))) ?_
 intro v2 V2 hG2 hv2 hne2
 obtain⟨Iq,e2,Mf,hz2⟩:=(show qw 68 zX V1.heap.size V2 (v2 2)from hv2 2 de)
 simp only[ay,Act.put,tA,show v2 1 = .string (tx l)from hv2 1 de,e2]
 have hO:=hG2.1
 replace hO:=Own.add (aa HO) hG2.2 Mf hz2
 clear Mf hz2
 refine kg hO 0 Cv (hv2 0 de) ?_
 clear hO
 intro Oy hO hk0
 replace HO:=ae hO
 clear hO hG2 hv2 hne2 hk0
 try clear e2
 go_upto_block 0 with(fail)
 go_cut [5] (fun rv wx=>rv = .string (tx b)∧Own w [(Iq,68,[.r x]),(w.heap.size,44,zU)] wx)
 case first =>
  go_wp2_with fail
  go_loopw [5,6] (fun rv kv wr => ∃ k:Nat,k≤l.length∧kv = .int .i64 ((k:Nat):Int)∧rv = .string (tx l)∧Hid ((32:UInt8) ∉ l.take k)∧Hid (Own w [(Iq,68,[.r (Rat.divInt 1 1)]),(w.heap.size,44,zU)] wr)) (fun _ kv _=>l.length+1-(intOf kv).toNat)
  case atStart=>exact⟨0,ug _,rfl,rfl,ae mi,HO⟩
  case round =>
   clear HO;obtain⟨k,hk,rfl,rfl,hnot,HO⟩:=hrel;have HK:=ae hk;clear hk
   by_cases g1:k<l.length
   ·
    have d1:decide ((k:Int)<((tx l).size:Int))=true:=dm (by rw[xw];omega);have qp:=ae g1;have Mx:=ae (show k<(tx l).size by rw[xw];exact g1);clear g1;go_upto_region 5 with fail;refine fw 4 [_,_,_,_] [] HO (dh aF (dh aF (au (Ar rfl (aT 1) rfl) (au (wu rfl (aT 0) (aT 2) rfl d1) ai)))) ?_
    intro v3 V3 hG3 hv3 ji;simp only[ay,Act.put,tA,exv (hv3 3 de)];replace HO:=ae hG3.1;clear hG3 hv3 ji;clear d1
    by_cases g2:l[k]'(aa qp)=32
    ·
     have d2:((((tx l)[k]'(aa Mx)).toNat:Int)==32)=true:=by
      have h9:(tx l)[k]'(aa Mx)=l[k]'(aa qp):=rfl;rw[h9,g2];rfl
     obtain⟨e1,e2,e3⟩:=aqf (aa qp) (aa hnot) g2;have HE1:=ae (show(tx l).extract 0 k=tx (Au 32 l)by rw[Ul,Ac,← e1];simp);have HE2:=ae (show(tx l).extract (k+1) (tx l).size=tx (xu 32 l)by rw[Ul,Ac,← e2,Fb (by rw[Kv,xw];omega)]);have HIN:=ae e3;have HWK:=ae (show wrap64 ((k:Int)+1)=((k+1:Nat):Int)from by have:=aa qp;have:=aa HZ;rw[Cs _ om];push_cast;rfl);clear g2 e1 e2 e3;go_upto_region 7 with fail;refine fw 4 [_,_,_,_] [] HO (dh aF (dh aF (au (Yo (i:=k) rfl (aT 0) (aT 1) (aa Mx) rfl) (au (abv rfl (aT 2) (fe _) d2 rfl) ai)))) ?_
     intro v4 V4 hG4 hv4 ma;simp only[ay,Act.put,tA,exv (hv4 3 de)];replace HO:=ae hG4.1;clear hG4 hv4 ma;clear d2;obtain⟨k1,k2⟩:=(aa HC).1 (aa HIN);have HB:=ae k2;have d3:=ccv (aa HX);clear k2;go_upto_region 8 with fail;refine fw 8 [_,_,_,_,_,_,_,_] [7] HO (dh aF (dh aF (au (bau (aa HE1) rfl (aT 0) (aT 1) (Lt (aa Mx)) rfl) (au (sc1 func89 (aT 2) (fun W v0 hG h0=>by cases h0;exact(by have h9:=(aa HR) (aa HIN) W;rw[k1]at h9;exact h9))) (dh (aT 3) (pq [bz [.r x],ax (.bool true)] (aT 4) (pq _ (aT 4) (Am ann ai)))))))) ?_
     intro v5 V5 mo hv5 hne5;obtain⟨Vr,e7,Fy,Lb⟩:=(show qw 68 zX V4.heap.size V5 (v5 7)from hv5 7 de)
     simp only[ay,Act.put,tA,exv (hv5 6 de),e7];have hO:=mo.1;replace hO:=Own.add (aa HO) mo.2 Fy Lb;clear Fy Lb;refine kg hO 0 Cv (hv5 5 de) ?_
     clear hO;intro Jv hO hk0;replace HO:=ae hO;clear hO mo hv5 hne5 hk0;try clear e7;go_upto_region 9 with fail;refine fw 7 [_,_,_,_,_,_,_] [] HO (dh aF (au (tq rfl (aT 0) rfl rfl) (dh (aT 1) (ku (El Dt me0 aF [] [.r x] []) (ku (Ei func123 kr rfl iw.step (aT 3) (fun W v0 hG h0=>brf W _ h0)) (ku (atl rfl (aT 4) (fe _) rfl d3) (au (mh rfl (aT 2) (aT 5)) ai))))))) ?_
     intro v6 V6 qb hv6 vw;simp only[ay,Act.put,tA,exv (hv6 6 de)];replace HO:=ae qb.1;clear qb hv6 vw;clear d3 k1;have hn1:(Iq:Nat)≠Vr:=fun h=>by have:=(aa HO).nd;simp[h]at this
     have hn2:(Iq:Nat)≠w.heap.size:=fun h=>by have:=(aa HO).nd;simp[h]at this
     go_upto_region 11 with fail;refine ami 7 102 (ui [bz [.r x],ax (.string (tx l)),ax (.int .i64 (k:Int)),ax (.int .i64 (((k+1:Nat):Int))),ax (.string (tx (xu 32 l))),StT (Iq,68,[.r x]),ax (.string (tx (xu 32 l)))]) (GS w [(Vr,68,[.r x]),(Iq,68,[.r (Rat.divInt 1 1)]),(w.heap.size,44,zU)] (Iq,68,[.r x]) (Iq,68,[.r x])) (ES (Iq,68,[.r x]) (Iq,68,[.r x])) [] kr kr rfl (qm.pick ⟨(bpp _),(abu _),(abu _),(abu _),(abu _),(bvb (.inr rfl) (.inl rfl)),(abu _),trivial⟩) (GS.start (aa HO))
      (oh (Ef rfl (Tz (bcl (b:=Vr) (off:=0) (TB:=68) (pre:=[]) (mid:=[.r x]) (post:=[]) Dt rfl aF (fun W h=>GS.get me0 (fun h=>absurd (show(Iq:Nat)=Vr from h) (by first|omega|(intro h;exact hn1 h))) (fun h=>absurd (show(Iq:Nat)=Vr from h) (by first|omega|(intro h;exact hn1 h))) h) rfl rfl rfl)))
       (oh (Ef rfl (Tz (jh rfl aF)))
       (oh (Ef rfl (Tz (jh rfl aF)))
       (oh (Ef rfl (Tz (atm rfl (aT 2) (fe _) (aa HWK) rfl)))
       (oh (Ef rfl (Tz (bcj (aa HE2) rfl (aT 1) (aT 3) (aa Mx) rfl)))
       (oh (Ef rfl (bvd (b:=Iq) (old:=[.r (Rat.divInt 1 1)]) (new:=[.r x]) Cv rfl aF (aT 0) uq (aa HO).nd (.inl rfl) (.inr rfl) rfl rfl rfl))
       (oh (Ef rfl (Tz (zu rfl (aT 4))))
       ai))))))) ?_
     intro v7 V7 vg hv7 zw;simp only[ay,Act.put,tA,show v7 1 = .string (tx l)from hv7 1 de,show v7 2 = .int .i64 (k:Int)from hv7 2 de,show v7 3 = .int .i64 (((k+1:Nat):Int))from hv7 3 de,show v7 4 = .string (tx (xu 32 l))from hv7 4 de,show v7 6 = .string (tx (xu 32 l))from hv7 6 de];have hO:Own w [(Vr,68,[.r x]),(Iq,68,[.r x]),(w.heap.size,44,zU)] V7:=by
      refine⟨vg.bel,(aa HO).nd,fun b T ls hm => ?_⟩
      rcases yx.1 hm with e|hm
      ·
       cases e;exact⟨(vg.box _ _ _ me0).1,GS.get me0 (fun h=>absurd (show(Iq:Nat)=Vr from h) (by first|omega|(intro h;exact hn1 h))) (fun h=>absurd (show(Iq:Nat)=Vr from h) (by first|omega|(intro h;exact hn1 h))) vg⟩
      rcases yx.1 hm with e|hm
      ·
       cases e;exact⟨(vg.box _ _ _ uq).1,hv7 5 de⟩
      rcases yx.1 hm with e|hm
      ·
       cases e;exact⟨(vg.box _ _ _ Ed).1,GS.get Ed (fun h=>absurd (show(Iq:Nat)=w.heap.size from h) (by first|omega|(intro h;exact hn2 h))) (fun h=>absurd (show(Iq:Nat)=w.heap.size from h) (by first|omega|(intro h;exact hn2 h))) vg⟩
      cases hm
     replace HO:=ae hO;clear hO vg hv7 zw;have hO9:=(aa HO).tl;clear HO;go_wp2_with fail
     go_meet
     exact⟨by rw[aa HB],hO9⟩
    ·
     have d2:((((tx l)[k]'(aa Mx)).toNat:Int)==32)=false:=by
      have h9:(tx l)[k]'(aa Mx)=l[k]'(aa qp):=rfl;rw[h9];exact oo.2 fun e=>g2 (Rf.1 (by show(l[k]'(aa qp)).toNat=32;omega))
     have HNN:=ae (akm (aa qp) (aa hnot) g2);clear g2;go_upto_region 7 with fail;refine fw 4 [_,_,_,_] [] HO (dh aF (dh aF (au (Yo (i:=k) rfl (aT 0) (aT 1) (aa Mx) rfl) (au (abv rfl (aT 2) (fe _) d2 rfl) ai)))) ?_
     intro v4 V4 hG4 hv4 ma;simp only[ay,Act.put,tA,exv (hv4 3 de)];replace HO:=ae hG4.1;clear hG4 hv4 ma;clear d2;have hz:=aa HZ;have Us:=HO;clear HO;go_wp2_with fail
     go_roundw
     case rel =>
      exact⟨k+1,aa qp,He (aa qp) om,rfl,HNN,Us⟩
     case measure =>
      have h1:=aa qp;rw[Ih h1 om];simp[intOf]<;>omega
   ·
    have hkl:k=l.length:=by have:=aa HK;omega
    have hno:=aa hnot;rw[hkl,abq]at hno;have d1:decide ((k:Int)<((tx l).size:Int))=false:=dw (by rw[xw];omega);clear g1 hkl;go_upto_region 5 with fail;refine fw 4 [_,_,_,_] [] HO (dh aF (dh aF (au (Ar rfl (aT 1) rfl) (au (wu rfl (aT 0) (aT 2) rfl d1) ai)))) ?_
    intro v3 V3 hG3 hv3 ji;simp only[ay,Act.put,tA,exv (hv3 3 de)];replace HO:=ae hG3.1;clear hG3 hv3 ji;clear d1;obtain⟨k1,k2⟩:=(aa HC).2 hno;have HB:=ae k2;have HX1:=ae k1;clear k1 k2 hno;have hO9:=aa HO;rw[← aa HX1]at hO9;clear HO;go_wp2_with fail
    go_meet
    exact⟨by rw[aa HB],hO9⟩
 case rest =>
  revert hcut
  generalize wc=C0;intro hcut;obtain⟨rfl,hcO⟩:=hcut;clear HO HC HR;have HO:=ae hcO;clear hcO
  cases o2 with
  | none =>
   have ht:t=⟨z7,0,0,2⟩:=(aa HT).1 rfl;subst ht;clear HT;go_upto_region 12 with fail;refine yc 7 102 (ui [ax (.string (tx b)),ko [ams,ax (.bool false)],ko [ams,ax (.bool false)],ams,ax (.bool false),ams,ax (.bool false)]) (iw w _ C0) il [] kr rfl (qm.pick ⟨fo _,rq ⟨(adl),(fo _),trivial⟩,rq ⟨(adl),(fo _),trivial⟩,adl,fo _,adl,fo _,trivial⟩) (iw.begin (aa HO))
    (au (jh rfl aF)
    (au (sc1 func124 (aT 0) (fun W v0 hG h0=>by cases h0;exact btb ((aa HF) W)))
    (au (jh rfl (aT 1))
    (au (xq (ts:=[ams,ax (.bool false)]) rfl (aT 2) (sw rfl) rfl)
    (au (xq (ts:=[ams,ax (.bool false)]) rfl (aT 2) (sw rfl) rfl)
    (au (zu rfl (aT 3))
    (au (zu rfl (aT 4))
    ai))))))) ?_
   intro v3 V3 hG3 hv3 ji;simp only[ay,Act.put,tA,exv (hv3 4 de),exv (hv3 6 de)];replace HO:=ae hG3.1;clear hG3 hv3 ji;go_upto_region 13 with fail;refine fw 2 [_,_] [] HO (dh aF (au (tq rfl (aT 0) rfl rfl) ai)) ?_
   intro v4 V4 hG4 hv4 ma;simp only[ay,Act.put,tA,exv (hv4 1 de)];replace HO:=ae hG4.1;clear hG4 hv4 ma;go_upto_region 14 with fail;refine fw 1 [_] [] HO (au (Pv rfl rfl) ai) ?_
   intro v5 V5 mo hv5 hne5;simp only[ay,Act.put,tA];have hO:=mo.1;refine kg hO 1 vv (hv5 0 de) ?_
   clear hO;intro Jv hO hk0;replace HO:=ae hO;clear hO mo hv5 hne5 hk0;go_wp2_with fail;exact vo results52 Bq rfl rfl (aa HO) uq rfl rfl
  | some fs =>
   obtain⟨n,F,X,hk⟩:=(aa HT).2 fs rfl;have HKK:=ae hk;clear HT hk;go_upto_region 12 with fail;refine yc 7 102 (ui [ax (.string (tx b)),ko [zz fs,ax (.bool true)],ko [zz fs,ax (.bool true)],zz fs,ax (.bool true),zz fs,ax (.bool true)]) (iw w _ C0) il [] kr rfl (qm.pick ⟨fo _,rq ⟨(Bp _),(fo _),trivial⟩,rq ⟨(Bp _),(fo _),trivial⟩,Bp _,fo _,Bp _,fo _,trivial⟩) (iw.begin (aa HO))
    (au (jh rfl aF)
    (au (sc1 func124 (aT 0) (fun W v0 hG h0=>by cases h0;exact bta ((aa HF) W)))
    (au (jh rfl (aT 1))
    (au (xq (ts:=[zz fs,ax (.bool true)]) rfl (aT 2) (sw rfl) rfl)
    (au (xq (ts:=[zz fs,ax (.bool true)]) rfl (aT 2) (sw rfl) rfl)
    (au (zu rfl (aT 3))
    (au (zu rfl (aT 4))
    ai))))))) ?_
   intro v3 V3 hG3 hv3 ji;simp only[ay,Act.put,tA,exv (hv3 4 de),exv (hv3 6 de)];obtain⟨ao,c,em,hfa⟩:=(show zz fs V3 (v3 5)from hv3 5 de)
   simp only[em];have Zm:=ae hfa;clear hfa;replace HO:=ae hG3.1;clear hG3 hv3 ji;have ru:=ae (show il V3 V3 from df _ _);go_upto_region 13 with fail;refine fw 2 [_,_] [] HO (dh aF (au (tq rfl (aT 0) rfl rfl) ai)) ?_
   intro v4 V4 hG4 hv4 ma;simp only[ay,Act.put,tA,exv (hv4 1 de)];have czr:=ae (aa ru).size;replace ru:=ae (az (aa ru) hG4.2);replace HO:=ae hG4.1;clear hG4 hv4 ma;go_upto_region 15 with fail;refine fw 2 [_,_] [1] HO (au (Uc func106 kr rfl iw.step  (fun W  hG  => bti W)) (Am Xu ai)) ?_
   intro v5 V5 mo hv5 hne5;obtain⟨byt,e1,Zr,hz1⟩:=(show qw 113 zV V4.heap.size V5 (v5 1)from hv5 1 de)
   simp only[ay,Act.put,tA,e1];have ctj:=ae (aa ru).size;replace ru:=ae (az (aa ru) mo.2);have hO  := mo.1;replace hO:=Own.add (aa HO) mo.2 Zr hz1;clear hz1;have arb:=ae (xy (aa ctj) Zr);clear Zr;refine Nz hO 0 [] zV [.k (eK z7),.r (Rat.divInt 1 1)] [] rfl Aw rfl (show bz [.k (eK z7),.r (Rat.divInt 1 1)] V5 (v5 0)from hv5 0 de) rfl rfl rfl ?_
   intro Jv rf hk0 hb0;replace ru:=ae (hb0 _ (aa arb) (aa ru));clear hb0;replace hO:=rf;clear rf;replace HO:=ae hO;clear hO mo hv5 hne5 hk0;try clear e1;go_upto_region 16 with fail;refine fw 2 [_,_] [] HO (xh Dt uq aF (au (Ky (b:=byt) (off:=0) rfl aF rfl rfl) ai)) ?_
   intro v6 V6 qb hv6 vw;simp only[ay,Act.put,tA,show v6 1 = .pointer (some ⟨byt,7,none⟩)from hv6 1 de];have czq:=ae (aa ru).size;replace ru:=ae (az (aa ru) qb.2);have hO  := qb.1;refine Nz hO 0 [.k (eK z7)] [.r (Rat.divInt 1 1)] [.r x] [] rfl Cv rfl (show bz [.r x] V6 (v6 0)from hv6 0 de) rfl rfl rfl ?_
   intro ais rf hk0 hb0;replace ru:=ae (hb0 _ (aa arb) (aa ru));clear hb0;replace hO:=rf;clear rf;replace HO:=ae hO;clear hO qb hv6 vw hk0;have HOA:=ae (And.intro (aa HO) (aa ru));clear HO ru;go_wp2_with fail
   go_loopw [12] (fun kv wr => ∃ k:Nat,k≤n∧kv = .int .i64 ((k:Nat):Int)∧Hid (Own w [(byt,113,[.k (eK (F k)),.r (X k)]),(Iq,68,[.r x]),(w.heap.size,44,zU)] wr∧il V3 wr)) (fun kv _=>n-(intOf kv).toNat)
   case atStart=>exact⟨0,ug _,rfl,by rw[(aa HKK).f0,(aa HKK).x0];exact HOA⟩
   case round =>
    clear HOA;obtain⟨k,hk,rfl,HOA⟩:=hrel;have HK:=ae hk;clear hk;have HO:=ae (aa HOA).1;have ru:=ae (aa HOA).2;clear HOA
    by_cases g1:k<n
    ·
     have hlen:=(aa HKK).len;have d1:decide ((k:Int)<(fs.length:Int))=true:=dm om;have qp:=ae (show k<fs.length by omega);have Na:=ae g1;obtain⟨g,rfl,nm,p,u,y,hs⟩:=(aa HKK).step _ _ (aa Zm) k g1;have HS:=ae hs;clear hs hlen g1;go_upto_region 18 with fail;refine fw 4 [_,_,_,_] [] HO (dh aF (dh aF (au (bcm rfl (aT 1) rfl) (au (wu rfl (aT 0) (aT 2) rfl d1) ai)))) ?_
     intro v7 V7 vg hv7 zw;simp only[ay,Act.put,tA,exv (hv7 3 de)];have aeq:=ae (aa ru).size;replace ru:=ae (az (aa ru) vg.2);replace HO:=ae vg.1;clear vg hv7 zw;clear d1;go_upto_region 20 with fail;refine fw 10 [_,_,_,_,_,_,_,_,_,_] [9] HO (dh aF (dh aF (au (awc (i:=k) (m:=fs.length) (c:=c) rfl (aT 0) (aT 1) (aa qp) rfl) (au (axr (b:=g) (off:=2*k) rfl (aT 2) rfl rfl) (au (baw (b:=g) (o:=2*k) (fun W h=>((aa HS).at_.below (az (aa ru) h.2) (aa HS).at_.lt).1) rfl (aT 3) rfl) (au (sc1 func122 (aT 4) (fun W v0 hG h0=>by cases h0;exact(aa HS).find W)) (dh (aT 5) (pq [bz [.k (eK u),.r y],ax (.bool true)] (aT 6) (pq _ (aT 6) (Am Xu ai)))))))))) ?_
     intro v8 V8 Eb En Ju;obtain⟨csq,e9,Xh,hz9⟩:=(show qw 113 zV V7.heap.size V8 (v8 9)from En 9 de)
     simp only[ay,Act.put,tA,exv (En 8 de),e9];have aqy:=ae (aa ru).size;replace ru:=ae (az (aa ru) Eb.2);have hO  := Eb.1;replace hO:=Own.add (aa HO) Eb.2 Xh hz9;clear hz9;have aqz:=ae (xy (aa aqy) Xh);clear Xh;refine Nz hO 0 [] zV [.k (eK u),.r y] [] rfl Aw rfl (show bz [.k (eK u),.r y] V8 (v8 7)from En 7 de) rfl rfl rfl ?_
     intro air rf hk0 hb0;replace ru:=ae (hb0 _ (aa aqz) (aa ru));clear hb0;replace hO:=rf;clear rf;replace HO:=ae hO;clear hO Eb En Ju hk0;try clear e9;go_upto_region 21 with fail;refine fw 2 [_,_] [] HO (dh aF (au (tq rfl (aT 0) rfl rfl) ai)) ?_
     intro v9 V9 Rv Vn acj;simp only[ay,Act.put,tA,exv (Vn 1 de)];have bza:=ae (aa ru).size;replace ru:=ae (az (aa ru) Rv.2);replace HO:=ae Rv.1;clear Rv Vn acj;go_upto_region 23 with fail;refine Nw 8 [_,_,_,_,_,_,_,_] [] HO (xh Zb uq aF (xh Zb me0 aF (dh aF (dh aF (au (awc (i:=k) (m:=fs.length) (c:=c) rfl (aT 2) (aT 3) (aa qp) rfl) (au (Ml (b:=g) (off:=2*k) rfl (aT 4) rfl rfl) (au (cgz (b:=g) (o:=2*k+1) (fun W h=>((aa HS).at_.below (az (aa ru) h.2) (aa HS).at_.lt).2) rfl (aT 5) rfl) (au (sc3 func101 (aT 0) (aT 1) (aT 6) (fun W v0 v1 v2 hG h0 h1 h2=>by cases h2;exact(aa HS).tim W _ _ h0 h1)) ai)))))))) ?_
     intro v10 V10 Tp Zq ahv;simp only[ay,Act.put,tA];have bok:=ae (aa ru).size;replace ru:=ae (az (aa ru) Tp.2);have hO  := Tp.1;refine Nz hO 1 [] [.k (eK (F k)),.r (X k)] [.k (eK (F (k+1))),.r (X (k+1))] [] rfl Aw rfl (show bz [.k (eK (F (k+1))),.r (X (k+1))] V10 (v10 7)from Zq 7 de) rfl rfl rfl ?_
     intro boe rf hk0 hb0;replace ru:=ae (hb0 _ (aa arb) (aa ru));clear hb0;replace hO:=rf;clear rf;replace HO:=ae hO;clear hO Tp Zq ahv hk0;go_wp2_with fail
     go_roundw
     case rel =>
      exact⟨k+1,aa Na,He (aa qp) (by have:=(aa HKK).len;omega),ae ⟨(aa HO).tl,aa ru⟩⟩
     case measure =>
      have h1:=aa Na;have h2:=(aa HKK).len;clear HO;rw[Ih (aa qp) om];simp[intOf]<;>omega
    ·
     obtain rfl:k=n:=by have:=aa HK;omega
     clear g1
     rcases(aa HKK).fin with⟨hn,h3,h4⟩|⟨hn,ht,h3⟩
     ·
      have d1:decide ((k:Int)<(fs.length:Int))=false:=dw om;clear hn;go_upto_region 18 with fail;refine fw 4 [_,_,_,_] [] HO (dh aF (dh aF (au (bcm rfl (aT 1) rfl) (au (wu rfl (aT 0) (aT 2) rfl d1) ai)))) ?_
      intro v7 V7 vg hv7 zw;simp only[ay,Act.put,tA,exv (hv7 3 de)];have aeq:=ae (aa ru).size;replace ru:=ae (az (aa ru) vg.2);replace HO:=ae vg.1;clear vg hv7 zw;clear d1
      by_cases g2:uw x
      ·
       obtain⟨ht,hx⟩:=h4 g2;subst ht;have HFT:=ae g2;have HXP:=ae hx;clear h3 h4 g2 hx;go_upto_region 24 with fail;refine fw 6 [_,_,_,_,_,_] [5] HO (xh Dt uq aF (au (sc1 func125 (aT 0) (fun W v0 hG h0=>apj (aa HFT) h0)) (dh (aT 1) (pq [bz [iv x.num,iv (x.den:Int)],ax (.bool true)] (aT 2) (pq _ (aT 2) (Am Lr ai)))))) ?_
       intro v8 V8 Eb En Ju;obtain⟨csr,e5,zo,Cy⟩:=(show qw 23 zR V7.heap.size V8 (v8 5)from En 5 de)
       simp only[ay,Act.put,tA,exv (En 4 de),e5];have aqy:=ae (aa ru).size;replace ru:=ae (az (aa ru) Eb.2);have hO  := Eb.1;replace hO:=Own.add (aa HO) Eb.2 zo Cy;clear Cy;have ara:=ae (xy (aa aqy) zo);clear zo;refine Nz hO 0 [] zR [iv x.num,iv (x.den:Int)] [] rfl Gg rfl (show bz [iv x.num,iv (x.den:Int)] V8 (v8 3)from En 3 de) rfl rfl rfl ?_
       intro air rf hk0 hb0;replace ru:=ae (hb0 _ (aa ara) (aa ru));clear hb0;replace hO:=rf;clear rf;replace HO:=ae hO;clear hO Eb En Ju hk0;try clear e5;go_upto_region 25 with fail;refine fw 2 [_,_] [] HO (dh aF (au (tq rfl (aT 0) rfl rfl) ai)) ?_
       intro v9 V9 Rv Vn acj;simp only[ay,Act.put,tA,exv (Vn 1 de)];have bza:=ae (aa ru).size;replace ru:=ae (az (aa ru) Rv.2);replace HO:=ae Rv.1;clear Rv Vn acj;go_upto_region 27 with fail;refine fw 4 [_,_,_,_] [] HO (xh Zb uq aF (au (sc1 func102 (aT 0) (fun W v0 hG h0=>btm (aa HXP) W _ h0)) (pq [bz [.k (eK (xk (F k) (X k)).f),iv (xk (F k) (X k)).n,iv (xk (F k) (X k)).d],ax (.int .i64 (xk (F k) (X k)).e)] (aT 1) (pq _ (aT 1) ai)))) ?_
       intro v10 V10 Tp Zq ahv;simp only[ay,Act.put,tA,show v10 3 = .int .i64 (xk (F k) (X k)).e from Zq 3 de];have bok:=ae (aa ru).size;replace ru:=ae (az (aa ru) Tp.2);have hO  := Tp.1;refine kg hO 3 vv (Zq 2 de) ?_
       clear hO;intro boe hO hk0;replace HO:=ae hO;clear hO Tp Zq ahv hk0;go_wp2_with fail;exact vo results52 Bq rfl rfl (aa HO) Uh rfl rfl
      ·
       have ht:t=⟨z7,0,0,3⟩:=h3 g2;subst ht;have HNF:=ae g2;clear h3 h4 g2;go_upto_region 24 with fail;refine yc 6 102 (ui [bz [.r x],ko [Wm,ax (.bool false)],ko [Wm,ax (.bool false)],Wm,ax (.bool false),qw 23 zR V7.heap.size]) (iw w _ V7) il [5] kr rfl (qm.pick ⟨Ae _,rq ⟨(Wy),(fo _),trivial⟩,rq ⟨(Wy),(fo _),trivial⟩,Wy,fo _,Nf _ _ _,trivial⟩) (iw.begin (aa HO))
        (au (El Dt uq aF [] [.r x] [])
        (au (sc1 func125 (aT 0) (fun W v0 hG h0=>bcu (aa HNF) h0))
        (au (jh rfl (aT 1))
        (au (xq (ts:=[Wm,ax (.bool false)]) rfl (aT 2) (sw rfl) rfl)
        (au (xq (ts:=[Wm,ax (.bool false)]) rfl (aT 2) (sw rfl) rfl)
        (au (Ud Lr rfl iw.step iw.size rfl (Yv (by intro j hj;simp at hj;(repeat' (first|(rcases hj with rfl|hj)))<;>first|(subst hj;exact⟨_,_,_,rfl⟩)|exact⟨_,_,_,rfl⟩)))
        ai)))))) ?_
       intro v8 V8 Eb En Ju;obtain⟨csr,e5,zo,Cy⟩:=(show qw 23 zR V7.heap.size V8 (v8 5)from En 5 de)
       simp only[ay,Act.put,tA,exv (En 4 de),e5];have aqy:=ae (aa ru).size;replace ru:=ae (az (aa ru) Eb.2);have hO  := Eb.1;replace hO:=Own.add (aa HO) Eb.2 zo Cy;clear Cy;have ara:=ae (xy (aa aqy) zo);clear zo;obtain⟨bzh,bzi,hy3⟩:=(show Wm V8 (v8 3)from En 3 de)
       refine Nz hO 0 [] zR [iv bzh,iv bzi] [] rfl Gg rfl (show bz [iv bzh,iv bzi] V8 (v8 3)from hy3) rfl rfl rfl ?_
       intro air rf hk0 hb0;replace ru:=ae (hb0 _ (aa ara) (aa ru));clear hb0;replace hO:=rf;clear rf;replace HO:=ae hO;clear hO Eb En Ju hk0;try clear e5;go_upto_region 25 with fail;refine fw 2 [_,_] [] HO (dh aF (au (tq rfl (aT 0) rfl rfl) ai)) ?_
       intro v9 V9 Rv Vn acj;simp only[ay,Act.put,tA,exv (Vn 1 de)];have bza:=ae (aa ru).size;replace ru:=ae (az (aa ru) Rv.2);replace HO:=ae Rv.1;clear Rv Vn acj;go_upto_region 26 with fail;refine fw 1 [_] [] HO (au (Pv rfl rfl) ai) ?_
       intro v10 V10 Tp Zq ahv;simp only[ay,Act.put,tA];have bok:=ae (aa ru).size;replace ru:=ae (az (aa ru) Tp.2);have hO  := Tp.1;refine kg hO 3 vv (Zq 0 de) ?_
       clear hO;intro boe hO hk0;replace HO:=ae hO;clear hO Tp Zq ahv hk0;go_wp2_with fail;exact vo results52 Bq rfl rfl (aa HO) Uh rfl rfl
     ·
      subst ht;have d1:decide ((k:Int)<(fs.length:Int))=true:=dm om;have qp:=ae hn;obtain⟨g,rfl,nm,p,hat,hfd⟩:=h3 _ _ (aa Zm);have HAT:=ae hat
      have HFD:=ae hfd;clear h3 hat hfd hn;go_upto_region 18 with fail;refine fw 4 [_,_,_,_] [] HO (dh aF (dh aF (au (bcm rfl (aT 1) rfl) (au (wu rfl (aT 0) (aT 2) rfl d1) ai)))) ?_
      intro v7 V7 vg hv7 zw;simp only[ay,Act.put,tA,exv (hv7 3 de)];have aeq:=ae (aa ru).size;replace ru:=ae (az (aa ru) vg.2);replace HO:=ae vg.1;clear vg hv7 zw;clear d1;go_upto_region 20 with fail;refine fw 10 [_,_,_,_,_,_,_,_,_,_] [9] HO (dh aF (dh aF (au (awc (i:=k) (m:=fs.length) (c:=c) rfl (aT 0) (aT 1) (aa qp) rfl) (au (axr (b:=g) (off:=2*k) rfl (aT 2) rfl rfl) (au (baw (b:=g) (o:=2*k) (fun W h=>((aa HAT).below (az (aa ru) h.2) (aa HAT).lt).1) rfl (aT 3) rfl) (au (sc1 func122 (aT 4) (fun W v0 hG h0=>by cases h0;exact(aa HFD) W)) (dh (aT 5) (pq [bz zV,ax (.bool false)] (aT 6) (pq _ (aT 6) (Am Xu ai)))))))))) ?_
      intro v8 V8 Eb En Ju;obtain⟨csq,e9,Xh,hz9⟩:=(show qw 113 zV V7.heap.size V8 (v8 9)from En 9 de)
      simp only[ay,Act.put,tA,exv (En 8 de),e9];have aqy:=ae (aa ru).size;replace ru:=ae (az (aa ru) Eb.2);have hO  := Eb.1;replace hO:=Own.add (aa HO) Eb.2 Xh hz9;clear hz9;have aqz:=ae (xy (aa aqy) Xh);clear Xh;refine Nz hO 0 [] zV zV [] rfl Aw rfl (show bz zV V8 (v8 7)from En 7 de) rfl rfl rfl ?_
      intro air rf hk0 hb0;replace ru:=ae (hb0 _ (aa aqz) (aa ru));clear hb0;replace hO:=rf;clear rf;replace HO:=ae hO;clear hO Eb En Ju hk0;try clear e9;go_upto_region 21 with fail;refine fw 2 [_,_] [] HO (dh aF (au (tq rfl (aT 0) rfl rfl) ai)) ?_
      intro v9 V9 Rv Vn acj;simp only[ay,Act.put,tA,exv (Vn 1 de)];have bza:=ae (aa ru).size;replace ru:=ae (az (aa ru) Rv.2);replace HO:=ae Rv.1;clear Rv Vn acj;go_upto_region 22 with fail;refine fw 1 [_] [] HO (au (Pv rfl rfl) ai) ?_
      intro v10 V10 Tp Zq ahv;simp only[ay,Act.put,tA];have bok:=ae (aa ru).size;replace ru:=ae (az (aa ru) Tp.2);have hO  := Tp.1;refine kg hO 3 vv (Zq 0 de) ?_
      clear hO;intro boe hO hk0;replace HO:=ae hO;clear hO Tp Zq ahv hk0;go_wp2_with fail;exact vo results52 Bq rfl rfl (aa HO) Uh rfl rfl
end Sb


namespace Sb
theorem wrapM (h1 : -1000000≤z) (h2:z≤1000000):wrap64 z=z:=Cs _ om
theorem bvt {f u f':Nat→Int} {y x':Rat} (hf : ∀ j,j<7 → -200000≤f j∧f j≤200000) (hu : ∀ j,j<7 → -9≤u j∧u j≤9) (hp : -9≤p∧p≤9) (hf' : ∀ j,j<7→f' j=f j+u j*p) (sx:Ad K x) (hK:37≤K) (sy:Ad 4 y) (hy:y.num≠0) (hx:x'=x*Ec y p) (W:Wq) (v0 v1:Value) (h0:bz [.k (eK f),.r x] W v0) (h1:bz [.k (eK u),.r y] W v1) :
  Calls prog 101 #[v0,v1,.int .i64 p] W (gp (bz [.k (eK f'),.r x']) W):=by
 subst hx
 have hpw:Ad 37 (Ec y p):=Ad.Ec (K:=4) (b:=9) sy hy ⟨by omega,by omega⟩ (by omega)
 have hm : ∀ j,j<7 → -81≤u j*p∧u j*p≤81:=fun j hj=>atz (hu j hj) hp
 exact blv (pp:=fun j=>u j*p) (y2:=Ec y p) W v0 h0 v1 h1 ⟨fun j hj=>by rw[Xr];exact wrapM (by have:=hm j hj;omega) (by have:=hm j hj;omega),fun j hj=>by
   have h2:=hm j hj;have h3:=hf j hj;rw[hf' j hj];exact wrapM om om⟩
  (fun W v0 hb h0=>brg (K:=3) (b:=9) sy hy ⟨by omega,by omega⟩ (by omega) om W v0 h0)
  (fun W v0 v1 hb h0 h1=>bma sx (Ad.mono hpw hK sx.2) h0 h1)
theorem azf (hx:Ad 6 x) (hp : ∀ f∈fs,-9≤f.2∧f.2≤9) : ∀ n,n≤1300→(∀ k f,k<n→fs[k]? = some f → ∃ u y,Af f.1=some (u,y))→Ad (37*n+40) (x*Gp (fs.take n))
 | 0,_,_=>by
  rw[Nu,show Gp []=jw 1 1 from rfl,show jw 1 1=(1:Rat)from rfl,Rat.mul_one];exact hx.mono om om
 | n+1,hn,h=>by
  have ih:=azf hx hp n om fun k f hk=>h k f om
  rw[Pk]
  cases e:fs[n]? with
  | none =>
   rw[show(none:Option (ByteArray×Int)).toList=[]from rfl,Oz];exact ih.mono om om
  | some f =>
   obtain⟨u,y,hu⟩:=h n f om e;obtain⟨o1,o2,o3⟩:=aky hu;have hpf:=hp f (Kt e);have hpw:Ad 37 (Ec y f.2):=Ad.Ec (K:=4) (b:=9) o2 (Qu o3) ⟨by omega,by omega⟩ (by omega);rw[show(some f).toList=[f]from rfl,Zk,Zi hu,← Rat.mul_assoc];exact(Ad.bdi ih hpw om).mono om om
theorem bft : ∀ n,(∀ k f,k<n→fs[k]? = some f → ∃ u y,Af f.1=some (u,y))→0<Gp (fs.take n)
 | 0,_=>by rw[Nu];exact aks Ou om
 | n+1,h=>by
  have ih:=bft n fun k f hk=>h k f om
  rw[Pk]
  cases e:fs[n]? with
  | none=>rw[show(none:Option (ByteArray×Int)).toList=[]from rfl,Oz];exact ih
  | some f =>
   obtain⟨u,y,hu⟩:=h n f om e;rw[show(some f).toList=[f]from rfl,Zk,Zi hu];exact Rat.mul_pos ih (bwh (aky hu).2.2 _)
theorem axn (hx:Ad 6 x) (hp : ∀ f∈fs,-9≤f.2∧f.2≤9) (hl:fs.length≤1300) (hn:n≤fs.length) (hk : ∀ k f,k<n→fs[k]? = some f → ∃ u y,Af f.1=some (u,y)) (W:Wq) (ao:Option Addr) (hf:Pj W ao fs) :
  ∀ k,k<n → ∃ g,ao=some ⟨g,0,none⟩ ∧ ∃ nm p u y,cbo W g k nm p (Ew (fs.take k)) (x*Gp (fs.take k)) u y (Ew (fs.take (k+1))) (x*Gp (fs.take (k+1))):=fun k hkn=>by
 obtain⟨f,e⟩ : ∃ f,fs[k]? = some f:=⟨_,Cj om⟩
 obtain⟨u,y,hu⟩:=hk k f hkn e
 obtain⟨g,eg,hat⟩:=hf k f e
 obtain⟨o1,o2,o3⟩:=aky hu
 have hpf:=hp f (Kt e)
 have ha:=aim hp k fun i x hi=>hk i x om
 have har:=azf hx hp k om fun i x hi=>hk i x om
 have hgu:=Zi hu
 have hlt:(fs.take k).length≤1300:=by rw[uy];omega
 have ht:fs.take (k+1)=fs.take k++[f]:=by rw[Pk,e];rfl
 rw[ht]
 refine⟨g,eg,f.1,f.2,u,y,hat,fun W => ?_,fun W v0 v1 h0 h1=>bvt (fun j hj=>by have h2:=ha.bd j hj;omega) o1 hpf (fun j hj=>by rw[aly,hgu]) har om o2 (Qu o3) (by rw[Zk,hgu,Rat.mul_assoc]) W v0 v1 h0 h1⟩
 have h9:=alo f.1.data.toList W
 rw[show tx f.1.data.toList=f.1 from Fz f.1,hu]at h9
 exact h9
noncomputable def anf (x:Rat) (o2:Option (List (ByteArray×Int))):Xy:=match o2 with
 | none=>⟨z7,0,0,2⟩
 | some fs=>if Mc fs=true then(if uw x then xk (Ew fs) (x*Gp fs)else⟨z7,0,0,3⟩)else⟨z7,0,0,4⟩
theorem ayx (hx:Ad 6 x) (hx0:0<x) (hp : ∀ f∈fs,-9≤f.2∧f.2≤9) (hl:fs.length≤1300) : ∃ n F X,cci x fs (anf x (some fs)) n F X:=by
 have h0:Ew (fs.take 0)=z7:=by rw[Nu];rfl
 have h1:x*Gp (fs.take 0)=x:=by rw[Nu,show Gp []=jw 1 1 from rfl,show jw 1 1=(1:Rat)from rfl,Rat.mul_one]
 have key:anf x (some fs)=if Mc fs=true then(if uw x then xk (Ew fs) (x*Gp fs)else⟨z7,0,0,3⟩)else⟨z7,0,0,4⟩:=rfl
 rcases apq fs with hk|⟨n,y,e1,e2,e3⟩
 ·
  have hkn:Mc fs=true:=Hd.2 fun f hf=>by
   obtain⟨k,hk1,hk2⟩:=List.mem_iff_getElem.1 hf;obtain⟨u,y,h⟩:=hk k f hk1 (by rw[Cj hk1,hk2]);rw[h];rfl
  rw[if_pos hkn]at key;refine⟨fs.length,fun k=>Ew (fs.take k),fun k=>x*Gp (fs.take k),⟨hl,gu _⟩,h0,h1,axn hx hp hl (gu _) hk,.inl ⟨rfl,fun hf=>by rw[key,if_neg hf],fun hf=>⟨by rw[key,if_pos hf];show _=xk (Ew (fs.take fs.length)) (x*Gp (fs.take fs.length));rw[abq],?_⟩⟩⟩
  exact Rat.mul_pos hx0 (bft fs.length hk)
 ·
  have hn:n<fs.length:=by
   rcases Fa n fs.length with h|h
   ·
    exact h
   ·
    rw[Ha h]at e1;cases e1
  have hkn : ¬ Mc fs=true:=fun h=>by
   have:=Hd.1 h y (Kt e1);rw[e2]at this
   cases this
  rw[if_neg hkn]at key;refine⟨n,fun k=>Ew (fs.take k),fun k=>x*Gp (fs.take k),⟨hl,by omega⟩,h0,h1,axn hx hp hl om e3,.inr ⟨hn,key,fun W ao hf => ?_⟩⟩
  obtain⟨g,eg,hat⟩:=hf n y e1;refine⟨g,eg,y.1,y.2,hat,fun W' => ?_⟩
  have h9:=alo y.1.data.toList W';rw[show tx y.1.data.toList=y.1 from Fz y.1,e2]at h9;exact h9
theorem cej (h:0<x.num):0<x:=by
 have h0:0≤x:=ajl.1 om
 have h1:x≠0:=fun e=>by rw[e]at h;exact absurd h de
 grind
theorem cdx:jw x.num (x.den:Int)=x:=Uw x
theorem bll {s:ByteArray} {t1 t2:Xy} (w:Wq) (hT:yg w) (h1 : ∀ W,yg W→Calls prog 50 #[.string s] W (gp (Kg t1) W)) (h2 : ∀ W,Calls prog 51 #[.string s] W (gp (Kg t1) W)) (h3 : ∀ W,yg W→Calls prog 49 #[.string s] W (gp (Kg t2) W)) (h4 : ∀ W,Calls prog 52 #[.string s] W (gp (Kg t2) W)) :
  Calls prog 10 #[.string s] w (gp (ax (.bool true)) w):=by
 have HT:=ae hT
 have H1:=ae h1
 have H2:=ae h2
 have H3:=ae h3
 have H4:=ae h4
 clear hT h1 h2 h3 h4
 go_enter func10,ntmps10
 go_upto_region 1 with fail
 have hO:=(Own.nil w)
 have HO:=ae hO
 clear hO
 go_upto_region 1 with fail
 refine yc 26 28 (ui [ax (.string s),ko [bz [.k (eK t1.f),iv t1.n,iv t1.d],ax (.int .i64 t1.e)],bz [.k (eK t1.f),iv t1.n,iv t1.d],ax (.int .i64 t1.e),bgx t1.f t1.n t1.d t1.e,ax (.string s),ko [bz [.k (eK t1.f),iv t1.n,iv t1.d],ax (.int .i64 t1.e)],bz [.k (eK t1.f),iv t1.n,iv t1.d],ax (.int .i64 t1.e),ax (.bool true),ax (.bool true),ax (.string s),ko [bz [.k (eK t2.f),iv t2.n,iv t2.d],ax (.int .i64 t2.e)],bz [.k (eK t2.f),iv t2.n,iv t2.d],ax (.int .i64 t2.e),bgx t2.f t2.n t2.d t2.e,ax (.string s),ko [bz [.k (eK t2.f),iv t2.n,iv t2.d],ax (.int .i64 t2.e)],bz [.k (eK t2.f),iv t2.n,iv t2.d],ax (.int .i64 t2.e),ax (.bool true),ax (.bool true),ax (.bool true),ax (.bool true),ax (.bool true),ax (.bool true)]) (iw w _ w) il [] kr rfl (qm.pick ⟨fo _,rq ⟨(Ae _),(fo _),trivial⟩,Ae _,fo _,bca,fo _,rq ⟨(Ae _),(fo _),trivial⟩,Ae _,fo _,fo _,fo _,fo _,rq ⟨(Ae _),(fo _),trivial⟩,Ae _,fo _,bca,fo _,rq ⟨(Ae _),(fo _),trivial⟩,Ae _,fo _,fo _,fo _,fo _,fo _,fo _,fo _,trivial⟩) (iw.begin (aa HO))
  (au (jh rfl aF)
  (au (sc1 func50 (aT 0) (fun W v0 hG h0=>by cases h0;exact(aa H1) W ((aa HT).below hG.bel)))
  (au (xq (ts:=[bz [.k (eK t1.f),iv t1.n,iv t1.d],ax (.int .i64 t1.e)]) rfl (aT 1) (sw rfl) rfl)
  (au (xq (ts:=[bz [.k (eK t1.f),iv t1.n,iv t1.d],ax (.int .i64 t1.e)]) rfl (aT 1) (sw rfl) rfl)
  (au (sc2 func32 (aT 2) (aT 3) (fun W v0 v1 hG h0 h1=>cbf W _ h0 _ h1))
  (au (jh rfl aF)
  (au (sc1 func51 (aT 5) (fun W v0 hG h0=>by cases h0;exact(aa H2) W))
  (au (xq (ts:=[bz [.k (eK t1.f),iv t1.n,iv t1.d],ax (.int .i64 t1.e)]) rfl (aT 6) (sw rfl) rfl)
  (au (xq (ts:=[bz [.k (eK t1.f),iv t1.n,iv t1.d],ax (.int .i64 t1.e)]) rfl (aT 6) (sw rfl) rfl)
  (au (biu rfl iw.step (aT 4) (aT 7) (aT 8) rfl)
  (au (jh rfl (aT 9))
  (oh (Cr (d:=13) rfl kr rfl (jh rfl aF))
  (oh (Cr (d:=13) rfl kr rfl (Ei func49 kr rfl iw.step (aT 11) (fun W v0 hG h0=>by cases h0;exact(aa H3) W ((aa HT).below hG.bel))))
  (oh (Cr (d:=13) rfl kr rfl (xq (ts:=[bz [.k (eK t2.f),iv t2.n,iv t2.d],ax (.int .i64 t2.e)]) rfl (aT 12) (sw rfl) rfl))
  (oh (Cr (d:=13) rfl kr rfl (xq (ts:=[bz [.k (eK t2.f),iv t2.n,iv t2.d],ax (.int .i64 t2.e)]) rfl (aT 12) (sw rfl) rfl))
  (oh (Cr (d:=13) rfl kr rfl (Ol func32 kr rfl iw.step (aT 13) (aT 14) (fun W v0 v1 hG h0 h1=>cbf W _ h0 _ h1)))
  (oh (Cr (d:=13) rfl kr rfl (jh rfl aF))
  (oh (Cr (d:=13) rfl kr rfl (Ei func52 kr rfl iw.step (aT 16) (fun W v0 hG h0=>by cases h0;exact(aa H4) W)))
  (oh (Cr (d:=13) rfl kr rfl (xq (ts:=[bz [.k (eK t2.f),iv t2.n,iv t2.d],ax (.int .i64 t2.e)]) rfl (aT 17) (sw rfl) rfl))
  (oh (Cr (d:=13) rfl kr rfl (xq (ts:=[bz [.k (eK t2.f),iv t2.n,iv t2.d],ax (.int .i64 t2.e)]) rfl (aT 17) (sw rfl) rfl))
  (oh (Cr (d:=13) rfl kr rfl (biu rfl iw.step (aT 15) (aT 18) (aT 19) rfl))
  (au (qj rfl (aT 10) (aT 20))
  (au (jh rfl (aT 21))
  (oh (Cr (d:=25) rfl kr rfl (Uc func43 kr rfl iw.step  (fun W  hG  => bse W ((aa HT).below hG.bel))))
  (au (qj rfl (aT 22) (aT 23))
  (au (zu rfl (aT 24))
  ai)))))))))))))))))))))))))) ?_
 intro v1 V1 hG1 hv1 hne1
 simp only[ay,Act.put,tA]
 have e24:v1 24 = .bool true:=hv1 24 de
 have e25:v1 25 = .bool true:=hv1 25 de
 simp only[e24,e25]
 have hO:=hG1.1
 clear HO
 have HO:=ae hO
 clear hO hG1 hv1 hne1
 try clear e24 e25
 go_wp2_with fail
 exact Ka results10 rfl (aa HO).bel rfl
end Sb



theorem aao (h:Ex w b q) (hb:Below w.heap.size w w'):Ex w' b q:=Ex.below h hb
theorem anq {A2a:Option Addr} {c2a:Nat} {l2a:List Nat} {m2a:Bool} {A2b:Option Addr} {c2b:Nat} {l2b:List Nat} {m2b:Bool} {x2:Rat} (hq:Ex W b q) (hv:QV W A2a c2a l2a m2a A2b c2b l2b m2b x2) (hb:Below B w W) (hB:B≤b) (hBW:B≤W.heap.size):Ex ((((W.setCell ⟨b,0,none⟩ (.slice A2a l2a.length c2a)).setCell ⟨b,1,none⟩ (.bool m2a)).setCell ⟨b,2,none⟩ (.slice A2b l2b.length c2b)).setCell ⟨b,3,none⟩ (.bool m2b)) b x2∧Below B w ((((W.setCell ⟨b,0,none⟩ (.slice A2a l2a.length c2a)).setCell ⟨b,1,none⟩ (.bool m2a)).setCell ⟨b,2,none⟩ (.slice A2b l2b.length c2b)).setCell ⟨b,3,none⟩ (.bool m2b)):=by
 obtain⟨A,c,l,m,A',c',l',m',h1,h2⟩:=hq
 have hg:=jo W b (.slice A2a l2a.length c2a) (.bool m2a) (.slice A2b l2b.length c2b) (.bool m2b)
 exact⟨⟨_,_,_,_,_,_,_,_,ath h1,hv.upto h1 (De _ _ _ _ _ _ _ _) hg⟩,hb.grown hg hBW (fun k hk=>by injection hk with hk;omega)⟩

def QVR (w:Wq) (q:Rat) (e:Ending) (w':Wq):Prop := ∃ A1 c1 l1 m1 A2 c2 l2 m2,e = .returned (Value.agg #[.slice A1 (List.length l1) c1,.bool m1,.slice A2 (List.length l2) c2,.bool m2])∧QV w' A1 c1 l1 m1 A2 c2 l2 m2 (q)∧Below w.heap.size w w'
theorem cdw (W:Wq):QV W none 0 [] false none 0 [] false (Rat.divInt (0) 1):=by
 have h0:kz W none 0 [] false 0:=⟨xx.aeg W 0 om,rfl⟩
 obtain⟨o1,o2⟩:=Cq 0
 exact⟨by rw[o1];exact h0,0,h0,.inr ⟨rfl,by omega⟩⟩
theorem bto (h:W.heap[b]? = some (.cells #[.slice none 0 0,.bool false,.slice none 0 0,.bool false] 68 (0,0))):Ex W b (Rat.divInt (0) 1) :=
 ⟨none,0,[],false,none,0,[],false,h,cdw W⟩
open Sb in
theorem bpd (A1:Option Addr) (c1:Nat) (l1:List Nat) (m1:Bool) (A2:Option Addr) (c2:Nat) (l2:List Nat) (m2:Bool) (A3:Option Addr) (c3:Nat) (l3:List Nat) (m3:Bool) (A4:Option Addr) (c4:Nat) (l4:List Nat) (m4:Bool) (a b:Int) (K L:Nat) (w:Wq) (h1:QV w A1 c1 l1 m1 A2 c2 l2 m2 (Rat.divInt (a) 1)) (h2:QV w A3 c3 l3 m3 A4 c4 l4 m4 (Rat.divInt (b) 1)) (sa:je dz K a) (sb:je dz L b) (hK:K+L≤35184372088832) :
  Calls prog 62 #[(Value.agg #[.slice A1 l1.length c1,.bool m1,.slice A2 l2.length c2,.bool m2]),(Value.agg #[.slice A3 l3.length c3,.bool m3,.slice A4 l4.length c4,.bool m4])] w fun e w'=>QR w (Rat.divInt (a*b) 1) e w':=by
 obtain⟨o1,o2⟩:=Cq a
 obtain⟨o3,o4⟩:=Cq b
 obtain⟨d1,q1,g1⟩:=Vg h1
 obtain⟨d2,q2,g2⟩:=Vg h2
 have e:Rat.divInt (a) 1*Rat.divInt (b) 1=Rat.divInt (a*b) 1:=by rw[ajo,aae]
 rw[← e]
 exact(axx (s:=0) (m3:=0) (a:=(Rat.divInt (a) 1*Rat.divInt (b) 1).num) (b:=((Rat.divInt (a) 1*Rat.divInt (b) 1).den:Int)) w _ g1 _ g2 (Sl w q1) (Sl w q2) (Un w rfl) (Un w rfl) (.inl ⟨dm o2,dm o4,(aio o2 o4).2,Wo (Vi (by rw[o1];exact sa) (by rw[o3];exact sb) hK (aio o2 o4).1.symm)⟩)).mono fun e w' h=>afh h
open Sb in
theorem bpf (A1:Option Addr) (c1:Nat) (l1:List Nat) (m1:Bool) (A2:Option Addr) (c2:Nat) (l2:List Nat) (m2:Bool) (A3:Option Addr) (c3:Nat) (l3:List Nat) (m3:Bool) (A4:Option Addr) (c4:Nat) (l4:List Nat) (m4:Bool) (a b:Int) (K L:Nat) (w:Wq) (h1:QV w A1 c1 l1 m1 A2 c2 l2 m2 (Rat.divInt (a) 1)) (h2:QV w A3 c3 l3 m3 A4 c4 l4 m4 (Rat.divInt (b) 1)) (sa:je dz K a) (sb:je dz L b) (hK:K+L+1≤35184372088832) :
  Calls prog 60 #[(Value.agg #[.slice A1 l1.length c1,.bool m1,.slice A2 l2.length c2,.bool m2]),(Value.agg #[.slice A3 l3.length c3,.bool m3,.slice A4 l4.length c4,.bool m4])] w fun e w'=>QR w (Rat.divInt (a+b) 1) e w':=by
 obtain⟨o1,o2⟩:=Cq a
 obtain⟨o3,o4⟩:=Cq b
 obtain⟨d1,q1,g1⟩:=Vg h1
 obtain⟨d2,q2,g2⟩:=Vg h2
 have e:Rat.divInt (a) 1+Rat.divInt (b) 1=Rat.divInt (a+b) 1:=by rw[bbg _ _ om om,amw,amw,amw]
 rw[← e]
 exact(axy (m1:=0) (m2:=0) (s:=0) (m3:=0) (a:=(Rat.divInt (a) 1+Rat.divInt (b) 1).num) (b:=((Rat.divInt (a) 1+Rat.divInt (b) 1).den:Int)) w _ g1 _ g2 (Sl w q1) (Sl w q2) (Un w rfl) (Un w rfl) (.inl ⟨dm o2,dm o4,(aiq o2 o4).2,Wo (bda (by rw[o1];exact sa) (by rw[o3];exact sb) hK (aiq o2 o4).1.symm)⟩)).mono fun e w' h=>afh h
theorem agz (n:Int) (W:Wq) (b1 : -9223372036854775808≤n) (b2:n≤9223372036854775807) :
  Calls prog 95 #[.int .i64 n] W fun e w'=>QR W (Rat.divInt (n) 1) e w' :=
 apd n _ W b1 b2 (Cq n).1.symm (Cq n).2.symm
theorem afd (h:n<10^k):je dz (k/9+1) (n:Int):=by
 have h1:10^k≤10^(9*(k/9+1)):=Ho om om
 have h2:(10:Nat)^(9*(k/9+1))=(10^9)^(k/9+1):=Nat.pow_mul 10 9 _
 have h3:(10^9)^(k/9+1)≤dz^(k/9+1):=Nat.pow_le_pow_left (by rw[fu];decide) _
 unfold je
 rw[Fq]
 rw[h2]at h1
 exact zh h (xy h1 h3)
theorem ahc (h:z.natAbs<4294967296):je dz 1 z:=by
 unfold je;rw[Rh,fu];exact h

theorem Vb (c:Nat) (b:Bool) (w:Wq) (hb:b=(decide (48≤(c:Int))&&decide ((c:Int)≤57))) :
  Calls prog 161 #[.int .u8 (c:Int)] w fun e w'=>e = .returned (.bool b)∧w'=w:=by
 by_cases h1:48≤(c:Int)
 ·
  have d1:decide (48≤(c:Int))=true:=dm h1;have d1':decide (48≤c)=true:=dm om;rw[d1,ana]at hb
  by_cases h2:(c:Int)≤57
  ·
   have d2:decide ((c:Int)≤57)=true:=dm h2;have d2':decide (c≤57)=true:=dm om;rw[d2]at hb;subst hb;clear h1 h2
   go_enter func161,ntmps161
   go_wp2
   all_goals first|go_ret|skip
   all_goals exact⟨rfl,rfl⟩
  ·
   have d2:decide ((c:Int)≤57)=false:=dw h2;have d2':decide (c≤57)=false:=dw om;rw[d2]at hb;subst hb;clear h1 h2
   go_enter func161,ntmps161
   go_wp2
   all_goals first|go_ret|skip
   all_goals exact⟨rfl,rfl⟩
 ·
  have d1:decide (48≤(c:Int))=false:=dw h1;have d1':decide (48≤c)=false:=dw om;rw[d1,bas]at hb;subst hb;clear h1
  go_enter func161,ntmps161
  go_wp2
  all_goals first|go_ret|skip
  all_goals exact⟨rfl,rfl⟩

end Go.Proofs.YtfgeaakhlcaibaaGreatDoor
namespace Go.Proofs.YtfgeaakhlcaibaaGreatDoor
open Go.Proofs.Tryz
open Go renaming World → Wq
variable {x q:Rat} {a t r:List UInt8} {W w w' W':Wq} {z p:Int} {fs:List (ByteArray×Int)} {b K k n B m c1 c2:Nat} {c:UInt8} {P:Program} {A1 A2:Option Addr} {l1 l2:List Nat} {m1 m2:Bool} {o:Option Rat}

structure ada (l a r:List UInt8):Prop where
 eq:l=a++r
 dig:a.all mf=true
 stop : ∀ c,r.head? = some c→mf c=false
theorem Gb {l:List UInt8} (h:uf l=true):l.all mf=true:=(uj.1 (yo.1 h).1).2.2
theorem aej : ∀ (a r p:List UInt8) (x:UInt8) (b:List UInt8),a++r=p++x::b→a.all mf=true→(∀ c,r.head? = some c→mf c=false)→p.all mf=true→mf x=false→p=a∧r=x::b
 | [],r,[],x,b,h,_,_,_,_=>⟨rfl,h⟩
 | [],r,y::p,x,b,h,_,hr,hp,_=>by
  rw[Pm]at h;have h1:=hr y (by rw[h];rfl);rw[Xq,h1]at hp;cases hp
 | z::a,r,[],x,b,h,ha,_,_,hx=>by
  have h1:z=x:=(ark h).1;rw[Xq,h1,hx]at ha;cases ha
 | z::a,r,y::p,x,b,h,ha,hr,hp,hx=>by
  obtain⟨h1,h2⟩:=ark h;rw[Xq,Bz]at ha hp;obtain⟨e1,e2⟩:=aej a r p x b h2 ha.2 hr hp.2 hx;exact⟨by rw[e1,h1],e2⟩
theorem bhs : ∀ (a r:List UInt8),(a++r).all mf=true→(∀ c,r.head? = some c→mf c=false)→r=[]
 | a,[],_,_=>rfl
 | a,c::r,h,hr=>by
  have h1:=hr c rfl;rw[amt,Xq,h1,bas,arx]at h;cases h
theorem afz:mf 47=false:=by decide
theorem axc:mf 46=false:=by decide
theorem Jq (h:a.all mf=true) (hc:mf c=false):c ∉ a:=fun hm=>by
 have:=Hd.1 h c hm
 rw[hc]at this;cases this
theorem amg (c:UInt8) : ∀ l:List UInt8,c∈l → ∃ a b,l=a++c::b∧c ∉ a
 | [],h=>by cases h
 | x::l,h=>by
  by_cases hx:x=c
  ·
   exact⟨[],l,by rw[hx];rfl,by simp⟩
  ·
   have h2:c∈l:=by
    rcases yx.1 h with h|h
    ·
     exact absurd h.symm hx
    ·
     exact h
   obtain⟨a,b,e,hn⟩:=amg c l h2;refine⟨x::a,b,by rw[e];rfl,fun hm => ?_⟩
   rcases yx.1 hm with hm|hm
   ·
    exact hx hm.symm
   ·
    exact hn hm
theorem aek {l:List UInt8} (h:ada l a r) (hq:ou l=some q):uf a=true∧(r=[]∨(∃ t,r=47::t)∨(∃ t,r=46::t∧47 ∉ l)):=by
 obtain⟨e,ha,hr⟩:=h
 by_cases h47:47∈l
 ·
  obtain⟨p,b,e1,hn⟩:=amg 47 l h47;rw[Iu e1 hn]at hq
  split at hq
  ·
   rename_i hc;rw[Bz,Bz]at hc;obtain⟨e2,e3⟩:=aej a r p 47 b (by rw[← e,e1]) ha hr (Gb hc.1.1) afz;exact⟨by rw[← e2];exact hc.1.1,.inr (.inl ⟨b,e3⟩)⟩
  ·
   cases hq
 ·
  by_cases h46:46∈l
  ·
   obtain⟨p,b,e1,hn⟩:=amg 46 l h46;rw[Ry h47 e1 hn]at hq
   split at hq
   ·
    rename_i hc;rw[Bz]at hc;obtain⟨e2,e3⟩:=aej a r p 46 b (by rw[← e,e1]) ha hr (Gb hc.1) axc;exact⟨by rw[← e2];exact hc.1,.inr (.inr ⟨b,e3,h47⟩)⟩
   ·
    cases hq
  ·
   rw[Ko h47 h46]at hq
   split at hq
   ·
    rename_i hc;have e2:=bhs a r (by rw[← e];exact Gb hc) hr;rw[e2,Oz]at e;exact⟨by rw[← e];exact hc,.inl e2⟩
   ·
    cases hq
theorem ain {α:Type} {o:Option α} (h : ∀ q,o≠some q):o=none:=by
 cases o with
 | none=>rfl
 | some q=>exact absurd rfl (h q)
theorem bhv {l:List UInt8} (h:ada l a r) (hn:uf a=false):ou l=none :=
 ain fun q hq=>by rw[(aek h hq).1]at hn;cases hn
theorem bhu {l:List UInt8} (h:ada l a []):ou l=if uf a=true then some (Rat.divInt (ll a:Nat) 1)else none:=by
 obtain⟨e,ha,_⟩:=h
 rw[Oz]at e
 rw[e]
 exact Ko (Jq ha afz) (Jq ha axc)
theorem bny {l:List UInt8} (h:ada l a (47::t)):ou l=if (uf a&&uf t && !(t==[48]))=true then some (Rat.divInt (ll a:Nat) (ll t:Nat))else none :=
 Iu h.eq (Jq h.dig afz)
theorem bnz {l:List UInt8} (h:ada l a (46::t)):ou l=if (uf a&&Cg t 12)=true then some (Rat.divInt (ll (a++t):Nat) ((10^t.length:Nat):Int))else none:=by
 by_cases h47:47∈l
 ·
  have h1:Cg t 12=false:=by
   cases hd:Cg t 12 with
   | false=>rfl
   | true =>
    exfalso;rw[h.eq]at h47
    rcases Ku.1 h47 with hm|hm
    ·
     exact Jq h.dig afz hm
    ·
     rcases yx.1 hm with hm|hm
     ·
      exact absurd hm de
     ·
      exact Jq (uj.1 hd).2.2 afz hm
  rw[h1,arx];refine ain fun q hq => ?_
  rcases(aek h hq).2 with e|⟨t',e⟩|⟨t',e,hn⟩
  ·
   cases e
  ·
   exact absurd (ark e).1 de
  ·
   exact hn h47
 ·
  exact Ry h47 h.eq (Jq h.dig axc)
theorem azy {l:List UInt8} (h:ada l a (c::t)) (h1:c≠47) (h2:c≠46):ou l=none :=
 ain fun q hq=>by
  rcases(aek h hq).2 with e|⟨t',e⟩|⟨t',e,hn⟩
  ·
   cases e
  ·
   exact h1 (ark e).1
  ·
   exact h2 (ark e).1
theorem axa (a b:List UInt8):ll (a++b)=ll a*10^b.length+ll b:=by
 show List.foldl _ 0 (a++b)=_
 rw[bab]
 exact ama b (ll a)
theorem ady (h:a.all mf=true):uf a=(decide (1≤a.length)&&decide (a.length≤20) && !(decide (a.head? = some 48)&&decide (1<a.length))):=by
 rw[Bool.eq_iff_iff,yo,uj]
 simp only[Bz,agq,bku,Ey,aru]
 constructor
 ·
  rintro⟨⟨h1,h2,_⟩,h3⟩;refine⟨⟨h1,by omega⟩,fun h4 => ?_⟩
  rcases h3 with h3|h3
  ·
   rw[h3];simp
  ·
   exact absurd h4 h3
 ·
  rintro⟨⟨h1,h2⟩,h3⟩;refine⟨⟨h1,by omega,h⟩,?_⟩
  by_cases h4:a.head? = some 48
  ·
   left
   have h5:=h3 h4
   match a,h1,h4,h5 with
   | [c],_,h4,_=>rw[Az h4]
   | c::d::l,_,_,h5=>exact absurd (show 1<(c::d::l).length by simp) h5
  ·
   exact .inr h4
theorem aqo (h:uf t=true):ll t=0↔t=[48]:=by
 constructor
 ·
  intro e
  by_cases hz:t=[48]
  ·
   exact hz
  ·
   have:=acw h hz;omega
 ·
  intro e;rw[e];rfl
end Go.Proofs.YtfgeaakhlcaibaaGreatDoor
namespace Go.Proofs.YtfgeaakhlcaibaaGreatDoor
open Go.RowKit
open Go.Proofs.Tryz
open Go renaming World → Wq
variable {x q:Rat} {a t r:List UInt8} {W w w' W':Wq} {z p:Int} {fs:List (ByteArray×Int)} {b K k n B m c1 c2:Nat} {c:UInt8} {P:Program} {A1 A2:Option Addr} {l1 l2:List Nat} {m1 m2:Bool} {o:Option Rat}

theorem buu (h : -9223372036854775808≤z∧z≤9223372036854775807):wrap64 z=z∧IntKind.i64.wrap z=z:=⟨Cs _ h,Es _ h⟩
def ctt (w:Wq) (l:List UInt8) (e:Ending) (w':Wq):Prop :=
 (l.all mf=true ∧ ∃ A1 c1 l1 m1 A2 c2 l2 m2,e = .returned (.tuple #[(Value.agg #[.slice A1 (List.length l1) c1,.bool m1,.slice A2 (List.length l2) c2,.bool m2]),.bool (decide (0<l.length))])∧QV w' A1 c1 l1 m1 A2 c2 l2 m2 (Rat.divInt ((ll l:Nat)) 1)∧Below w.heap.size w w') ∨
 (l.all mf=false∧e = .returned (.tuple #[(Value.agg #[.slice none 0 0,.bool false,.slice none 0 0,.bool false]),.bool false])∧Below w.heap.size w w')

theorem aog (s:ByteArray) (w:Wq) (hs:s.size≤140737488351232) :
  Calls prog 163 #[.string s] w fun e w'=>ctt w s.data.toList e w':=by
 have bgj:=ae (fun W=>agz 10 W om om)
 have Cn:=ae hs
 clear hs
 go_enter func163,ntmps163
 go_upto_region 2 with fail
 obtain⟨nr,no,hsz,hw0⟩:=Ci w (.cells #[.slice none 0 0,.bool false,.slice none 0 0,.bool false] 68) (.cells #[.slice none 0 0,.bool false,.slice none 0 0,.bool false] 68)
 generalize ((w.alloc (.cells #[.slice none 0 0,.bool false,.slice none 0 0,.bool false] 68)).alloc (.cells #[.slice none 0 0,.bool false,.slice none 0 0,.bool false] 68))=W0 at *
 have HW0:=ae hw0;have NR:=ae nr
 have hbx:=bto no
 clear hsz nr no
 go_wp2_with fail
 go_loopw [5] (fun iv wr => ∃ k:Nat,k≤s.size∧iv = .int .i64 (k:Int)∧Ex wr (w.heap.size+1) (Rat.divInt ((ll (s.data.toList.take k):Nat)) 1)∧Hid ((s.data.toList.take k).all mf=true)∧Hid (Below (w.heap.size+1) W0 wr)) (fun iv _=>s.size-(intOf iv).toNat)
 case atStart=>exact⟨0,ug _,by first|rfl|go_num,by first|exact hbx|exact hbx.below (df _ _).drew,rfl,by first|exact ae (df _ _)|exact ae (df _ _).drew⟩
 case round =>
  obtain⟨k,hk,rfl,hbq,hall,hgr⟩:=hrel;have hwr:Below w.heap.size w wr:=(aa HW0).trans ((aa hgr).mono om);have hgs:=(aa hgr).size;have hq1:w.heap.size+1<wr.heap.size:=by obtain⟨A1,c1,l1,m1,A2,c2,l2,m2,j1,_⟩:=hbq;exact lt_of_block j1
  by_cases hlt:k<s.size
  ·
   have d1:decide ((k:Int)<(s.size:Int))=true:=dm om;have d2:decide (k<s.size)=true:=dm hlt
   cases hdg:mf s[k]with
   | false =>
    have HN:=bg (azc s k hlt hdg);have HID:=ae (fun W=>Vb s[k].toNat false W (by rw[← hdg];rfl));have jr:=((aa hgr).block w.heap.size om).trans (aa NR);have r0:wr.cell? ⟨w.heap.size,0,none⟩=some (.slice none 0 0):=ag jr 0;have Jn:=ah jr 0;have r1:wr.cell? ⟨w.heap.size,1,none⟩=some (.bool false):=ag jr 1;have Jm:=ah jr 1;have r2:wr.cell? ⟨w.heap.size,2,none⟩=some (.slice none 0 0):=ag jr 2;have Ll:=ah jr 2;have r3:wr.cell? ⟨w.heap.size,3,none⟩=some (.bool false):=ag jr 3;have Ms:=ah jr 3;have lu:=bg jr;have qr:=lt_of_block jr;clear hdg hbq hall jr
    go_wp2_with (go_at_call 161;refine((aa HID) _).mono ?_;rintro e w' ⟨rfl,hww⟩;replace hww:=hww.symm;subst hww)
    exact bodyPost_ret (v := .tuple #[(Value.agg #[.slice none 0 0,.bool false,.slice none 0 0,.bool false]),.bool false]) (by simp[results,results163,go_sem,r0,r1,r2,r3,qr]) rfl
     (.inr ⟨HN.out,rfl,hwr.grown (jo _ _ _ _ _ _) hwr.size (fun k hk=>by injection hk with hk;omega)⟩)
   | true =>
    have HID:=ae (fun W=>Vb s[k].toNat true W (by rw[← hdg];rfl));have hdk:48≤s[k].toNat∧s[k].toNat≤57:=by
     have h1:=hdg;unfold mf at h1;rw[Bz,Ey,Ey]at h1;omega
    have aiz:=bg (show(s.data.toList.take (k+1)).all mf=true by
     rw[Vd s k hlt,amt,aa hall,Xq,hdg];rfl)
    have hts:=Vv (s.data.toList.take k) s[k];rw[← Vd s k hlt]at hts;have hlt2:=Lf (s.data.toList.take k) (aa hall);rw[uy,Ce (by rw[oq];omega)]at hlt2;have Tw:=afd hlt2;have hkk:k/9+1≤15637498705693:=by have:=aa Cn;omega
    have hk9 : -9223372036854775808≤(k:Int)+1∧(k:Int)+1≤9223372036854775807:=by have:=aa Cn;omega
    have HE9:=ae (buu hk9);clear hk9;obtain⟨dv,hdv⟩ : ∃ dv:Int,dv=(s[k].toNat:Int)-48:=⟨_,rfl⟩
    have hdb:0≤dv∧dv≤9:=by omega
    have HTD:=ae (fun W=>agz dv W om om);have zd:je dz 1 dv:=ahc om;have z10:je dz 1 10:=ahc de;obtain⟨v,hv⟩ : ∃ v:Int,v=(ll (s.data.toList.take k):Nat):=⟨_,rfl⟩
    have hnext:((ll (s.data.toList.take (k+1)):Nat):Int)=v*10+dv:=by rw[hts,hv,hdv];omega
    rw[← hv]at hbq Tw;have Yk:=Tw.mul z10;have HM:Hid (∀ (A1:Option Addr) (c1:Nat) (l1:List Nat) (m1:Bool) (A2:Option Addr) (c2:Nat) (l2:List Nat) (m2:Bool) (A3:Option Addr) (c3:Nat) (l3:List Nat) (m3:Bool) (A4:Option Addr) (c4:Nat) (l4:List Nat) (m4:Bool) W,QV W A1 c1 l1 m1 A2 c2 l2 m2 (Rat.divInt (v) 1)→QV W A3 c3 l3 m3 A4 c4 l4 m4 (Rat.divInt (10) 1)→Calls prog 62 #[(Value.agg #[.slice A1 l1.length c1,.bool m1,.slice A2 l2.length c2,.bool m2]),(Value.agg #[.slice A3 l3.length c3,.bool m3,.slice A4 l4.length c4,.bool m4])] W fun e w'=>QR W (Rat.divInt (v*10) 1) e w'):=fun A1 c1 l1 m1 A2 c2 l2 m2 A3 c3 l3 m3 A4 c4 l4 m4 W g1 g3=>bpd A1 c1 l1 m1 A2 c2 l2 m2 A3 c3 l3 m3 A4 c4 l4 m4 v 10 (k/9+1) 1 W g1 g3 Tw z10 om
    have HA:Hid (∀ (A1:Option Addr) (c1:Nat) (l1:List Nat) (m1:Bool) (A2:Option Addr) (c2:Nat) (l2:List Nat) (m2:Bool) (A3:Option Addr) (c3:Nat) (l3:List Nat) (m3:Bool) (A4:Option Addr) (c4:Nat) (l4:List Nat) (m4:Bool) W,QV W A1 c1 l1 m1 A2 c2 l2 m2 (Rat.divInt (v*10) 1)→QV W A3 c3 l3 m3 A4 c4 l4 m4 (Rat.divInt (dv) 1)→Calls prog 60 #[(Value.agg #[.slice A1 l1.length c1,.bool m1,.slice A2 l2.length c2,.bool m2]),(Value.agg #[.slice A3 l3.length c3,.bool m3,.slice A4 l4.length c4,.bool m4])] W fun e w'=>QR W (Rat.divInt (v*10+dv) 1) e w'):=fun A1 c1 l1 m1 A2 c2 l2 m2 A3 c3 l3 m3 A4 c4 l4 m4 W g1 g3=>bpf A1 c1 l1 m1 A2 c2 l2 m2 A3 c3 l3 m3 A4 c4 l4 m4 (v*10) dv (k/9+1+1) 1 W g1 g3 Yk zd om
    obtain⟨A1,c1,l1,m1,A2,c2,l2,m2,j1,f1⟩:=hbq;have Tm:wr.cell? ⟨w.heap.size+1,0,none⟩=some (.slice A1 l1.length c1):=ag j1 0;have Tf:=ah j1 0;have Tk:wr.cell? ⟨w.heap.size+1,1,none⟩=some (.bool m1):=ag j1 1;have Te:=ah j1 1;have Tj:wr.cell? ⟨w.heap.size+1,2,none⟩=some (.slice A2 l2.length c2):=ag j1 2;have Td:=ah j1 2;have aho:wr.cell? ⟨w.heap.size+1,3,none⟩=some (.bool m2):=ag j1 3;have agx:=ah j1 3;have qx:=lt_of_block j1;have HN:=bg hnext;have w1:IntKind.u8.wrap ((s[k].toNat:Int)-48)=dv:=by rw[← hdv];exact wrap_u8 hdb.1 om
    have w2:IntKind.i64.wrap dv=dv:=Es _ om;have w3:wrap64 dv=dv:=Cs _ om;have w4:((s[k].toNat:Int)-48)%256=dv:=by rw[← hdv];omega
    have J1:=ae j1;have F1:=ae f1;clear hdg hdk hts hlt2 Tw Yk zd z10 hdv hdb hv hnext hall j1 f1 hkk
    go_wp2_with (go_at_call 161;refine((aa HID) _).mono ?_;rintro e w' ⟨rfl,hww⟩;replace hww:=hww.symm;subst hww)
    go_region_with (first|(go_at_call_of 95 (Value.int .i64 10);refine((aa bgj) _).mono ?_;rintro e w' ⟨A3,c3,l3,m3,A4,c4,l4,m4,rfl,g1,g2,hb3⟩;(try (first|replace iq5:=QV.below iq5 hb3|replace iq5:=(QV.below iq5 (ny (df _ _))).below hb3));(try (first|replace Vm:=QV.below Vm hb3|replace Vm:=(QV.below Vm (ny (df _ _))).below hb3));have iq3:=QV.of g1 g2;clear g1 g2;have hbw:=cz (w:=wr) (by(first|with_reducible assumption|(repeat (first|with_reducible exact df _ _|with_reducible assumption|refine ny ?_|(refine qz ?_ zx _)|refine ky ?_ _)))) hb3;obtain⟨hc,hfz⟩:=fq hbw)|(go_at_call_of 62 (Value.agg #[.slice A1 l1.length c1,.bool m1,.slice A2 l2.length c2,.bool m2]);refine((aa HM) A1 c1 l1 m1 A2 c2 l2 m2 A3 c3 l3 m3 A4 c4 l4 m4 _ (QV.below (aa F1) (by(first|with_reducible assumption|(repeat (first|with_reducible exact df _ _|with_reducible assumption|refine ny ?_|(refine qz ?_ zx _)|refine ky ?_ _))))) (by first|exact iq3|exact QV.below iq3 (by(first|with_reducible assumption|(repeat (first|with_reducible exact df _ _|with_reducible assumption|refine ny ?_|(refine qz ?_ zx _)|refine ky ?_ _)))))).mono ?_;rintro e w' ⟨A5,c5,l5,m5,A6,c6,l6,m6,rfl,g1,g2,hb5⟩;(try (first|replace Vm:=QV.below Vm hb5|replace Vm:=(QV.below Vm (ny (df _ _))).below hb5));have iq5:=QV.of g1 g2;clear g1 g2;have hbw:=cz (w:=wr) (by(first|with_reducible assumption|(repeat (first|with_reducible exact df _ _|with_reducible assumption|refine ny ?_|(refine qz ?_ zx _)|refine ky ?_ _)))) hb5;obtain⟨hc,hfz⟩:=fq hbw)|(go_at_call_of 95 (Value.int .i64 dv);refine((aa HTD) _).mono ?_;rintro e w' ⟨A7,c7,l7,m7,A8,c8,l8,m8,rfl,g1,g2,Rt⟩;(try (first|replace iq3:=QV.below iq3 Rt|replace iq3:=(QV.below iq3 (ny (df _ _))).below Rt));(try (first|replace iq5:=QV.below iq5 Rt|replace iq5:=(QV.below iq5 (ny (df _ _))).below Rt));have Vm:=QV.of g1 g2;clear g1 g2;have hbw:=cz (w:=wr) (by(first|with_reducible assumption|(repeat (first|with_reducible exact df _ _|with_reducible assumption|refine ny ?_|(refine qz ?_ zx _)|refine ky ?_ _)))) Rt;obtain⟨hc,hfz⟩:=fq hbw)|(go_at_call_of 60 (Value.agg #[.slice A5 l5.length c5,.bool m5,.slice A6 l6.length c6,.bool m6]);refine((aa HA) A5 c5 l5 m5 A6 c6 l6 m6 A7 c7 l7 m7 A8 c8 l8 m8 _ (by first|exact iq5|exact QV.below iq5 (by(first|with_reducible assumption|(repeat (first|with_reducible exact df _ _|with_reducible assumption|refine ny ?_|(refine qz ?_ zx _)|refine ky ?_ _))))) (by first|exact Vm|exact QV.below Vm (by(first|with_reducible assumption|(repeat (first|with_reducible exact df _ _|with_reducible assumption|refine ny ?_|(refine qz ?_ zx _)|refine ky ?_ _)))))).mono ?_;rintro e w' ⟨A9,c9,l9,m9,Zo,c10,l10,m10,rfl,g1,g2,lh⟩;have iq9:=QV.of g1 g2;clear g1 g2;have hbw:=cz (w:=wr) (by(first|with_reducible assumption|(repeat (first|with_reducible exact df _ _|with_reducible assumption|refine ny ?_|(refine qz ?_ zx _)|refine ky ?_ _)))) lh;obtain⟨hc,hfz⟩:=fq hbw))
    all_goals
     have hst:=anq (aao ⟨_,_,_,_,_,_,_,_,aa J1,aa F1⟩ hbw) iq9 ((aa hgr).trans (hbw.mono om)) om (by have:=hbw.size;omega);obtain⟨e9,e9'⟩:=aa HE9;go_wp2_with fail;clear e9 e9'
     go_roundw
     case rel=>exact⟨k+1,by omega,by first|rfl|(have hss:=aa Cn;go_num),HN.out ▸ hst.1,ae aiz.out,ae hst.2⟩
     case measure=>(have hss:=aa Cn;simp[intOf]<;>omega)
  ·
   have hke:s.data.toList.take k=s.data.toList:=Fb (by rw[oq];omega);rw[hke]at hbq hall;have aiz:=bg (aa hall);obtain⟨A1,c1,l1,m1,A2,c2,l2,m2,j1,f1⟩:=hbq;have jr:=((aa hgr).block w.heap.size om).trans (aa NR);have Tm:wr.cell? ⟨w.heap.size+1,0,none⟩=some (.slice A1 l1.length c1):=ag j1 0;have Tf:=ah j1 0;have Tk:wr.cell? ⟨w.heap.size+1,1,none⟩=some (.bool m1):=ag j1 1;have Te:=ah j1 1;have Tj:wr.cell? ⟨w.heap.size+1,2,none⟩=some (.slice A2 l2.length c2):=ag j1 2;have Td:=ah j1 2;have aho:wr.cell? ⟨w.heap.size+1,3,none⟩=some (.bool m2):=ag j1 3;have agx:=ah j1 3;have qx:=lt_of_block j1;have r0:wr.cell? ⟨w.heap.size,0,none⟩=some (.slice none 0 0):=ag jr 0;have Jn:=ah jr 0;have r1:wr.cell? ⟨w.heap.size,1,none⟩=some (.bool false):=ag jr 1;have Jm:=ah jr 1;have r2:wr.cell? ⟨w.heap.size,2,none⟩=some (.slice none 0 0):=ag jr 2;have Ll:=ah jr 2;have r3:wr.cell? ⟨w.heap.size,3,none⟩=some (.bool false):=ag jr 3;have Ms:=ah jr 3;have lu:=bg jr;have qr:=lt_of_block jr;have F1:=ae f1;have d1:decide ((k:Int)<(s.size:Int))=false:=dw om;have d2:decide (k<s.size)=false:=dw hlt;have HLEN:=bg (show decide (0<s.data.toList.length)=decide (0<s.size)by rw[oq]);have Kb:=bg (show decide (0<s.size)=decide (0<(s.size:Int))by
    by_cases h:0<s.size
    ·
     rw[dm h,dm (show 0<(s.size:Int)by omega)]
    ·
     rw[dw h,dw (show ¬ 0<(s.size:Int)by omega)])
   clear hke hall j1 f1 jr;go_wp2_with fail
   first
    | exact bodyPost_ret (v := .tuple #[(Value.agg #[.slice A1 l1.length c1, .bool m1, .slice A2 l2.length c2, .bool m2]), .bool (decide (0 < s.size))]) (by simp [results, results163, go_sem, r0, r1, r2, r3, qr]) rfl
       (.inl ⟨aiz.out,A1,c1,l1,m1,A2,c2,l2,m2,by rw[HLEN.out],(aa F1).upto lu.out (De _ _ _ _ _ _ _ _) (jo _ _ _ _ _ _),hwr.grown (jo _ _ _ _ _ _) hwr.size (fun k hk=>by injection hk with hk;omega)⟩)
    | exact bodyPost_ret (v := .tuple #[(Value.agg #[.slice A1 l1.length c1, .bool m1, .slice A2 l2.length c2, .bool m2]), .bool (decide (0 < (s.size : Int)))]) (by simp [results, results163, go_sem, r0, r1, r2, r3, qr]) rfl
       (.inl ⟨aiz.out,A1,c1,l1,m1,A2,c2,l2,m2,by rw[HLEN.out,Kb.out],(aa F1).upto lu.out (De _ _ _ _ _ _ _ _) (jo _ _ _ _ _ _),hwr.grown (jo _ _ _ _ _ _) hwr.size (fun k hk=>by injection hk with hk;omega)⟩)


def cth (w:Wq) (l:List UInt8) (e:Ending) (w':Wq):Prop :=
 (uf l=true ∧ ∃ A1 c1 l1 m1 A2 c2 l2 m2,e = .returned (.tuple #[(Value.agg #[.slice A1 (List.length l1) c1,.bool m1,.slice A2 (List.length l2) c2,.bool m2]),.bool true])∧QV w' A1 c1 l1 m1 A2 c2 l2 m2 (Rat.divInt ((ll l:Nat)) 1)∧Below w.heap.size w w') ∨
 (uf l=false∧e = .returned (.tuple #[(Value.agg #[.slice none 0 0,.bool false,.slice none 0 0,.bool false]),.bool false])∧Below w.heap.size w w')
theorem Ug {l:List UInt8} (h:uf l=true):1≤l.length∧l.length≤20 ∧ ¬ (l.head? = some 48∧1<l.length):=by
 have hd:=Gb h
 rw[ady hd,Bz,Bz,Ey,Ey,agq,bku,Ey,aru]at h
 exact⟨h.1.1,h.1.2,fun h4=>h.2 h4.1 h4.2⟩
theorem brx {l:List UInt8} (hd:l.all mf=true) (h1:1≤l.length) (h2:l.length≤20) (h3 : ¬ (l.head? = some 48∧1<l.length)):uf l=true:=by
 rw[ady hd,Bz,Bz,Ey,Ey,agq,bku,Ey,aru]
 exact⟨⟨h1,h2⟩,fun h4 h5=>h3 ⟨h4,h5⟩⟩

theorem akj (s:ByteArray) (w:Wq) (hs:s.size≤140737488351232) :
  Calls prog 162 #[.string s] w fun e w'=>cth w s.data.toList e w':=by
 by_cases h1:(s.size:Int)<1
 ·
  have HN:=bg (Tq (fun h=>by have:=(Ug h).1;rw[oq]at this;omega):uf s.data.toList=false);have d1:decide ((s.size:Int)<1)=true:=dm h1;clear h1 hs
  go_enter func162,ntmps162
  go_upto_region 1 with fail;obtain⟨nr,hsz,hw0⟩:=Ii w (.cells #[.slice none 0 0,.bool false,.slice none 0 0,.bool false] 68);generalize w.alloc (.cells #[.slice none 0 0,.bool false,.slice none 0 0,.bool false] 68)=W0 at *;have r0:W0.cell? ⟨w.heap.size,0,none⟩=some (.slice none 0 0):=ag nr 0;have Jn:=ah nr 0;have r1:W0.cell? ⟨w.heap.size,1,none⟩=some (.bool false):=ag nr 1;have Jm:=ah nr 1;have r2:W0.cell? ⟨w.heap.size,2,none⟩=some (.slice none 0 0):=ag nr 2;have Ll:=ah nr 2;have r3:W0.cell? ⟨w.heap.size,3,none⟩=some (.bool false):=ag nr 3;have Ms:=ah nr 3;have qr:=lt_of_block nr;clear nr hsz;go_wp2_with fail;exact bodyPost_ret (v := .tuple #[(Value.agg #[.slice none 0 0,.bool false,.slice none 0 0,.bool false]),.bool false]) (by simp[results,results162,go_sem,r0,r1,r2,r3,qr]) rfl
   (.inr ⟨HN.out,rfl,hw0.grown (jo _ _ _ _ _ _) hw0.size (fun k hk=>by injection hk with hk;omega)⟩)
 ·
  have d1:decide ((s.size:Int)<1)=false:=dw h1
  by_cases h2:20<(s.size:Int)
  ·
   have HN:=bg (Tq (fun h=>by have:=(Ug h).2.1;rw[oq]at this;omega):uf s.data.toList=false);have d2:decide (20<(s.size:Int))=true:=dm h2;clear h1 h2 hs
   go_enter func162,ntmps162
   go_upto_region 1 with fail;obtain⟨nr,hsz,hw0⟩:=Ii w (.cells #[.slice none 0 0,.bool false,.slice none 0 0,.bool false] 68);generalize w.alloc (.cells #[.slice none 0 0,.bool false,.slice none 0 0,.bool false] 68)=W0 at *;have r0:W0.cell? ⟨w.heap.size,0,none⟩=some (.slice none 0 0):=ag nr 0;have Jn:=ah nr 0;have r1:W0.cell? ⟨w.heap.size,1,none⟩=some (.bool false):=ag nr 1;have Jm:=ah nr 1;have r2:W0.cell? ⟨w.heap.size,2,none⟩=some (.slice none 0 0):=ag nr 2;have Ll:=ah nr 2;have r3:W0.cell? ⟨w.heap.size,3,none⟩=some (.bool false):=ag nr 3;have Ms:=ah nr 3;have qr:=lt_of_block nr;clear nr hsz;go_wp2_with fail;exact bodyPost_ret (v := .tuple #[(Value.agg #[.slice none 0 0,.bool false,.slice none 0 0,.bool false]),.bool false]) (by simp[results,results162,go_sem,r0,r1,r2,r3,qr]) rfl
    (.inr ⟨HN.out,rfl,hw0.grown (jo _ _ _ _ _ _) hw0.size (fun k hk=>by injection hk with hk;omega)⟩)
  ·
   have d2:decide (20<(s.size:Int))=false:=dw h2;have h0:0<s.size:=by omega
   have hh:s.data.toList.head? = some s[0]:=by
    have h1:0<s.data.toList.length:=by rw[oq];exact h0
    rw[ard,Cj h1];rfl
   have hhn:s.data.toList.head? = some 48↔(s[0].toNat:Int)=48:=by
    rw[hh]
    constructor
    ·
     intro h;rw[Az h];rfl
    ·
     intro h;rw[show s[0]=48 from Rf.1 (by show s[0].toNat=48;omega)]
   have HD:=ae (fun W=>aog s W hs)
   by_cases h3:(s[0].toNat:Int)=48
   ·
    have d3:((s[0].toNat:Int)==48)=true:=by rw[h3];rfl
    by_cases h4:1<(s.size:Int)
    ·
     have HN:=bg (Tq (fun h=>(Ug h).2.2 ⟨hhn.2 h3,by rw[oq];omega⟩):uf s.data.toList=false);have d4:decide (1<(s.size:Int))=true:=dm h4;clear h1 h2 h3 h4 hs hh hhn HD
     go_enter func162,ntmps162
     go_upto_region 1 with fail;obtain⟨nr,hsz,hw0⟩:=Ii w (.cells #[.slice none 0 0,.bool false,.slice none 0 0,.bool false] 68);generalize w.alloc (.cells #[.slice none 0 0,.bool false,.slice none 0 0,.bool false] 68)=W0 at *;have r0:W0.cell? ⟨w.heap.size,0,none⟩=some (.slice none 0 0):=ag nr 0;have Jn:=ah nr 0;have r1:W0.cell? ⟨w.heap.size,1,none⟩=some (.bool false):=ag nr 1;have Jm:=ah nr 1;have r2:W0.cell? ⟨w.heap.size,2,none⟩=some (.slice none 0 0):=ag nr 2;have Ll:=ah nr 2;have r3:W0.cell? ⟨w.heap.size,3,none⟩=some (.bool false):=ag nr 3;have Ms:=ah nr 3;have qr:=lt_of_block nr;clear nr hsz;go_wp2_with fail;exact bodyPost_ret (v := .tuple #[(Value.agg #[.slice none 0 0,.bool false,.slice none 0 0,.bool false]),.bool false]) (by simp[results,results162,go_sem,r0,r1,r2,r3,qr]) rfl
      (.inr ⟨HN.out,rfl,hw0.grown (jo _ _ _ _ _ _) hw0.size (fun k hk=>by injection hk with hk;omega)⟩)
    ·
     have d4:decide (1<(s.size:Int))=false:=dw h4;have aqx:=ae (fun(hall:s.data.toList.all mf=true)=>brx hall (by rw[oq];omega) (by rw[oq];omega) (fun h=>by have:=h.2;rw[oq]at this;omega));have HNO:=ae (fun(hall:s.data.toList.all mf=false)=>(Tq (fun h=>by rw[Gb h]at hall;cases hall):uf s.data.toList=false));clear h1 h2 h3 h4 hs hh hhn
     go_enter func162,ntmps162
     go_upto_region 1 with fail;obtain⟨nr,hsz,hw0⟩:=Ii w (.cells #[.slice none 0 0,.bool false,.slice none 0 0,.bool false] 68);generalize w.alloc (.cells #[.slice none 0 0,.bool false,.slice none 0 0,.bool false] 68)=W0 at *;have NR:=ae nr;clear nr hsz;go_wp2_with fail;refine((aa HD) _).mono ?_
     rintro e W1 hdr
     rcases hdr with⟨hall,A1,c1,l1,m1,A2,c2,l2,m2,rfl,f1,hb⟩|⟨hall,rfl,hb⟩
     ·
      have HN:=bg ((aa aqx) hall);have hw1:=az hw0 hb;have jr:=(hb.block _ (lt_of_block (aa NR))).trans (aa NR);have lu:=bg jr;have F1:=ae f1;have r0:W1.cell? ⟨w.heap.size,0,none⟩=some (.slice none 0 0):=ag jr 0;have Jn:=ah jr 0;have r1:W1.cell? ⟨w.heap.size,1,none⟩=some (.bool false):=ag jr 1;have Jm:=ah jr 1;have r2:W1.cell? ⟨w.heap.size,2,none⟩=some (.slice none 0 0):=ag jr 2;have Ll:=ah jr 2;have r3:W1.cell? ⟨w.heap.size,3,none⟩=some (.bool false):=ag jr 3;have Ms:=ah jr 3;have qr:=lt_of_block jr;have hlen:decide (0<s.data.toList.length)=true:=dm (by rw[oq];omega);rw[hlen];clear hall jr hb f1 hlen aqx HNO HD;go_wp2_with fail;exact bodyPost_ret (v := .tuple #[(Value.agg #[.slice A1 l1.length c1,.bool m1,.slice A2 l2.length c2,.bool m2]),.bool true]) (by simp[results,results162,go_sem,r0,r1,r2,r3,qr]) rfl
       (.inl ⟨HN.out,A1,c1,l1,m1,A2,c2,l2,m2,rfl,(aa F1).upto lu.out (De _ _ _ _ _ _ _ _) (jo _ _ _ _ _ _),hw1.grown (jo _ _ _ _ _ _) hw1.size (fun k hk=>by injection hk with hk;omega)⟩)
     ·
      have HN:=bg ((aa HNO) hall);have hw1:=az hw0 hb;have jr:=(hb.block _ (lt_of_block (aa NR))).trans (aa NR);have r0:W1.cell? ⟨w.heap.size,0,none⟩=some (.slice none 0 0):=ag jr 0;have Jn:=ah jr 0;have r1:W1.cell? ⟨w.heap.size,1,none⟩=some (.bool false):=ag jr 1;have Jm:=ah jr 1;have r2:W1.cell? ⟨w.heap.size,2,none⟩=some (.slice none 0 0):=ag jr 2;have Ll:=ah jr 2;have r3:W1.cell? ⟨w.heap.size,3,none⟩=some (.bool false):=ag jr 3;have Ms:=ah jr 3;have qr:=lt_of_block jr;clear hall jr hb aqx HNO HD;go_wp2_with fail;exact bodyPost_ret (v := .tuple #[(Value.agg #[.slice none 0 0,.bool false,.slice none 0 0,.bool false]),.bool false]) (by simp[results,results162,go_sem,r0,r1,r2,r3,qr]) rfl
       (.inr ⟨HN.out,rfl,hw1.grown (jo _ _ _ _ _ _) hw1.size (fun k hk=>by injection hk with hk;omega)⟩)
   ·
    have d3:((s[0].toNat:Int)==48)=false:=oo.2 h3;have aqx:=ae (fun(hall:s.data.toList.all mf=true)=>brx hall (by rw[oq];omega) (by rw[oq];omega) (fun h=>h3 (hhn.1 h.1)));have HNO:=ae (fun(hall:s.data.toList.all mf=false)=>(Tq (fun h=>by rw[Gb h]at hall;cases hall):uf s.data.toList=false));clear h1 h2 hs hh hhn h3
    go_enter func162,ntmps162
    go_upto_region 1 with fail;obtain⟨nr,hsz,hw0⟩:=Ii w (.cells #[.slice none 0 0,.bool false,.slice none 0 0,.bool false] 68);generalize w.alloc (.cells #[.slice none 0 0,.bool false,.slice none 0 0,.bool false] 68)=W0 at *;have NR:=ae nr;clear nr hsz;go_wp2_with fail;refine((aa HD) _).mono ?_
    rintro e W1 hdr
    rcases hdr with⟨hall,A1,c1,l1,m1,A2,c2,l2,m2,rfl,f1,hb⟩|⟨hall,rfl,hb⟩
    ·
     have HN:=bg ((aa aqx) hall);have hw1:=az hw0 hb;have jr:=(hb.block _ (lt_of_block (aa NR))).trans (aa NR);have lu:=bg jr;have F1:=ae f1;have r0:W1.cell? ⟨w.heap.size,0,none⟩=some (.slice none 0 0):=ag jr 0;have Jn:=ah jr 0;have r1:W1.cell? ⟨w.heap.size,1,none⟩=some (.bool false):=ag jr 1;have Jm:=ah jr 1;have r2:W1.cell? ⟨w.heap.size,2,none⟩=some (.slice none 0 0):=ag jr 2;have Ll:=ah jr 2;have r3:W1.cell? ⟨w.heap.size,3,none⟩=some (.bool false):=ag jr 3;have Ms:=ah jr 3;have qr:=lt_of_block jr;have hlen:decide (0<s.data.toList.length)=true:=dm (by rw[oq];omega);rw[hlen];clear hall jr hb f1 hlen aqx HNO HD;go_wp2_with fail;exact bodyPost_ret (v := .tuple #[(Value.agg #[.slice A1 l1.length c1,.bool m1,.slice A2 l2.length c2,.bool m2]),.bool true]) (by simp[results,results162,go_sem,r0,r1,r2,r3,qr]) rfl
      (.inl ⟨HN.out,A1,c1,l1,m1,A2,c2,l2,m2,rfl,(aa F1).upto lu.out (De _ _ _ _ _ _ _ _) (jo _ _ _ _ _ _),hw1.grown (jo _ _ _ _ _ _) hw1.size (fun k hk=>by injection hk with hk;omega)⟩)
    ·
     have HN:=bg ((aa HNO) hall);have hw1:=az hw0 hb;have jr:=(hb.block _ (lt_of_block (aa NR))).trans (aa NR);have r0:W1.cell? ⟨w.heap.size,0,none⟩=some (.slice none 0 0):=ag jr 0;have Jn:=ah jr 0;have r1:W1.cell? ⟨w.heap.size,1,none⟩=some (.bool false):=ag jr 1;have Jm:=ah jr 1;have r2:W1.cell? ⟨w.heap.size,2,none⟩=some (.slice none 0 0):=ag jr 2;have Ll:=ah jr 2;have r3:W1.cell? ⟨w.heap.size,3,none⟩=some (.bool false):=ag jr 3;have Ms:=ah jr 3;have qr:=lt_of_block jr;clear hall jr hb aqx HNO HD;go_wp2_with fail;exact bodyPost_ret (v := .tuple #[(Value.agg #[.slice none 0 0,.bool false,.slice none 0 0,.bool false]),.bool false]) (by simp[results,results162,go_sem,r0,r1,r2,r3,qr]) rfl
      (.inr ⟨HN.out,rfl,hw1.grown (jo _ _ _ _ _ _) hw1.size (fun k hk=>by injection hk with hk;omega)⟩)


def Ot (x:Rat):Nat→Rat
 | 0=>Rat.divInt 1 1
 | n+1=>Ot x n*x
theorem bht (n:Nat):Ot (Rat.divInt 10 1) n=Rat.divInt ((10^n:Nat):Int) 1:=by
 induction n with
 | zero=>rfl
 | succ n ih =>
  rw[Ot,ih,ajo,aae,Be,aaf];rfl
theorem aaq {n d:Int} (hd:d≠0) (hn:je B K n) (hdd:je B K d):Bt B K (Rat.divInt n d):=by
 obtain⟨h1,h2⟩:=Lg n d hd
 exact⟨by rw[h1];exact hn.tdiv _,by rw[h2];exact hdd.tdiv _⟩
theorem Bt.mono' {L:Nat} (hB:1<B) (h:Bt B K x) (hk:K≤L):Bt B L x:=⟨h.1.mono hB hk,h.2.mono hB hk⟩
theorem ava (h:Bt dz K x) : ∀ n:Nat,Bt dz (K*n+1) (Ot x n)
 | 0=>by
  have h1:je dz 1 1:=by unfold je;rw[Rh,fu];decide
  rw[Nr,Bn];exact aaq om h1 h1
 | n+1=>by
  have ih:=ava h n;rw[Ot,acx,Nat.mul_succ,bbl];have d1:=(Ot x n).den_nz;have d2:=x.den_nz;exact aaq (agn om om) (ih.1.mul h.1) (ih.2.mul h.2)

theorem buv (A1:Option Addr) (c1:Nat) (l1:List Nat) (m1:Bool) (A2:Option Addr) (c2:Nat) (l2:List Nat) (m2:Bool) (x:Rat) (n K:Nat) (w:Wq) (h1:QV w A1 c1 l1 m1 A2 c2 l2 m2 (x)) (sx:Bt dz K x) (hK:4*(K*n+1+K)+4≤35184372088832) (hn:n≤9223372036854775806) :
  Calls prog 71 #[(Value.agg #[.slice A1 l1.length c1,.bool m1,.slice A2 l2.length c2,.bool m2]),.int .i64 n] w fun e w'=>QVR w (Ot x n) e w':=by
 have HX:=ae h1;have Cn:=ae sx;have HK:=ae hK
 have HO:=ae (fun W=>agz 1 W om om)
 have d0:decide ((n:Int)<0)=false:=dw om
 clear h1 sx hK
 go_enter func71,ntmps71
 go_upto_region 1 with fail
 obtain⟨nx,nr,hsz,hw0⟩:=Ci w (.cells #[.slice A1 l1.length c1,.bool m1,.slice A2 l2.length c2,.bool m2] 68) (.cells #[.slice none 0 0,.bool false,.slice none 0 0,.bool false] 68)
 generalize ((w.alloc (.cells #[.slice A1 l1.length c1,.bool m1,.slice A2 l2.length c2,.bool m2] 68)).alloc (.cells #[.slice none 0 0,.bool false,.slice none 0 0,.bool false] 68))=W0 at *
 have hq:=lt_of_block nr
 clear hsz
 go_wp2_with fail
 refine((aa HO) _).mono ?_
 rintro e W1 ⟨A5,c5,l5,m5,A6,c6,l6,m6,rfl,g1,g2,hb⟩
 replace nx:=(hb.block _ (lt_of_block nx)).trans nx
 replace nr:=(hb.block _ (lt_of_block nr)).trans nr
 replace hq:=zh hq hb.size
 replace hw0:=az hw0 hb
 clear hb
 go_upto_region 4 with fail
 have hbx:=Ex.new (QV.of g1 g2) rfl
 have hb:=ic (df W1.heap.size W1) (.cells #[.slice A5 l5.length c5,.bool m5,.slice A6 l6.length c6,.bool m6] 68)
 clear g1 g2
 obtain⟨bx,acm⟩ : ∃ b,b=W1.heap.size:=⟨_,rfl⟩
 rw[← acm]at hbx ⊢
 have hbB:w.heap.size+1<bx:=by rw[acm];exact hq
 generalize W1.alloc (.cells #[.slice A5 l5.length c5,.bool m5,.slice A6 l6.length c6,.bool m6] 68)=W2 at *
 replace nx:=(hb.block _ (lt_of_block nx)).trans nx
 replace nr:=(hb.block _ (lt_of_block nr)).trans nr
 replace hq:=zh hq hb.size
 replace hw0:=az hw0 hb
 clear hb acm
 have HW0:=ae hw0;have NX:=ae nx;have NR:=ae nr;have HQ:=ae hq
 clear hw0 nx nr hq
 go_wp2_with fail
 go_loopw [6] (fun iv wr => ∃ k:Nat,k≤n∧iv = .int .i64 (k:Int)∧Ex wr bx (Ot x k)∧Hid (Below (w.heap.size+2) W2 wr)) (fun iv _=>n-(intOf iv).toNat)
 case atStart=>exact⟨0,ug _,by first|rfl|go_num,by first|exact hbx|exact hbx.below (df _ _).drew,by first|exact ae (df _ _)|exact ae (df _ _).drew⟩
 case round =>
  obtain⟨k,hk,rfl,hbq,hgr⟩:=hrel;have hwr:Below w.heap.size w wr:=(aa HW0).trans ((aa hgr).mono om);have hq0:=aa HQ;have hgs:=(aa hgr).size
  by_cases hlt:k<n
  ·
   have hs1:=ava (aa Cn) k;have hm1:K*k+1≤K*n+1+K:=by have:=Bo K (show k≤n by omega);omega
   have Tw:=hs1.mono' Bw hm1;have Yk:=(aa Cn).mono' Bw (show K≤K*n+1+K by omega);obtain⟨y,hy⟩ : ∃ y,y=Ot x k:=⟨_,rfl⟩
   have hnext:Ot x (k+1)=y*x:=by rw[hy];rfl
   have HNX:=bg hnext;rw[← hy]at hbq Tw;have hk4:=aa HK;have HM:Hid (∀ (A3:Option Addr) (c3:Nat) (l3:List Nat) (m3:Bool) (A4:Option Addr) (c4:Nat) (l4:List Nat) (m4:Bool) (A1:Option Addr) (c1:Nat) (l1:List Nat) (m1:Bool) (A2:Option Addr) (c2:Nat) (l2:List Nat) (m2:Bool) W,QV W A3 c3 l3 m3 A4 c4 l4 m4 (y)→QV W A1 c1 l1 m1 A2 c2 l2 m2 (x)→Calls prog 62 #[(Value.agg #[.slice A3 l3.length c3,.bool m3,.slice A4 l4.length c4,.bool m4]),(Value.agg #[.slice A1 l1.length c1,.bool m1,.slice A2 l2.length c2,.bool m2])] W fun e w'=>QR W (y*x) e w'):=fun A3 c3 l3 m3 A4 c4 l4 m4 A1 c1 l1 m1 A2 c2 l2 m2 W g3 g1=>axk (K*n+1+K) A3 c3 l3 m3 A4 c4 l4 m4 A1 c1 l1 m1 A2 c2 l2 m2 y x W g3 g1 Tw Yk hk4
   obtain⟨A3,c3,l3,m3,A4,c4,l4,m4,j1,f1⟩:=hbq;have jx:=((aa hgr).block w.heap.size om).trans (aa NX);have Tm:wr.cell? ⟨bx,0,none⟩=some (.slice A3 l3.length c3):=ag j1 0;have Tf:=ah j1 0;have Tk:wr.cell? ⟨bx,1,none⟩=some (.bool m3):=ag j1 1;have Te:=ah j1 1;have Tj:wr.cell? ⟨bx,2,none⟩=some (.slice A4 l4.length c4):=ag j1 2;have Td:=ah j1 2;have aho:wr.cell? ⟨bx,3,none⟩=some (.bool m4):=ag j1 3;have agx:=ah j1 3;have qx:=lt_of_block j1;have crf:wr.cell? ⟨w.heap.size,0,none⟩=some (.slice A1 l1.length c1):=ag jx 0;have cre:wr.cell? ⟨w.heap.size,1,none⟩=some (.bool m1):=ag jx 1;have crd:wr.cell? ⟨w.heap.size,2,none⟩=some (.slice A2 l2.length c2):=ag jx 2;have kw_3:wr.cell? ⟨w.heap.size,3,none⟩=some (.bool m2):=ag jx 3;have HXW:=ae ((aa HX).below hwr);have d1:decide ((k:Int)<(n:Int))=true:=dm om;have d2:decide (k<n)=true:=dm hlt;have J1:=ae j1;have F1:=ae f1;clear hs1 hm1 Tw Yk hy hnext hk4 j1 f1 jx;go_wp2_with fail;refine((aa HM) A3 c3 l3 m3 A4 c4 l4 m4 A1 c1 l1 m1 A2 c2 l2 m2 _ (aa F1) (aa HXW)).mono ?_
   rintro e w' ⟨A7,c7,l7,m7,A8,c8,l8,m8,rfl,g7,g8,hb⟩;have hst:=anq (aao ⟨_,_,_,_,_,_,_,_,aa J1,aa F1⟩ hb) (QV.of g7 g8) ((aa hgr).trans (hb.mono om)) om (by have:=hb.size;omega);obtain⟨hc,hfz⟩:=fq hb;replace Tm:=(hc _ _ qx).trans Tm;replace Tf:=(hfz _ _ qx).trans Tf;replace Tk:=(hc _ _ qx).trans Tk;replace Te:=(hfz _ _ qx).trans Te;replace Tj:=(hc _ _ qx).trans Tj;replace Td:=(hfz _ _ qx).trans Td;replace aho:=(hc _ _ qx).trans aho;replace agx:=(hfz _ _ qx).trans agx;clear g7 g8 hb hc hfz HM;go_wp2_with fail
   go_roundw
   case rel=>exact⟨k+1,by omega,by first|rfl|go_num,HNX.out ▸ hst.1,ae hst.2⟩
   case measure=>simp[intOf]<;>omega
  ·
   obtain rfl:k=n:=by omega
   obtain⟨A3,c3,l3,m3,A4,c4,l4,m4,j1,f1⟩:=hbq;have jr:=((aa hgr).block (w.heap.size+1) om).trans (aa NR);have Tm:wr.cell? ⟨bx,0,none⟩=some (.slice A3 l3.length c3):=ag j1 0;have Tf:=ah j1 0;have Tk:wr.cell? ⟨bx,1,none⟩=some (.bool m3):=ag j1 1;have Te:=ah j1 1;have Tj:wr.cell? ⟨bx,2,none⟩=some (.slice A4 l4.length c4):=ag j1 2;have Td:=ah j1 2;have aho:wr.cell? ⟨bx,3,none⟩=some (.bool m4):=ag j1 3;have agx:=ah j1 3;have qx:=lt_of_block j1;have r0:wr.cell? ⟨w.heap.size+1,0,none⟩=some (.slice none 0 0):=ag jr 0;have Jn:=ah jr 0;have r1:wr.cell? ⟨w.heap.size+1,1,none⟩=some (.bool false):=ag jr 1;have Jm:=ah jr 1;have r2:wr.cell? ⟨w.heap.size+1,2,none⟩=some (.slice none 0 0):=ag jr 2;have Ll:=ah jr 2;have r3:wr.cell? ⟨w.heap.size+1,3,none⟩=some (.bool false):=ag jr 3;have Ms:=ah jr 3;have lu:=bg jr;have qr:=lt_of_block jr;have F1:=ae f1;have d1:decide ((k:Int)<(k:Int))=false:=dw om;have d2:decide (k<k)=false:=dw om;clear j1 f1 jr hlt hk;go_wp2_with fail;exact bodyPost_ret (v:=(Value.agg #[.slice A3 l3.length c3,.bool m3,.slice A4 l4.length c4,.bool m4])) (by simp[results,results71,go_sem,r0,r1,r2,r3,qr]) rfl
    ⟨A3,c3,l3,m3,A4,c4,l4,m4,rfl,(aa F1).upto lu.out (De _ _ _ _ _ _ _ _) (jo _ _ _ _ _ _),hwr.grown (jo _ _ _ _ _ _) hwr.size (fun k hk=>by injection hk with hk;omega)⟩


def cbr (w:Wq) (m:Bool) (o:Option Rat) (e:Ending) (w':Wq):Prop := ∃ A1 c1 l1 m1 A2 c2 l2 m2 ok,e = .returned (.tuple #[(Value.agg #[.slice A1 (List.length l1) c1,.bool m1,.slice A2 (List.length l2) c2,.bool m2]),.bool ok])∧Below w.heap.size w w' ∧
 ((ok=true ∧ ∃ q,o=some q ∧ ¬ (m=true∧q=0)∧QV w' A1 c1 l1 m1 A2 c2 l2 m2 (if m=true then -q else q))∨(ok=false∧Ir m o=⟨0,0,2⟩))
structure bgb (B:ByteArray) (k:Nat):Prop where
 le:k≤B.size
 dig:(B.data.toList.take k).all mf=true
 stop : ∀ c,(B.data.toList.drop k).head? = some c→mf c=false
theorem bgb.spl {B:ByteArray} (h:bgb B k):ada B.data.toList (B.data.toList.take k) (B.data.toList.drop k):=⟨(Lu k _).symm,h.dig,h.stop⟩
theorem byh (B:ByteArray) (k:Nat):(B.extract 0 k).data.toList=B.data.toList.take k:=by rw[bag];simp
theorem bff (B:ByteArray) (k:Nat):(B.extract k B.size).data.toList=B.data.toList.drop k:=by
 rw[bag]
 show List.take (B.size-k) (List.drop k B.data.toList)=_
 exact Fb (by rw[Kv,oq];exact gu _)
theorem drop_at (B:ByteArray) (h:k<B.size):B.data.toList.drop k=B[k]::B.data.toList.drop (k+1):=by
 have h1:k<B.data.toList.length:=by rw[oq];exact h
 rw[Si h1];rfl
theorem bjq {d:UInt8} (h : ¬ (c.toNat:Int)=(d.toNat:Int)):c≠d:=fun e=>h (by rw[e])
theorem bjr {d:UInt8} (h:(c.toNat:Int)=(d.toNat:Int)):c=d:=Rf.1 om
theorem bfh {a b:Int}:Rat.divInt a 1/Rat.divInt b 1=Rat.divInt a b:=by
 rw[Rat.div_def,Rat.inv_divInt,ajo,amw,aae]
theorem bwg (a t:List UInt8):Rat.divInt (ll a:Nat) 1+Rat.divInt (ll t:Nat) ((10^t.length:Nat):Int)=Rat.divInt (ll (a++t):Nat) ((10^t.length:Nat):Int):=by
 have h:=wz (n:=t.length) (show 0<10 by decide)
 rw[bbg _ _ om om,axa,aae,amw,adg,aaf]
theorem awm (z:Int):(Rat.divInt z 1).num=z:=(Cq z).1
theorem aaz (h:je dz K z) (hK:1≤K):Bt dz K (Rat.divInt z 1) :=
 aaq om h ((ahc de).mono Bw hK)

theorem bye (h:QV w A1 c1 l1 m1 A2 c2 l2 m2 (q)) (hb:Below w.heap.size w w'):QV w' A1 c1 l1 m1 A2 c2 l2 m2 (q):=h.below hb
theorem bwa {zb:Bool} (hq:o=some q) (hz:zb=decide (q.num=0)) (h:QV w' A1 c1 l1 m1 A2 c2 l2 m2 (-q)) :
  ((!zb)=true ∧ ∃ q,o=some q ∧ ¬ (true=true∧q=0)∧QV w' A1 c1 l1 m1 A2 c2 l2 m2 (if true=true then -q else q))∨((!zb)=false∧Ir true o=⟨0,0,2⟩):=by
 by_cases h0:q.num=0
 ·
  right
  rw[hz,dm h0];refine⟨rfl,?_⟩
  rw[hq];unfold Ir
  dsimp only
  rw[if_pos ⟨rfl,Rat.num_eq_zero.1 h0⟩]
 ·
  left
  rw[hz,dw h0];exact⟨rfl,q,hq,fun h2=>h0 (by rw[h2.2];rfl),h⟩

theorem asv (s B:ByteArray) (m:Bool) (w:Wq) (hs:s.size≤140737488351232) (hBs:B.size≤s.size)
  (hm:(m=false∧B=s∧(s.size=0 ∨ ∃ h:0<s.size,¬ (s[0].toNat:Int)=45))∨(m=true∧B=s.extract 1 s.size ∧ ∃ h:0<s.size,(s[0].toNat:Int)=45)) :
  Calls prog 89 #[.string s] w fun e w'=>cbr w m (ou B.data.toList) e w':=by
 have HM:=ae hm
 have Cn:=ae (And.intro hs hBs)
 clear hm hs hBs
 go_enter func89,ntmps89
 go_upto_region 1 with fail
 obtain⟨nr,hsz,hw0⟩:=Ii w (.cells #[.slice none 0 0,.bool false,.slice none 0 0,.bool false] 68)
 generalize w.alloc (.cells #[.slice none 0 0,.bool false,.slice none 0 0,.bool false] 68)=W0 at *
 have NR:=ae nr;have HB:=bg hw0
 clear hsz nr hw0
 go_cut [4] (fun v wx=>v = .bool m∧wx=W0)
 case first =>
  rcases aa HM with⟨rfl,hB,h0|⟨h0,h45⟩⟩|⟨rfl,hB,h0,h45⟩
  ·
   have d1:decide (0<(s.size:Int))=false:=dw om;have d1':decide (0<s.size)=false:=dw om;clear h0 hB HM;go_wp2_with fail
   all_goals (go_meet;exact⟨rfl,rfl⟩)
  ·
   have d1:decide (0<(s.size:Int))=true:=dm om;have d1':decide (0<s.size)=true:=dm h0;have d2:((s[0].toNat:Int)==45)=false:=oo.2 h45;clear hB HM h45;go_wp2_with fail
   all_goals (go_meet;exact⟨rfl,rfl⟩)
  ·
   have d1:decide (0<(s.size:Int))=true:=dm om;have d1':decide (0<s.size)=true:=dm h0;have d2:((s[0].toNat:Int)==45)=true:=by rw[h45];rfl
   clear hB HM h45;go_wp2_with fail
   all_goals (go_meet;exact⟨rfl,rfl⟩)
 case rest =>
  obtain⟨rfl,rfl⟩:=hcut
  go_upto_if 21 with(fail)
  go_cut [0] (fun v wx=>v = .string B∧wx=wc)
  case first =>
   rcases aa HM with⟨rfl,rfl,-⟩|⟨rfl,hB,h0,-⟩
   ·
    clear HM;go_wp2_with fail
    all_goals (go_meet;exact⟨rfl,rfl⟩)
   ·
    have c1:(1:Int)≤(s.size:Int):=by omega
    have HBE:=bg hB;clear HM h0 hB;go_wp2_with fail
    all_goals (go_meet;exact⟨by rw[HBE.out],rfl⟩)
  case rest =>
   obtain⟨rfl,rfl⟩:=hcut;clear HM
   go_upto_block 0 with(fail)
   go_cut [5] (fun v wx => ∃ k:Nat,v = .int .i64 (k:Int)∧wx=wc∧Hid (bgb B k))
   case first =>
    go_wp2_with fail
    go_loop [5] (fun iv => ∃ k:Nat,k≤B.size∧iv = .int .i64 (k:Int)∧Hid ((B.data.toList.take k).all mf=true)) (fun iv=>B.size-(intOf iv).toNat)
    case atStart=>exact⟨0,ug _,by first|rfl|go_num,ae rfl⟩
    case round =>
     obtain⟨k,hk,rfl,hall⟩:=hrel;have hBz:B.size≤140737488351232:=by have:=aa Cn;omega
     by_cases hlt:k<B.size
     ·
      have d1:decide ((k:Int)<(B.size:Int))=true:=dm om;have d2:decide (k<B.size)=true:=dm hlt
      cases hdg:mf B[k]with
      | false =>
       have HID:=ae (fun W=>Vb B[k].toNat false W (by rw[← hdg];rfl));have HK:=ae (show bgb B k from⟨hk,aa hall,fun c hc=>by rw[drop_at B hlt]at hc;rw[← Az hc];exact hdg⟩);clear hdg hall
       go_wp2_with (go_at_call 161;refine((aa HID) _).mono ?_;rintro e w' ⟨rfl,hww⟩;replace hww:=hww.symm;subst hww)
       all_goals (go_meet;exact⟨k,rfl,rfl,HK⟩)
      | true =>
       have HID:=ae (fun W=>Vb B[k].toNat true W (by rw[← hdg];rfl));have aiz:=ae (show(B.data.toList.take (k+1)).all mf=true by
        rw[Vd B k hlt,amt,aa hall,Xq,hdg];rfl)
       clear hdg hall
       go_wp2_with (go_at_call 161;refine((aa HID) _).mono ?_;rintro e w' ⟨rfl,hww⟩;replace hww:=hww.symm;subst hww)
       go_round
       case rel=>exact⟨k+1,by omega,by go_num,aiz⟩
       case measure=>simp[intOf]<;>omega
     ·
      have d1:decide ((k:Int)<(B.size:Int))=false:=dw om;have d2:decide (k<B.size)=false:=dw hlt;have HK:=ae (show bgb B k from⟨hk,aa hall,fun c hc=>by rw[Sg (by rw[oq];omega)]at hc;cases hc⟩);clear hall;go_wp2_with fail
      all_goals (go_meet;exact⟨k,rfl,rfl,HK⟩)
   case rest =>
    obtain⟨k,rfl,rfl,HK⟩:=hcut;have hk:=(aa HK).le;have c1:(k:Int)≤(B.size:Int):=by omega
    have hBz:B.size≤140737488351232:=by have:=aa Cn;omega
    obtain⟨a,ha⟩ : ∃ a,a=B.extract 0 k:=⟨_,rfl⟩
    have la:a.data.toList=B.data.toList.take k:=by rw[ha];exact byh B k
    have hna:=fun W=>akj a W (by rw[← oq,la,uy,oq];omega)
    have HA:=bg la;rw[ha]at hna;have Qq:=ae hna;have HEA:=bg ha;clear ha la hna;go_wp2_with fail;refine((aa Qq) _).mono ?_
    rintro e V1 hnr;rw[← HEA.out]at hnr
    rcases hnr with⟨hok,A1,c1,l1,m1,A2,c2,l2,m2,rfl,f1,hb⟩|⟨hok,rfl,hb⟩
    rotate_left
    ·
     have HP:=bg (show ou B.data.toList=none from bhv (aa HK).spl (by rw[← HA.out];exact hok));replace NR:=ae ((hb.block _ (lt_of_block (aa NR))).trans (aa NR));replace HB:=bg (az HB.out hb);clear hb hok;go_upto_region 8 with fail;have hn:=heap_alloc_new V1 (.cells #[.slice none 0 0,.bool false,.slice none 0 0,.bool false] 68);have hb:=ic (df V1.heap.size V1) (.cells #[.slice none 0 0,.bool false,.slice none 0 0,.bool false] 68);generalize V1.alloc (.cells #[.slice none 0 0,.bool false,.slice none 0 0,.bool false] 68)=W1 at *;obtain⟨bo,hbn⟩ : ∃ b,b=V1.heap.size:=⟨_,rfl⟩
     rw[← hbn]at hn ⊢;have cra:w.heap.size<bo:=by rw[hbn];exact lt_of_block (aa NR)
     clear hbn;replace NR:=ae ((hb.block _ (lt_of_block (aa NR))).trans (aa NR));replace HB:=bg (az HB.out hb);clear hb hn;have r0:W1.cell? ⟨w.heap.size,0,none⟩=some (.slice none 0 0):=ag (aa NR) 0;have Jn:=ah (aa NR) 0;have r1:W1.cell? ⟨w.heap.size,1,none⟩=some (.bool false):=ag (aa NR) 1;have Jm:=ah (aa NR) 1;have r2:W1.cell? ⟨w.heap.size,2,none⟩=some (.slice none 0 0):=ag (aa NR) 2;have Ll:=ah (aa NR) 2;have r3:W1.cell? ⟨w.heap.size,3,none⟩=some (.bool false):=ag (aa NR) 3;have Ms:=ah (aa NR) 3;have qr:=lt_of_block (aa NR);go_wp2_with fail;exact bodyPost_ret (v := .tuple #[(Value.agg #[.slice none 0 0,.bool false,.slice none 0 0,.bool false]),.bool false]) (by simp[results,results89,go_sem,r0,r1,r2,r3,qr]) rfl
      ⟨none,0,[],false,none,0,[],false,false,rfl,HB.out.grown (jo _ _ _ _ _ _) HB.out.size (fun k hk=>by injection hk with hk;omega),.inr ⟨rfl,by rw[HP.out];rfl⟩⟩
    have F1:=ae f1;have Mw:=bg hok;replace NR:=ae ((hb.block _ (lt_of_block (aa NR))).trans (aa NR));replace HB:=bg (az HB.out hb);clear hb f1 hok;go_upto_region 8 with fail;have hn:=heap_alloc_new V1 (.cells #[.slice A1 l1.length c1,.bool m1,.slice A2 l2.length c2,.bool m2] 68);have hb:=ic (df V1.heap.size V1) (.cells #[.slice A1 l1.length c1,.bool m1,.slice A2 l2.length c2,.bool m2] 68);generalize V1.alloc (.cells #[.slice A1 l1.length c1,.bool m1,.slice A2 l2.length c2,.bool m2] 68)=W1 at *;obtain⟨bo,hbn⟩ : ∃ b,b=V1.heap.size:=⟨_,rfl⟩
    rw[← hbn]at hn ⊢;have cra:w.heap.size<bo:=by rw[hbn];exact lt_of_block (aa NR)
    clear hbn;have hbq:Ex W1 bo (Rat.divInt ((ll a.data.toList:Nat)) 1):=⟨_,_,_,_,_,_,_,_,hn,(aa F1).below hb⟩
    replace NR:=ae ((hb.block _ (lt_of_block (aa NR))).trans (aa NR));replace HB:=bg (az HB.out hb);have HBQ:=ae hbq;clear hb hn hbq Qq
    go_upto_if 49 with(fail)
    go_cut [] (fun wx => ∃ q,ou B.data.toList=some q∧Ex wx bo q∧Below (w.heap.size+1) W1 wx)
    case first =>
     by_cases hlt:k<B.size
     ·
      have d1:decide ((k:Int)<(B.size:Int))=true:=dm om;have d2:decide (k<B.size)=true:=dm hlt;have c2:(k:Int)+1≤(B.size:Int):=by omega
      have c3:(0:Int)≤(k:Int)+1:=by omega
      have alg:=(aa HK).spl;rw[← HA.out]at alg;have hdr:=drop_at B hlt;obtain⟨t,ht⟩ : ∃ t,t=B.extract (k+1) B.size:=⟨_,rfl⟩
      have lt_:t.data.toList=B.data.toList.drop (k+1):=by rw[ht];exact bff B (k+1)
      rw[hdr,← lt_]at alg;have tz:t.size≤140737488351232:=by rw[← oq,lt_,Kv,oq];omega
      have Zz:=ae alg;have Zy:=bg ht;clear hdr lt_ alg ht
      by_cases c47:(B[k].toNat:Int)=47
      ·
       have e47:((B[k].toNat:Int)==47)=true:=by rw[c47];rfl
       have cka:B[k]=47:=bjr (by rw[c47];rfl);have hsp:=aa Zz;rw[cka]at hsp;have hps:=bny hsp;rw[Mw.out,ana]at hps;have HPS:=bg hps;have hnt:=fun W=>akj t W tz
       rw[Zy.out]at hnt;have HNT:=ae hnt;clear hsp hps hnt Zz cka c47 tz;go_wp2_with fail;refine((aa HNT) _).mono ?_
       rintro e V2 hnr;rw[← Zy.out]at hnr
       rcases hnr with⟨hok,A3,c3,l3,m3,A4,c4,l4,m4,rfl,f3,hb⟩|⟨hok,rfl,hb⟩
       rotate_left
       ·
        have HP:=bg (show ou B.data.toList=none by rw[HPS.out,hok];rfl);replace NR:=ae ((hb.block _ (lt_of_block (aa NR))).trans (aa NR));replace HB:=bg (az HB.out hb);clear hb hok;go_upto_region 16 with fail;have hn:=heap_alloc_new V2 (.cells #[.slice none 0 0,.bool false,.slice none 0 0,.bool false] 68);have hb:=ic (df V2.heap.size V2) (.cells #[.slice none 0 0,.bool false,.slice none 0 0,.bool false] 68);generalize V2.alloc (.cells #[.slice none 0 0,.bool false,.slice none 0 0,.bool false] 68)=W2 at *;obtain⟨bd,hbn⟩ : ∃ b,b=V2.heap.size:=⟨_,rfl⟩
        rw[← hbn]at hn ⊢;have bwm:w.heap.size<bd:=by rw[hbn];exact lt_of_block (aa NR)
        clear hbn;replace NR:=ae ((hb.block _ (lt_of_block (aa NR))).trans (aa NR));replace HB:=bg (az HB.out hb);clear hb hn;have r0:W2.cell? ⟨w.heap.size,0,none⟩=some (.slice none 0 0):=ag (aa NR) 0;have Jn:=ah (aa NR) 0;have r1:W2.cell? ⟨w.heap.size,1,none⟩=some (.bool false):=ag (aa NR) 1;have Jm:=ah (aa NR) 1;have r2:W2.cell? ⟨w.heap.size,2,none⟩=some (.slice none 0 0):=ag (aa NR) 2;have Ll:=ah (aa NR) 2;have r3:W2.cell? ⟨w.heap.size,3,none⟩=some (.bool false):=ag (aa NR) 3;have Ms:=ah (aa NR) 3;have qr:=lt_of_block (aa NR);go_wp2_with fail;exact bodyPost_ret (v := .tuple #[(Value.agg #[.slice none 0 0,.bool false,.slice none 0 0,.bool false]),.bool false]) (by simp[results,results89,go_sem,r0,r1,r2,r3,qr]) rfl
         ⟨none,0,[],false,none,0,[],false,false,rfl,HB.out.grown (jo _ _ _ _ _ _) HB.out.size (fun k hk=>by injection hk with hk;omega),.inr ⟨rfl,by rw[HP.out];rfl⟩⟩
       have F3:=ae f3;have HOT:=bg hok;replace HBQ:=ae ((aa HBQ).below hb);have hbl:Below (w.heap.size+1) W1 V2:=hb.mono (by have:=lt_of_block (aa NR);omega);replace NR:=ae ((hb.block _ (lt_of_block (aa NR))).trans (aa NR));replace HB:=bg (az HB.out hb);clear hb f3 hok HNT;go_upto_region 16 with fail;have hn:=heap_alloc_new V2 (.cells #[.slice A3 l3.length c3,.bool m3,.slice A4 l4.length c4,.bool m4] 68);have hb:=ic (df V2.heap.size V2) (.cells #[.slice A3 l3.length c3,.bool m3,.slice A4 l4.length c4,.bool m4] 68);generalize V2.alloc (.cells #[.slice A3 l3.length c3,.bool m3,.slice A4 l4.length c4,.bool m4] 68)=W2 at *;obtain⟨bd,hbn⟩ : ∃ b,b=V2.heap.size:=⟨_,rfl⟩
       rw[← hbn]at hn ⊢;have bwm:w.heap.size<bd:=by rw[hbn];exact lt_of_block (aa NR)
       clear hbn;replace F3:=ae ((aa F3).below hb);replace HBQ:=ae ((aa HBQ).below hb);replace hbl:=hbl.trans (hb.mono (by have:=lt_of_block (aa NR);omega));replace NR:=ae ((hb.block _ (lt_of_block (aa NR))).trans (aa NR));replace HB:=bg (az HB.out hb);have kd0:W2.cell? ⟨bd,0,none⟩=some (.slice A3 l3.length c3):=ag hn 0;have kd1:W2.cell? ⟨bd,1,none⟩=some (.bool m3):=ag hn 1;have kd2:W2.cell? ⟨bd,2,none⟩=some (.slice A4 l4.length c4):=ag hn 2;have kd3:W2.cell? ⟨bd,3,none⟩=some (.bool m4):=ag hn 3;have HZ:=ae (fun W (hW:Below W2.heap.size W2 W)=>asx A3 c3 l3 m3 A4 c4 l4 m4 _ W ((aa F3).below hW));rw[awm]at HZ;have JD:=ae hn;clear hb hn
       by_cases hz:t.data.toList=[48]
       ·
        have HP:=bg (show ou B.data.toList=none by rw[HPS.out,hz];simp);have hv0:(ll t.data.toList:Int)=0:=by rw[hz];rfl
        rw[hv0,dm rfl]at HZ;clear hv0 hz;go_wp2_with fail;refine((aa HZ) _ (df _ _)).mono ?_
        rintro e V3 ⟨rfl,hb⟩;replace NR:=ae ((hb.block _ (lt_of_block (aa NR))).trans (aa NR));replace HB:=bg (az HB.out hb);clear hb;have r0:V3.cell? ⟨w.heap.size,0,none⟩=some (.slice none 0 0):=ag (aa NR) 0;have Jn:=ah (aa NR) 0;have r1:V3.cell? ⟨w.heap.size,1,none⟩=some (.bool false):=ag (aa NR) 1;have Jm:=ah (aa NR) 1;have r2:V3.cell? ⟨w.heap.size,2,none⟩=some (.slice none 0 0):=ag (aa NR) 2;have Ll:=ah (aa NR) 2;have r3:V3.cell? ⟨w.heap.size,3,none⟩=some (.bool false):=ag (aa NR) 3;have Ms:=ah (aa NR) 3;have qr:=lt_of_block (aa NR);go_wp2_with fail;exact bodyPost_ret (v := .tuple #[(Value.agg #[.slice none 0 0,.bool false,.slice none 0 0,.bool false]),.bool false]) (by simp[results,results89,go_sem,r0,r1,r2,r3,qr]) rfl
         ⟨none,0,[],false,none,0,[],false,false,rfl,HB.out.grown (jo _ _ _ _ _ _) HB.out.size (fun k hk=>by injection hk with hk;omega),.inr ⟨rfl,by rw[HP.out];rfl⟩⟩
       ·
        have hv0 : ¬ (ll t.data.toList:Int)=0:=fun h=>hz ((aqo HOT.out).1 om)
        have aci:ou B.data.toList=some (Rat.divInt (ll a.data.toList:Nat) (ll t.data.toList:Nat)):=by
         rw[HPS.out,HOT.out,oo.2 hz];rfl
        rw[dw hv0]at HZ;have na:=Ug Mw.out;have nt:=Ug HOT.out;have za:=(afd (Lf _ (Gb Mw.out))).mono Bw (show a.data.toList.length/9+1≤4 by omega);have zt:=(afd (Lf _ (Gb HOT.out))).mono Bw (show t.data.toList.length/9+1≤4 by omega);obtain⟨x,hx⟩ : ∃ x:Int,x=(ll a.data.toList:Nat):=⟨_,rfl⟩
        obtain⟨y,hy⟩ : ∃ y:Int,y=(ll t.data.toList:Nat):=⟨_,rfl⟩
        rw[← hx]at HBQ aci za;rw[← hy]at F3 aci zt hv0;have HPQ:=bg aci;have HDV:Hid (∀ (A1:Option Addr) (c1:Nat) (l1:List Nat) (m1:Bool) (A2:Option Addr) (c2:Nat) (l2:List Nat) (m2:Bool) (A3:Option Addr) (c3:Nat) (l3:List Nat) (m3:Bool) (A4:Option Addr) (c4:Nat) (l4:List Nat) (m4:Bool) W,QV W A1 c1 l1 m1 A2 c2 l2 m2 (Rat.divInt (x) 1)→QV W A3 c3 l3 m3 A4 c4 l4 m4 (Rat.divInt (y) 1)→Calls prog 64 #[(Value.agg #[.slice A1 l1.length c1,.bool m1,.slice A2 l2.length c2,.bool m2]),(Value.agg #[.slice A3 l3.length c3,.bool m3,.slice A4 l4.length c4,.bool m4])] W fun e w'=>QR W (Rat.divInt x y) e w'):=fun A1 c1 l1 m1 A2 c2 l2 m2 A3 c3 l3 m3 A4 c4 l4 m4 W g1 g3=>by have h:=aki 4 A1 c1 l1 m1 A2 c2 l2 m2 A3 c3 l3 m3 A4 c4 l4 m4 _ _ W g1 g3 (aaz za om) (aaz zt om) om (by rw[awm];exact hv0);rwa[bfh]at h
        clear hz hv0 aci na nt za zt hx hy;go_wp2_with fail;refine((aa HZ) _ (df _ _)).mono ?_
        rintro e V3 ⟨rfl,hb⟩;replace F3:=ae ((aa F3).below hb);replace HBQ:=ae ((aa HBQ).below hb);replace hbl:=hbl.trans (hb.mono (by have:=lt_of_block (aa NR);omega));have jd:=(hb.block _ (lt_of_block (aa JD))).trans (aa JD);clear kd0 kd1 kd2 kd3;replace NR:=ae ((hb.block _ (lt_of_block (aa NR))).trans (aa NR));replace HB:=bg (az HB.out hb);clear hb;obtain⟨A5,c5,l5,m5,A6,c6,l6,m6,j1,f5⟩:=aa HBQ;have kd0:V3.cell? ⟨bd,0,none⟩=some (.slice A3 l3.length c3):=ag jd 0;have kd1:V3.cell? ⟨bd,1,none⟩=some (.bool m3):=ag jd 1;have kd2:V3.cell? ⟨bd,2,none⟩=some (.slice A4 l4.length c4):=ag jd 2;have kd3:V3.cell? ⟨bd,3,none⟩=some (.bool m4):=ag jd 3;have Tm:V3.cell? ⟨bo,0,none⟩=some (.slice A5 l5.length c5):=ag j1 0;have Tf:=ah j1 0;have Tk:V3.cell? ⟨bo,1,none⟩=some (.bool m5):=ag j1 1;have Te:=ah j1 1;have Tj:V3.cell? ⟨bo,2,none⟩=some (.slice A6 l6.length c6):=ag j1 2;have Td:=ah j1 2;have aho:V3.cell? ⟨bo,3,none⟩=some (.bool m6):=ag j1 3;have agx:=ah j1 3;have qx:=lt_of_block j1;have J1:=ae j1;have F5:=ae f5;clear jd j1 f5 JD;go_wp2_with fail;refine((aa HDV) A5 c5 l5 m5 A6 c6 l6 m6 A3 c3 l3 m3 A4 c4 l4 m4 _ (aa F5) (aa F3)).mono ?_
        rintro e V4 ⟨A7,c7,l7,m7,A8,c8,l8,m8,rfl,g7,g8,hb⟩;have hst:=anq (aao ⟨_,_,_,_,_,_,_,_,aa J1,aa F5⟩ hb) (QV.of g7 g8) (hbl.trans (hb.mono (by have:=lt_of_block (aa NR);omega))) om (by have:=hb.size;have:=lt_of_block (aa NR);omega);obtain⟨hc,hfz⟩:=fq hb;replace Tm:=(hc _ _ qx).trans Tm;replace Tf:=(hfz _ _ qx).trans Tf;replace Tk:=(hc _ _ qx).trans Tk;replace Te:=(hfz _ _ qx).trans Te;replace Tj:=(hc _ _ qx).trans Tj;replace Td:=(hfz _ _ qx).trans Td;replace aho:=(hc _ _ qx).trans aho;replace agx:=(hfz _ _ qx).trans agx;clear g7 g8 hb hc hfz;go_wp2_with fail
        all_goals (go_meet;exact⟨_,HPQ.out,hst.1,hst.2⟩)
      ·
       have e47:((B[k].toNat:Int)==47)=false:=oo.2 c47
       by_cases c46:(B[k].toNat:Int)=46
       ·
        have e46:((B[k].toNat:Int)==46)=true:=by rw[c46];rfl
        have ckb:B[k]=46:=bjr (by rw[c46];rfl);have hsp:=aa Zz;rw[ckb]at hsp;have hps:=bnz hsp;rw[Mw.out,ana]at hps;have HPS:=bg hps;have hnt:=fun W=>aog t W tz
        rw[Zy.out]at hnt;have HNT:=ae hnt;clear hsp hps hnt Zz ckb c46 c47;go_wp2_with fail;refine((aa HNT) _).mono ?_
        rintro e V2 hnr;rw[← Zy.out]at hnr
        rcases hnr with⟨hok,A3,c3,l3,m3,A4,c4,l4,m4,rfl,f3,hb⟩|⟨hok,rfl,hb⟩
        rotate_left
        ·
         have HP:=bg (show ou B.data.toList=none by
          rw[HPS.out,if_neg (fun h=>by rw[(uj.1 h).2.2]at hok;cases hok)])
         replace NR:=ae ((hb.block _ (lt_of_block (aa NR))).trans (aa NR));replace HB:=bg (az HB.out hb);clear hb hok tz;go_upto_region 21 with fail;have hn:=heap_alloc_new V2 (.cells #[.slice none 0 0,.bool false,.slice none 0 0,.bool false] 68);have hb:=ic (df V2.heap.size V2) (.cells #[.slice none 0 0,.bool false,.slice none 0 0,.bool false] 68);generalize V2.alloc (.cells #[.slice none 0 0,.bool false,.slice none 0 0,.bool false] 68)=W2 at *;obtain⟨bd,hbn⟩ : ∃ b,b=V2.heap.size:=⟨_,rfl⟩
         rw[← hbn]at hn ⊢;have bwm:w.heap.size<bd:=by rw[hbn];exact lt_of_block (aa NR)
         clear hbn;replace NR:=ae ((hb.block _ (lt_of_block (aa NR))).trans (aa NR));replace HB:=bg (az HB.out hb);clear hb hn;have r0:W2.cell? ⟨w.heap.size,0,none⟩=some (.slice none 0 0):=ag (aa NR) 0;have Jn:=ah (aa NR) 0;have r1:W2.cell? ⟨w.heap.size,1,none⟩=some (.bool false):=ag (aa NR) 1;have Jm:=ah (aa NR) 1;have r2:W2.cell? ⟨w.heap.size,2,none⟩=some (.slice none 0 0):=ag (aa NR) 2;have Ll:=ah (aa NR) 2;have r3:W2.cell? ⟨w.heap.size,3,none⟩=some (.bool false):=ag (aa NR) 3;have Ms:=ah (aa NR) 3;have qr:=lt_of_block (aa NR);go_wp2_with fail;exact bodyPost_ret (v := .tuple #[(Value.agg #[.slice none 0 0,.bool false,.slice none 0 0,.bool false]),.bool false]) (by simp[results,results89,go_sem,r0,r1,r2,r3,qr]) rfl
          ⟨none,0,[],false,none,0,[],false,false,rfl,HB.out.grown (jo _ _ _ _ _ _) HB.out.size (fun k hk=>by injection hk with hk;omega),.inr ⟨rfl,by rw[HP.out];rfl⟩⟩
        have F3:=ae f3;have HOT:=bg hok;replace HBQ:=ae ((aa HBQ).below hb);have hbl:Below (w.heap.size+1) W1 V2:=hb.mono (by have:=lt_of_block (aa NR);omega);replace NR:=ae ((hb.block _ (lt_of_block (aa NR))).trans (aa NR));replace HB:=bg (az HB.out hb);clear hb f3 hok HNT;obtain⟨lb,hlb⟩ : ∃ b:Bool,b=decide (0<t.data.toList.length):=⟨_,rfl⟩
        rw[← hlb];have HLB:=bg hlb;clear hlb;go_upto_region 21 with fail;have hn:=heap_alloc_new V2 (.cells #[.slice A3 l3.length c3,.bool m3,.slice A4 l4.length c4,.bool m4] 68);have hb:=ic (df V2.heap.size V2) (.cells #[.slice A3 l3.length c3,.bool m3,.slice A4 l4.length c4,.bool m4] 68);generalize V2.alloc (.cells #[.slice A3 l3.length c3,.bool m3,.slice A4 l4.length c4,.bool m4] 68)=W2 at *;obtain⟨bd,hbn⟩ : ∃ b,b=V2.heap.size:=⟨_,rfl⟩
        rw[← hbn]at hn ⊢;have bwm:w.heap.size<bd:=by rw[hbn];exact lt_of_block (aa NR)
        clear hbn;replace F3:=ae ((aa F3).below hb);replace HBQ:=ae ((aa HBQ).below hb);replace hbl:=hbl.trans (hb.mono (by have:=lt_of_block (aa NR);omega));replace NR:=ae ((hb.block _ (lt_of_block (aa NR))).trans (aa NR));replace HB:=bg (az HB.out hb);have JD:=ae hn;clear hb hn
        cases lb with
        | false =>
         have HP:=bg (show ou B.data.toList=none by
          rw[HPS.out,if_neg (fun h=>by have h1:=(uj.1 h).1;have h2:=Uv HLB.out.symm;omega)])
         clear tz;have r0:W2.cell? ⟨w.heap.size,0,none⟩=some (.slice none 0 0):=ag (aa NR) 0;have Jn:=ah (aa NR) 0;have r1:W2.cell? ⟨w.heap.size,1,none⟩=some (.bool false):=ag (aa NR) 1;have Jm:=ah (aa NR) 1;have r2:W2.cell? ⟨w.heap.size,2,none⟩=some (.slice none 0 0):=ag (aa NR) 2;have Ll:=ah (aa NR) 2;have r3:W2.cell? ⟨w.heap.size,3,none⟩=some (.bool false):=ag (aa NR) 3;have Ms:=ah (aa NR) 3;have qr:=lt_of_block (aa NR);go_wp2_with fail;exact bodyPost_ret (v := .tuple #[(Value.agg #[.slice none 0 0,.bool false,.slice none 0 0,.bool false]),.bool false]) (by simp[results,results89,go_sem,r0,r1,r2,r3,qr]) rfl
          ⟨none,0,[],false,none,0,[],false,false,rfl,HB.out.grown (jo _ _ _ _ _ _) HB.out.size (fun k hk=>by injection hk with hk;omega),.inr ⟨rfl,by rw[HP.out];rfl⟩⟩
        | true =>
         have ets:(B.extract (k+1) B.size).size=t.size:=by rw[← Zy.out]
         by_cases h12:12<(t.size:Int)
         ·
          have HP:=bg (show ou B.data.toList=none by
           rw[HPS.out,if_neg (fun h=>by have h1:=(uj.1 h).2.1;rw[oq]at h1;omega)])
          have d5:decide (12<((B.extract (k+1) B.size).size:Int))=true:=dm (by rw[ets];exact h12);rw[← Zy.out]at d5;clear tz h12 ets;rw[← Zy.out];have r0:W2.cell? ⟨w.heap.size,0,none⟩=some (.slice none 0 0):=ag (aa NR) 0;have Jn:=ah (aa NR) 0;have r1:W2.cell? ⟨w.heap.size,1,none⟩=some (.bool false):=ag (aa NR) 1;have Jm:=ah (aa NR) 1;have r2:W2.cell? ⟨w.heap.size,2,none⟩=some (.slice none 0 0):=ag (aa NR) 2;have Ll:=ah (aa NR) 2;have r3:W2.cell? ⟨w.heap.size,3,none⟩=some (.bool false):=ag (aa NR) 3;have Ms:=ah (aa NR) 3;have qr:=lt_of_block (aa NR);go_wp2_with fail;exact bodyPost_ret (v := .tuple #[(Value.agg #[.slice none 0 0,.bool false,.slice none 0 0,.bool false]),.bool false]) (by simp[results,results89,go_sem,r0,r1,r2,r3,qr]) rfl
           ⟨none,0,[],false,none,0,[],false,false,rfl,HB.out.grown (jo _ _ _ _ _ _) HB.out.size (fun k hk=>by injection hk with hk;omega),.inr ⟨rfl,by rw[HP.out];rfl⟩⟩
         ·
          have d5:decide (12<(t.size:Int))=false:=dw h12;have hl:1≤t.data.toList.length:=by have:=sw HLB.out.symm;omega
          have aci:ou B.data.toList=some (Rat.divInt (ll (a.data.toList++t.data.toList):Nat) ((10^t.data.toList.length:Nat):Int)):=by
           rw[HPS.out,if_pos (uj.2 ⟨hl,by rw[oq];omega,HOT.out⟩)]
          rw[← bwg]at aci;have na:=Ug Mw.out;have za:=(afd (Lf _ (Gb Mw.out))).mono Bw (show a.data.toList.length/9+1≤4 by omega);have hl12:t.data.toList.length≤12:=by rw[oq];omega
          have zt:=(afd (Lf _ HOT.out)).mono Bw (show t.data.toList.length/9+1≤4 by omega);have zp:je dz 4 ((10^t.data.toList.length:Nat):Int):=(afd (k:=13) (Dm (Ho om hl12) de)).mono Bw om;have hp0:(10^t.data.toList.length:Nat)≠0:=by have:=wz (n:=t.data.toList.length) (show 0<10 by decide);omega
          have hpw:=fun A7 c7 l7 m7 A8 c8 l8 m8 W (g:QV W A7 c7 l7 m7 A8 c8 l8 m8 (Rat.divInt (10) 1))=>buv A7 c7 l7 m7 A8 c8 l8 m8 (Rat.divInt 10 1) t.size 1 W g (aaz (ahc de) om) om om
          rw[bht,← oq]at hpw;rw[oq]at hpw;obtain⟨x,hx⟩ : ∃ x:Int,x=(ll a.data.toList:Nat):=⟨_,rfl⟩
          obtain⟨y,hy⟩ : ∃ y:Int,y=(ll t.data.toList:Nat):=⟨_,rfl⟩
          obtain⟨z,hz⟩ : ∃ z:Int,z=((10^t.data.toList.length:Nat):Int):=⟨_,rfl⟩
          have hz2:((10^t.size:Nat):Int)=z:=by rw[hz,oq]
          rw[hz2]at hpw;have hz0:z≠0:=by omega
          rw[← hx]at HBQ aci za;rw[← hy]at F3 aci zt;rw[← hz]at aci zp;have HPQ:=bg aci;have HPW:=ae hpw;have bgj:=ae (fun W=>agz 10 W om om);have HDV:Hid (∀ (A3:Option Addr) (c3:Nat) (l3:List Nat) (m3:Bool) (A4:Option Addr) (c4:Nat) (l4:List Nat) (m4:Bool) (A9:Option Addr) (c9:Nat) (l9:List Nat) (m9:Bool) (Zo:Option Addr) (c10:Nat) (l10:List Nat) (m10:Bool) W,QV W A3 c3 l3 m3 A4 c4 l4 m4 (Rat.divInt (y) 1)→QV W A9 c9 l9 m9 Zo c10 l10 m10 (Rat.divInt (z) 1)→Calls prog 64 #[(Value.agg #[.slice A3 l3.length c3,.bool m3,.slice A4 l4.length c4,.bool m4]),(Value.agg #[.slice A9 l9.length c9,.bool m9,.slice Zo l10.length c10,.bool m10])] W fun e w'=>QR W (Rat.divInt y z) e w'):=fun A3 c3 l3 m3 A4 c4 l4 m4 A9 c9 l9 m9 Zo c10 l10 m10 W g3 g9=>by have h:=aki 4 A3 c3 l3 m3 A4 c4 l4 m4 A9 c9 l9 m9 Zo c10 l10 m10 _ _ W g3 g9 (aaz zt om) (aaz zp om) om (by rw[awm];exact hz0);rwa[bfh]at h
          have HAD:Hid (∀ (A5:Option Addr) (c5:Nat) (l5:List Nat) (m5:Bool) (A6:Option Addr) (c6:Nat) (l6:List Nat) (m6:Bool) (A11:Option Addr) (c11:Nat) (Zv:List Nat) (m11:Bool) (A12:Option Addr) (c12:Nat) (l12:List Nat) (m12:Bool) W,QV W A5 c5 l5 m5 A6 c6 l6 m6 (Rat.divInt (x) 1)→QV W A11 c11 Zv m11 A12 c12 l12 m12 (Rat.divInt y z)→Calls prog 60 #[(Value.agg #[.slice A5 l5.length c5,.bool m5,.slice A6 l6.length c6,.bool m6]),(Value.agg #[.slice A11 Zv.length c11,.bool m11,.slice A12 l12.length c12,.bool m12])] W fun e w'=>QR W (Rat.divInt x 1+Rat.divInt y z) e w'):=fun A5 c5 l5 m5 A6 c6 l6 m6 A11 c11 Zv m11 A12 c12 l12 m12 W g5 g11=>bpg 4 A5 c5 l5 m5 A6 c6 l6 m6 A11 c11 Zv m11 A12 c12 l12 m12 _ _ W g5 g11 (aaz za om) (aaq hz0 zt zp) om
          obtain⟨A5,c5,l5,m5,A6,c6,l6,m6,j1,f5⟩:=aa HBQ;have kd0:W2.cell? ⟨bd,0,none⟩=some (.slice A3 l3.length c3):=ag (aa JD) 0;have kd1:W2.cell? ⟨bd,1,none⟩=some (.bool m3):=ag (aa JD) 1;have kd2:W2.cell? ⟨bd,2,none⟩=some (.slice A4 l4.length c4):=ag (aa JD) 2;have kd3:W2.cell? ⟨bd,3,none⟩=some (.bool m4):=ag (aa JD) 3;have Tm:W2.cell? ⟨bo,0,none⟩=some (.slice A5 l5.length c5):=ag j1 0;have Tf:=ah j1 0;have Tk:W2.cell? ⟨bo,1,none⟩=some (.bool m5):=ag j1 1;have Te:=ah j1 1;have Tj:W2.cell? ⟨bo,2,none⟩=some (.slice A6 l6.length c6):=ag j1 2;have Td:=ah j1 2;have aho:W2.cell? ⟨bo,3,none⟩=some (.bool m6):=ag j1 3;have agx:=ah j1 3;have qx:=lt_of_block j1;have qd:=lt_of_block (aa JD);have J1:=ae j1;have F5:=ae f5;clear j1 f5 h12 hl aci na za hl12 zt zp hp0 hpw hx hy hz hz2 hz0 tz ets;rw[← Zy.out];go_upto_region 23 with fail
          go_region_with (first|(go_at_call 95;refine((aa bgj) _).mono ?_;rintro e w' ⟨A7,c7,l7,m7,A8,c8,l8,m8,rfl,g1,g2,Rt⟩;have Vm:=QV.of g1 g2;clear g1 g2;have hbw:=cz (w:=W2) (by(first|with_reducible assumption|(repeat (first|with_reducible exact df _ _|with_reducible assumption|refine ny ?_|(refine qz ?_ zx _)|refine ky ?_ _)))) Rt;obtain⟨hc,hfz⟩:=fq hbw)|(go_at_call 71;refine((aa HPW) A7 c7 l7 m7 A8 c8 l8 m8 _ (by first|exact Vm|exact QV.below Vm (by(first|with_reducible assumption|(repeat (first|with_reducible exact df _ _|with_reducible assumption|refine ny ?_|(refine qz ?_ zx _)|refine ky ?_ _)))))).mono ?_;rintro e w' ⟨A9,c9,l9,m9,Zo,c10,l10,m10,rfl,iq9,lh⟩;have hbw:=cz (w:=W2) (by(first|with_reducible assumption|(repeat (first|with_reducible exact df _ _|with_reducible assumption|refine ny ?_|(refine qz ?_ zx _)|refine ky ?_ _)))) lh;obtain⟨hc,hfz⟩:=fq hbw)|(go_at_call 64;refine((aa HDV) A3 c3 l3 m3 A4 c4 l4 m4 A9 c9 l9 m9 Zo c10 l10 m10 _ (QV.below (aa F3) (by(first|with_reducible assumption|(repeat (first|with_reducible exact df _ _|with_reducible assumption|refine ny ?_|(refine qz ?_ zx _)|refine ky ?_ _))))) (by first|exact iq9|exact QV.below iq9 (by(first|with_reducible assumption|(repeat (first|with_reducible exact df _ _|with_reducible assumption|refine ny ?_|(refine qz ?_ zx _)|refine ky ?_ _)))))).mono ?_;rintro e w' ⟨A11,c11,Zv,m11,A12,c12,l12,m12,rfl,g1,g2,csg⟩;have cie:=QV.of g1 g2;clear g1 g2;have hbw:=cz (w:=W2) (by(first|with_reducible assumption|(repeat (first|with_reducible exact df _ _|with_reducible assumption|refine ny ?_|(refine qz ?_ zx _)|refine ky ?_ _)))) csg;obtain⟨hc,hfz⟩:=fq hbw)|(go_at_call 60;refine((aa HAD) A5 c5 l5 m5 A6 c6 l6 m6 A11 c11 Zv m11 A12 c12 l12 m12 _ (QV.below (aa F5) (by(first|with_reducible assumption|(repeat (first|with_reducible exact df _ _|with_reducible assumption|refine ny ?_|(refine qz ?_ zx _)|refine ky ?_ _))))) (by first|exact cie|exact QV.below cie (by(first|with_reducible assumption|(repeat (first|with_reducible exact df _ _|with_reducible assumption|refine ny ?_|(refine qz ?_ zx _)|refine ky ?_ _)))))).mono ?_;rintro e w' ⟨A13,c13,l13,m13,A14,c14,l14,m14,rfl,g1,g2,csf⟩;have crj:=QV.of g1 g2;clear g1 g2;have hbw:=cz (w:=W2) (by(first|with_reducible assumption|(repeat (first|with_reducible exact df _ _|with_reducible assumption|refine ny ?_|(refine qz ?_ zx _)|refine ky ?_ _)))) csf;obtain⟨hc,hfz⟩:=fq hbw))
          all_goals
           have hst:=anq (aao ⟨_,_,_,_,_,_,_,_,aa J1,aa F5⟩ hbw) crj (hbl.trans (hbw.mono (by have:=lt_of_block (aa NR);omega))) om (by have:=hbw.size;have:=lt_of_block (aa NR);omega);go_wp2_with fail
           all_goals (go_meet;exact⟨_,HPQ.out,hst.1,hst.2⟩)
       ·
        have e46:((B[k].toNat:Int)==46)=false:=oo.2 c46;have HP:=bg (azy (aa Zz) (bjq (by show ¬ (B[k].toNat:Int)=47;exact c47)) (bjq (by show ¬ (B[k].toNat:Int)=46;exact c46)));clear c46 c47 Zz tz;have r0:W1.cell? ⟨w.heap.size,0,none⟩=some (.slice none 0 0):=ag (aa NR) 0;have Jn:=ah (aa NR) 0;have r1:W1.cell? ⟨w.heap.size,1,none⟩=some (.bool false):=ag (aa NR) 1;have Jm:=ah (aa NR) 1;have r2:W1.cell? ⟨w.heap.size,2,none⟩=some (.slice none 0 0):=ag (aa NR) 2;have Ll:=ah (aa NR) 2;have r3:W1.cell? ⟨w.heap.size,3,none⟩=some (.bool false):=ag (aa NR) 3;have Ms:=ah (aa NR) 3;have qr:=lt_of_block (aa NR);go_wp2_with fail;exact bodyPost_ret (v := .tuple #[(Value.agg #[.slice none 0 0,.bool false,.slice none 0 0,.bool false]),.bool false]) (by simp[results,results89,go_sem,r0,r1,r2,r3,qr]) rfl
         ⟨none,0,[],false,none,0,[],false,false,rfl,HB.out.grown (jo _ _ _ _ _ _) HB.out.size (fun k hk=>by injection hk with hk;omega),.inr ⟨rfl,by rw[HP.out];rfl⟩⟩
     ·
      have d1:decide ((k:Int)<(B.size:Int))=false:=dw om;have d2:decide (k<B.size)=false:=dw hlt;have alg:=(aa HK).spl;rw[← HA.out,Sg (by rw[oq];omega)]at alg;have hpe:=bhu alg;rw[if_pos Mw.out]at hpe;have HPE:=bg hpe;clear alg hpe;go_wp2_with fail
      all_goals (go_meet;exact⟨_,HPE.out,aa HBQ,df _ _⟩)
    case rest =>
     revert hcut
     generalize wc=W5;rintro⟨q,hq,hbq,hbl⟩;have HQ:=bg hq;have hbs:=hbl.size;have nr5:=(hbl.block w.heap.size om).trans (aa NR);have hw5:Below w.heap.size w W5:=HB.out.trans (hbl.mono om);obtain⟨A3,c3,l3,m3,A4,c4,l4,m4,j1,f3⟩:=hbq;have ko0:W5.cell? ⟨bo,0,none⟩=some (.slice A3 l3.length c3):=ag j1 0;have ko1:W5.cell? ⟨bo,1,none⟩=some (.bool m3):=ag j1 1;have ko2:W5.cell? ⟨bo,2,none⟩=some (.slice A4 l4.length c4):=ag j1 2;have ko3:W5.cell? ⟨bo,3,none⟩=some (.bool m4):=ag j1 3;have r0:W5.cell? ⟨w.heap.size,0,none⟩=some (.slice none 0 0):=ag nr5 0;have Jn:=ah nr5 0;have r1:W5.cell? ⟨w.heap.size,1,none⟩=some (.bool false):=ag nr5 1;have Jm:=ah nr5 1;have r2:W5.cell? ⟨w.heap.size,2,none⟩=some (.slice none 0 0):=ag nr5 2;have Ll:=ah nr5 2;have r3:W5.cell? ⟨w.heap.size,3,none⟩=some (.bool false):=ag nr5 3;have Ms:=ah nr5 3;have qr:=lt_of_block nr5;have qo:=lt_of_block j1;have lu:=bg nr5;have F3:=ae f3;clear nr5 j1 f3 hq hbl HBQ
     cases m
     ·
      go_wp2_with fail;exact bodyPost_ret (v := .tuple #[(Value.agg #[.slice A3 l3.length c3,.bool m3,.slice A4 l4.length c4,.bool m4]),.bool true]) (by simp[results,results89,go_sem,r0,r1,r2,r3,qr]) rfl
       ⟨A3,c3,l3,m3,A4,c4,l4,m4,true,rfl,hw5.grown (jo _ _ _ _ _ _) hw5.size (fun k hk=>by injection hk with hk;omega),.inl ⟨rfl,q,HQ.out,by simp,(aa F3).upto lu.out (De _ _ _ _ _ _ _ _) (jo _ _ _ _ _ _)⟩⟩
     ·
      have HNG:=ae (fun A5 c5 l5 m5 A6 c6 l6 m6 W (g:QV W A5 c5 l5 m5 A6 c6 l6 m6 (q))=>bpc A5 c5 l5 m5 A6 c6 l6 m6 q W g);have HZ:=ae (fun A5 c5 l5 m5 A6 c6 l6 m6 W (g:QV W A5 c5 l5 m5 A6 c6 l6 m6 (q))=>asx A5 c5 l5 m5 A6 c6 l6 m6 q W g);obtain⟨zb,hzb⟩ : ∃ zb,zb=decide (q.num=0):=⟨_,rfl⟩
      rw[← hzb]at HZ;have HZB:=bg hzb;clear hzb;go_wp2_with fail
      go_region_with (first|(go_at_call 134;refine((aa HNG) A3 c3 l3 m3 A4 c4 l4 m4 _ (QV.below (aa F3) (by(first|with_reducible assumption|(repeat (first|with_reducible exact df _ _|with_reducible assumption|refine ny ?_|(refine qz ?_ zx _)|refine ky ?_ _)))))).mono ?_;rintro e w' ⟨A7,c7,l7,m7,A8,c8,l8,m8,rfl,g1,g2,Rt⟩;have Vm:=QV.of g1 g2;clear g1 g2;have hbw:=cz (w:=W5) (by(first|with_reducible assumption|(repeat (first|with_reducible exact df _ _|with_reducible assumption|refine ny ?_|(refine qz ?_ zx _)|refine ky ?_ _)))) Rt;obtain⟨hc,hfz⟩:=fq hbw)|(go_at_call 63;refine((aa HZ) A3 c3 l3 m3 A4 c4 l4 m4 _ (QV.below (aa F3) (by(first|with_reducible assumption|(repeat (first|with_reducible exact df _ _|with_reducible assumption|refine ny ?_|(refine qz ?_ zx _)|refine ky ?_ _)))))).mono ?_;rintro e w' ⟨rfl,lh⟩;(try (first|replace Vm:=QV.below Vm lh|replace Vm:=(QV.below Vm (ny (df _ _))).below lh));have hbw:=cz (w:=W5) (by(first|with_reducible assumption|(repeat (first|with_reducible exact df _ _|with_reducible assumption|refine ny ?_|(refine qz ?_ zx _)|refine ky ?_ _)))) lh;obtain⟨hc,hfz⟩:=fq hbw))
      all_goals
       have Uj:=az hw5 hbw;have cnx:=bg ((hbw.block _ qr).trans lu.out);have iq:=ae (bye Vm (by(first|with_reducible assumption|(repeat (first|with_reducible exact df _ _|with_reducible assumption|refine ny ?_|(refine qz ?_ zx _)|refine ky ?_ _)))));go_wp2_with fail;exact bodyPost_ret (v := .tuple #[(Value.agg #[.slice A7 l7.length c7,.bool m7,.slice A8 l8.length c8,.bool m8]),.bool (!zb)]) (by simp[results,results89,go_sem,hc,r0,r1,r2,r3,qr]) rfl
        ⟨A7,c7,l7,m7,A8,c8,l8,m8,!zb,rfl,Uj.grown (jo _ _ _ _ _ _) Uj.size (fun k hk=>by injection hk with hk;omega),bwa HQ.out HZB.out ((aa iq).upto cnx.out (De _ _ _ _ _ _ _ _) (jo _ _ _ _ _ _))⟩


namespace Sb
theorem bcs {m:Bool} {e:Ending} (h:cbr W m o e W'):gp (RdT (ado m o)) W e W':=by
 obtain⟨A1,c1,l1,m1,A2,c2,l2,m2,ok,rfl,hb,⟨rfl,q,rfl,hnz,hq⟩|⟨rfl,htl⟩⟩:=h
 ·
  have e1:ado m (some q)=some (if m=true then -q else q):=if_neg hnz;rw[e1];exact⟨_,rfl,hb,[_,_],rfl,_,_,rfl,⟨_,rfl,gy.r hq rfl⟩,_,_,rfl,rfl,rfl⟩
 ·
  have e1:ado m o=none:=by
   rw[akk]at htl
   cases e:ado m o with
   | none=>rfl
   | some x =>
    rw[e]at htl;have h1:(jf x).e=2:=Ez Uq.e htl
    rcases cgn x with h2|h2<;>rw[h2]at h1<;>cases h1
  rw[e1];exact⟨_,rfl,hb,[_,_],rfl,_,_,rfl,⟨_,_,_,_,_,rfl,gy.vs _ [.slice A1 (List.length l1) c1,.bool m1,.slice A2 (List.length l2) c2,.bool m2] rfl⟩,_,_,rfl,rfl,rfl⟩
theorem cko (s:ByteArray) (hs:s.size≤600) (W:Wq):Calls prog 89 #[.string s] W (gp (RdT (Qt s.data.toList)) W):=by
 unfold Qt
 by_cases h:s.data.toList.head? = some 45
 ·
  rw[if_pos h];have h0:0<s.size:=by
   rw[← oq]
   cases hl:s.data.toList with
   | nil=>rw[hl]at h;cases h
   | cons c l=>exact Nat.succ_pos _
  have h1:0<s.data.toList.length:=by rw[oq];exact h0
  have hc:s[0]=45:=by
   rw[ard,Cj h1]at h;exact Az h
  have ht:(s.extract 1 s.size).data.toList=s.data.toList.tail:=by rw[bff,List.drop_one]
  have hz:(s.extract 1 s.size).size≤s.size:=by rw[← oq,ht,List.length_tail,oq];omega
  rw[← ht];exact(asv s (s.extract 1 s.size) true W om hz (.inr ⟨rfl,rfl,h0,by rw[hc];rfl⟩)).mono fun e w' h=>bcs h
 ·
  rw[if_neg h];refine(asv s s false W om (gu _) (.inl ⟨rfl,rfl,?_⟩)).mono fun e w' h=>bcs h
  rcases Fs s.size with h0|h0
  ·
   exact .inl h0
  ·
   refine .inr ⟨h0,fun hc=>h ?_⟩
   have h1:0<s.data.toList.length:=by rw[oq];exact h0
   rw[ard,Cj h1];exact Ez some (Rf.1 (by show s[0].toNat=45;omega))
end Sb


namespace Sb
theorem bhe (s:ByteArray) (w:Wq):Calls prog 52 #[.string s] w (gp (Kg (atb s)) w):=by
 obtain⟨l,hl⟩ : ∃ l,l=s.data.toList:=⟨_,rfl⟩
 have hs:s=tx l:=by rw[hl];exact(Fz s).symm
 subst hs
 clear hl
 unfold atb
 by_cases hz:600<(tx l).size
 ·
  rw[if_pos hz];exact bhd w (by rw[xw]at hz;exact hz)
 ·
  rw[if_neg hz];have hzl:l.length≤600:=by rw[xw]at hz;omega
  by_cases hin:(32:UInt8)∈l
  ·
   have ea:Nj (tx l)=tx (Au 32 l):=by unfold Nj;rw[Ac,if_pos hin]
   have eb:aij (tx l)=tx (xu 32 l):=by unfold aij;rw[Ac,if_pos hin]
   have hlen:=Ez List.length (Um hin).1;rw[Bj,Db]at hlen;have hrd : ∀ W,Calls prog 89 #[.string (tx (Au 32 l))] W (gp (RdT (Qt (Au 32 l))) W):=fun W=>cko (tx (Au 32 l)) (by rw[xw];omega) W
   rw[ea,eb,Ac,brt,atv]
   cases er:Qt (Au 32 l)with
   | none =>
    have h9:=atn (o1:=none) w hzl hin (fun W=>er ▸ hrd W) (fun x h=>by cases h)
    cases Pz (tx (xu 32 l))with
    | none=>exact h9
    | some fs=>exact h9
   | some x =>
    by_cases hp:0<x.num
    ·
     have hxr:=brc er;have h9:=aoi (b:=xu 32 l) (x:=x) (o2:=Pz (tx (xu 32 l))) (t:=anf x (Pz (tx (xu 32 l)))) w hzl ⟨fun _=>⟨er,rfl⟩,fun h=>absurd hin h⟩ hp (fun _=>hrd) (fun W=>bey _ om W) ⟨fun h=>by rw[h];rfl,fun fs h=>by
      obtain⟨g1,g2⟩:=awe (s:=tx (xu 32 l)) (by rw[xw];omega) h;rw[h];exact ayx hxr (cej hp) g1 g2⟩
     have hd:decide (0<x.num)=true:=dm hp
     cases eq:Pz (tx (xu 32 l))with
     | none=>rw[eq]at h9;exact h9
     | some fs =>
      rw[eq]at h9;show Calls _ _ _ _ (gp (Kg (if decide (0<x.num)=true then(if Mc fs=true then(if (jf x).e=0 then xk (Ew fs) (jw (jf x).n (jf x).d*Gp fs)else⟨z7,0,0,(jf x).e⟩)else⟨z7,0,0,4⟩)else⟨z7,0,0,2⟩)) w);rw[if_pos hd];have e9:anf x (some fs)=if Mc fs=true then(if (jf x).e=0 then xk (Ew fs) (jw (jf x).n (jf x).d*Gp fs)else⟨z7,0,0,(jf x).e⟩)else⟨z7,0,0,4⟩:=by
       show(if Mc fs=true then(if uw x then xk (Ew fs) (x*Gp fs)else⟨z7,0,0,3⟩)else⟨z7,0,0,4⟩)=_
       by_cases hf:uw x
       ·
        have ht:jf x=⟨x.num,x.den,0⟩:=if_pos hf;rw[ht,if_pos hf];show _=if Mc fs=true then(if (0:Int)=0 then xk (Ew fs) (jw x.num (x.den:Int)*Gp fs)else⟨z7,0,0,0⟩)else⟨z7,0,0,4⟩
        rw[if_pos rfl,cdx]
       ·
        have ht:jf x=⟨0,0,3⟩:=if_neg hf;rw[ht,if_neg hf];rfl
      rw[← e9];exact h9
    ·
     have h9:=atn (o1:=some x) w hzl hin (fun W=>er ▸ hrd W) (fun y h=>by cases h;exact hp);have hd:decide (0<x.num)=false:=dw hp
     cases Pz (tx (xu 32 l))with
     | none=>exact h9
     | some fs =>
      show Calls _ _ _ _ (gp (Kg (if decide (0<x.num)=true then _ else⟨z7,0,0,2⟩)) w);rw[if_neg (by rw[hd];decide)];exact h9
  ·
   have ea:Nj (tx l)=tx [49]:=by unfold Nj;rw[Ac,if_neg hin];rfl
   have eb:aij (tx l)=tx l:=by unfold aij;rw[Ac,if_neg hin]
   have hp1:uh [49]=⟨1,1,0⟩:=by
    have e:ou [49]=some (Rat.divInt 1 1):=by
     rw[Ko de de,if_pos de];rfl
    show(if ([49]:List UInt8).head? = some 45 then(match ou []with|some q=>if q=0 then(⟨0,0,2⟩:Uq)else jf (-q)|none=>⟨0,0,2⟩)else match ou [49]with|some q=>jf q|none=>⟨0,0,2⟩)=_;rw[if_neg de,e];exact(if_pos (by decide:uw (Rat.divInt 1 1))).trans rfl
   have hpos:ahj (tx [49])=true:=by
    unfold ahj;rw[Ac,hp1];rfl
   rw[ea,eb,Ac,hpos,hp1];have h9:=aoi (b:=l) (x:=Rat.divInt 1 1) (o2:=Pz (tx l)) (t:=anf (Rat.divInt 1 1) (Pz (tx l))) w hzl ⟨fun h=>absurd h hin,fun _=>⟨rfl,rfl⟩⟩ (by decide) (fun h=>absurd h hin) (fun W=>bey _ hzl W) ⟨fun h=>by rw[h];rfl,fun fs h=>by
    obtain⟨g1,g2⟩:=awe (s:=tx l) (by rw[xw];exact hzl) h;rw[h];exact ayx ((afe Ou).mono om om) (aks Ou om) g1 g2⟩
   cases eq:Pz (tx l)with
   | none=>rw[eq]at h9;exact h9
   | some fs =>
    rw[eq]at h9;have hf:uw (Rat.divInt 1 1):=by decide
    have e9:anf (Rat.divInt 1 1) (some fs)=if Mc fs=true then xk (Ew fs) (jw 1 1*Gp fs)else⟨z7,0,0,4⟩:=by
     show(if Mc fs=true then(if uw (Rat.divInt 1 1)then xk (Ew fs) (Rat.divInt 1 1*Gp fs)else⟨z7,0,0,3⟩)else⟨z7,0,0,4⟩)=_;rw[if_pos hf];rfl
    rw[e9]at h9;exact h9
theorem bpl (s:ByteArray) (w:Wq) (hT:yg w):Calls prog 10 #[.string s] w (gp (ax (.bool true)) w) :=
 bll (t1:=aha s) (t2:=atb s) w hT (fun W h=>bwp s W h) (fun W=>bqy s W) (fun W h=>blf s W h) (fun W=>bhe s W)
end Sb

end Go.Proofs.YtfgeaakhlcaibaaGreatDoor
namespace Go.Proofs.YtfgeaakhlcaibaaGreatDoor
open Go.Joins Go.ChangeShapes Go.WideShapes Go.ChangeAt Go.RowKit
open Go.Proofs.Tryz
open Go renaming World → Wq
variable {x q:Rat} {a t r:List UInt8} {W w w' W':Wq} {z p:Int} {fs:List (ByteArray×Int)} {b K k n B m c1 c2:Nat} {c:UInt8} {P:Program} {A1 A2:Option Addr} {l1 l2:List Nat} {m1 m2:Bool} {o:Option Rat}

theorem own:ownKnob prog.godebug=none:=by kernel_rfl
theorem bmc {H:Type} {enc:TypeId×Value→H} {f:Func} {s:ChangeSpec} {apart:Bool} {args:Array Value} {v:Value} {ds gs:List (DataW H)}
  (hW:DataW.Whole enc P f.params.toList s.vars apart W args.toList ds gs [])
  (hres:DataW.TrodAll enc P W' W.heap.size (fun _=>false) false f.resultTypes.toList (v.resultList f.resultTypes.size) (s.fn H (ds++gs)).results [])
  (hargs:DataW.TrodAll enc P W' 0 (fun b=>decide (b<W.heap.size)) true f.params.toList args.toList (s.fn H (ds++gs)).args [])
  (hvars:DataW.TrodVars enc P W' (fun b=>decide (b<W.heap.size)) s.vars (s.fn H (ds++gs)).vars []) (hb:Below W.heap.size W W') :
  s.post enc P f apart true false false W args v W' :=
 ⟨ds,gs,[],[],[],[],hW,hres,hargs,hvars,hb.frame _,fun h=>by cases h⟩

def anp : List (String × DataW Unit) := [("math/bits.deBruijn64tab", Rows.laid_math_bits_deBruijn64tab), ("unicode/utf8.acceptRanges", Rows.laid_unicode_utf8_acceptRanges), ("unicode/utf8.first", Rows.laid_unicode_utf8_first)]
theorem bpn:(Rows.laid_math_bits_deBruijn64tab:DataW Unit)=Lib.tabData .u8 (Lib.deBruijn64tab.map fun(n:Nat)=>(n:Int)):=by kernel_rfl
theorem bnj (l:List Nat) (j:Nat):(l.map fun(n:Nat)=>(n:Int)).getD j 0=((l.getD j 0:Nat):Int):=by
 rw[List.getD_eq_getElem?_getD,List.getD_eq_getElem?_getD,aad]
 cases l[j]? <;> rfl
theorem ccq (h:laidMetH prog anp W):yg W:=by
 rw[MakeChecks.laidMetH_plain _ _ _ kr]at h
 unfold anp at h
 rw[bpn]at h
 have g64 : prog.globalNamed "math/bits.deBruijn64tab" = some 1 := by kernel_rfl
 have t64:=Lib.tabIs_of_head g64 (show(prog.globals[1]?).map (·.type)=some 229 by kernel_rfl) underlying229 underlying5 kr kr h
 have cell : ∀ j,j<Lib.deBruijn64tab.length→W.cell? ⟨1,j,none⟩=some (.int .u8 (Lib.deBruijn64tab.getD j 0)):=fun j hj=>by
  have:=t64.cell g64 j (by rw[Rm];exact hj);rwa[bnj]at this
 refine⟨cell,?_⟩
 have h0:=cell 0 de
 rcases Fa 1 W.heap.size with hlt|hge
 ·
  exact hlt
 ·
  simp[World.cell?,bus hge]at h0
end Go.Proofs.YtfgeaakhlcaibaaGreatDoor
