/- Texts beneath a law of layer 1. -/
import Derived.Test.YtfgeaakhlcaibaaGreatDoorDc4
import Derived.Deep.DeepCutAuto
set_option maxRecDepth 100000
set_option maxHeartbeats 16000000
namespace Go.Proofs.YtfgeaakhlcaibaaGreatDoor
open Go.RowKit
open Go.Proofs.Tryz
open Go renaming World → Wq
variable {w w' W Wp:Wq} {l l1 xl yl l2:List Nat} {b cap n B g c1 d i c2 x base b' c y C:Nat} {A A1 A2:Option Addr} {z z1 z' z2:Int} {m m1 m2:Bool} {T:TypeId} {cs:Array Value} {q:Rat}

theorem bky (b off cap T n:Nat) (us ul vl:List Nat) (Av:Option Addr) (cv:Nat) (B top next:Nat) (w:Wq)
  (hz:ZB .u32 w b T us) (hoff:off+ul.length≤us.length) (Zf:ul=(us.drop off).take ul.length) (hcz:ul.length≤cap) (beo:cap≤9223372036854775807)
  (hv:Ws .u32 w B Av vl) (hB : ∀ bv ov,Av=some ⟨bv,ov,none⟩→bv≠b) (hBw:B≤w.heap.size) (hcv:vl.length≤cv) (bng:cv≤9223372036854775807) (hp:Uo ul vl n) (htop:top=ik vl (n-1)) (hnext:next=ik vl (n-2)) :
  Calls prog 213 #[.slice (some ⟨b,off,none⟩) (n+1) cap,.slice Av n cv,.int .u64 ((top:Nat):Int),.int .u64 ((next:Nat):Int)] w fun e w' =>
   ∃ zr q,e = .returned (.int .u32 ((q:Nat):Int))∧StepT ul vl zr q∧q<dz∧ZB .u32 w' b T (win us off zr)∧w.grownBy w' (some b):=by
 have hB0:0<dz:=by rw[fu];omega
 have hn2:=hp.n2;have Qd:=hp.acb;have huv:=hp.Ip
 obtain⟨bv,ov,hA,hbv,bep⟩:=hv om
 subst hA
 have hgw : ∀ i,i<ul.length→ik us (off+i)=ik ul i:=fun i hi=>by
  have h:=Xt us off ul hoff i hi;rwa[show win us off ul=us by rw[Zf];exact Ww us off _ hoff]at h
 have hu0:=hz.cell (off+n) om
 have hu1:=hz.cell (off+(n-1)) om
 have hu2:=hz.cell (off+(n-2)) om
 rw[hgw n om]at hu0
 rw[hgw (n-1) om]at hu1
 rw[hgw (n-2) om]at hu2
 obtain⟨x0,hx0⟩ : ∃ t,t=ik ul n:=⟨_,rfl⟩
 obtain⟨x1,hx1⟩ : ∃ t,t=ik ul (n-1):=⟨_,rfl⟩
 obtain⟨x2,hx2⟩ : ∃ t,t=ik ul (n-2):=⟨_,rfl⟩
 rw[← hx0]at hu0
 rw[← hx1]at hu1
 rw[← hx2]at hu2
 have b0:x0<dz:=by rw[hx0];exact jy hB0 _ hp.ltu _
 have b1:x1<dz:=by rw[hx1];exact jy hB0 _ hp.ltu _
 have b2:x2<dz:=by rw[hx2];exact jy hB0 _ hp.ltu _
 have bt:top<dz:=by rw[htop];exact jy hB0 _ hp.ltv _
 have bn:next<dz:=by rw[hnext];exact jy hB0 _ hp.ltv _
 obtain⟨hh,hhh⟩ : ∃ t,t=x0*dz:=⟨_,rfl⟩
 obtain⟨head,hhead⟩ : ∃ t,t=x0*dz+x1:=⟨_,rfl⟩
 obtain⟨gq,hgq⟩ : ∃ t,t=head/top:=⟨_,rfl⟩
 obtain⟨q0,hq0⟩ : ∃ t,t=min gq 4294967295:=⟨_,rfl⟩
 obtain⟨qt,hqt⟩ : ∃ t,t=q0*top:=⟨_,rfl⟩
 obtain⟨r0,hr0⟩ : ∃ t,t=head-qt:=⟨_,rfl⟩
 obtain⟨Q,hQ⟩ : ∃ t,t=bf dz ul/bf dz vl:=⟨_,rfl⟩
 have hst:=hp.start (head:=head) (top:=top) (by rw[hhead,hx0,hx1];rfl) (by rw[htop];rfl)
 rw[← hgq,← hq0,← hQ,← hqt,← hr0]at hst
 have hlow:=hp.low
 rw[← hQ,← pg,← pg,← pg,← pg,← pg,← htop,← hnext,← hx0,← hx1,← hx2,← hhead]at hlow
 have hone : ∀ q,q*(top*dz+next)≤head*dz+x2→q<dz→q≤Q+1:=fun q h1 h2=>by
  have:=hp.one (q:=q) (by rw[← pg,← pg,← pg,← pg,← pg,← htop,← hnext,← hx0,← hx1,← hx2,← hhead];exact h1) h2;rwa[← hQ]at this
 have ht0:0<top:=by rw[htop];exact abm hp.top
 have b64 : ∀ t:Nat,t<dz→t<eu:=fun t ht=>by rw[fu]at ht;rw[ja];omega
 have bsq:head<eu:=by rw[hhead];rw[fu]at *;rw[ja];omega
 have e0:IntKind.u64.wrap (x0:Int)=(x0:Int):=jm rfl (b64 _ b0)
 have e1:IntKind.u64.wrap (x1:Int)=(x1:Int):=jm rfl (b64 _ b1)
 have e2:IntKind.u64.wrap (x2:Int)=(x2:Int):=jm rfl (b64 _ b2)
 have e3:IntKind.u64.wrap ((x0:Int)*4294967296)=(hh:Int):=jm (by rw[hhh,fu];simp) (by rw[hhh];rw[fu]at *;rw[ja];omega)
 have e4:Go.bits .or .u64 (hh:Int) (x1:Int)=(head:Int):=by rw[hhh,bdb b0 b1,hhead]
 have e5:(head:Int).tdiv (top:Int)=(gq:Int):=by rw[hgq];exact(Pb _ _).symm
 have e5w:IntKind.u64.wrap (gq:Int)=(gq:Int):=jm rfl (by have:=Yg head top;omega)
 have e6:min (gq:Int) 4294967295=(q0:Int):=by rw[hq0];omega
 have e7:IntKind.u64.wrap ((q0:Int)*(top:Int))=(qt:Int):=jm (by rw[hqt];simp) (by have:=hst.2;omega)
 have e8:IntKind.u64.wrap ((head:Int)-(qt:Int))=(r0:Int):=jm (by have:=hst.2;rw[hr0];omega) (by rw[hr0];omega)
 have e9:((top:Int)==0)=false:=oo.2 om
 have e9' : ¬ ((top:Int)=0):=by omega
 have cso : ¬ (top=0):=by omega
 have f1:IntKind.i64.wrap ((n:Int)-1)=(n:Int)-1:=Es _ om
 have f2:(0:Int)≤(n:Int)-1:=by omega
 have f3:((n:Int)-1).toNat=n-1:=by omega
 have f4:IntKind.i64.wrap ((n:Int)-2)=(n:Int)-2:=Es _ om
 have f5:(0:Int)≤(n:Int)-2:=by omega
 have f6:((n:Int)-2).toNat=n-2:=by omega
 have HB2:=ae (And.intro b2 bn)
 have HST:=ae hst;have clo:=ae hlow;have cln:=ae hone;have HQ:=bg hQ;have HP:=ae hp
 have HGW:=ae hgw;have HZ:=ae hz;have HV:=ae hv;have HT:=ae (And.intro bt bsq);have amr:=ae b64
 have HWU:=bg (show win us off ul=us by rw[Zf];exact Ww us off _ hoff)
 have axf:=ae hoff;have HCV:=ae bep;have HBB:=ae (And.intro (hB bv ov rfl) (zh hbv hBw))
 have hlen1:n+1≤cap:=by omega
 have ahx:n≤cv:=by omega
 clear hst hlow hone hQ hp hgw Zf hx0 hx1 hx2 b0 b1 b2 bt bn hhh hhead hgq hq0 hqt hr0 ht0 b64 bsq htop hnext hoff hcz hcv Qd huv bep hz hv hB0 hB hbv hBw
 go_enter func213,ntmps213
 go_wp2_with fail
 go_quiet (fail)
 go_upto_block 0 with(fail)
 go_cut [11] (fun qv wx => ∃ q:Nat,qv = .int .u64 ((q:Nat):Int)∧Hid (Q≤q∧q≤Q+1∧q<dz) ∧ ∃ t,wx=w.drewN t)
 case first =>
  have HL:=clo;go_wp2_with fail
  go_loop [11,12] (fun qv rv => ∃ q r:Nat,qv = .int .u64 ((q:Nat):Int)∧rv = .int .u64 ((r:Nat):Int)∧Hid (r<eu)∧Hid (Xl dz top head Q q r)) (fun qv _=>(intOf qv).toNat)
  case atStart=>exact⟨q0,r0,rfl,rfl,show r0<eu by have h1:=(aa HST).1.eq;have h2:=(aa HT).2;omega,(aa HST).1⟩
  case round =>
   obtain⟨q,r,rfl,rfl,hr,HI⟩:=hrel
   by_cases hb:dz≤r
   ·
    have d1:decide ((r:Int)<4294967296)=false:=dw (by rw[fu]at hb;omega);have hfits:=(aa HI).fits (aa HB2).2 (d:=x2) (.inl hb);have hres:Q≤q∧q≤Q+1∧q<dz:=⟨(aa HI).ge,(aa cln) q hfits (aa HI).lt,(aa HI).lt⟩
    have HR:=ae hres;clear hfits hres hb;go_wp2_with fail
    go_meet
    exact⟨q,rfl,HR,_,rfl⟩
   ·
    have d1:decide ((r:Int)<4294967296)=true:=dm (by rw[fu]at hb;omega);have hrB:r<dz:=by omega
    obtain⟨p,Il⟩ : ∃ t,t=q*next:=⟨_,rfl⟩
    obtain⟨rs,hrs⟩ : ∃ t,t=r*dz:=⟨_,rfl⟩
    obtain⟨ro,hro⟩ : ∃ t,t=r*dz+x2:=⟨_,rfl⟩
    have hpB:p<eu:=by
     have h1:=(aa HI).lt;have h2:=(aa HB2).2;have h3:q*next≤4294967295*4294967295:=abn (by rw[fu]at h1;omega) (by rw[fu]at h2;omega)
     rw[Il,ja];omega
    have g1:IntKind.u64.wrap ((q:Int)*(next:Int))=(p:Int):=jm (by rw[Il];simp) hpB;have g2:IntKind.u64.wrap ((r:Int)*4294967296)=(rs:Int):=jm (by rw[hrs,fu];simp) (by rw[hrs];rw[fu]at *;rw[ja];omega);have g3:Go.bits .or .u64 (rs:Int) (x2:Int)=(ro:Int):=by rw[hrs,bdb hrB (aa HB2).1,hro]
    by_cases hlt:ro<p
    ·
     have d2:decide ((ro:Int)<(p:Int))=true:=dm om;have d2':decide (ro<p)=true:=dm hlt;obtain⟨h1,hstep⟩:=(aa HI).step (aa clo) (by rw[← hro,← Il];exact hlt);obtain⟨q2,hq2⟩ : ∃ t,t=q-1:=⟨_,rfl⟩
     obtain⟨r2,hr2⟩ : ∃ t,t=r+top:=⟨_,rfl⟩
     rw[← hq2,← hr2]at hstep;have bxv:r2<eu:=by have:=(aa HT).1;rw[hr2];rw[fu]at *;rw[ja];omega
     have g4:IntKind.u64.wrap ((q:Int)-1)=(q2:Int):=jm (by rw[hq2];omega) (by have:=(aa HI).lt;rw[hq2];rw[fu]at this;rw[ja];omega);have g5:IntKind.u64.wrap ((r:Int)+(top:Int))=(r2:Int):=jm (by rw[hr2];simp) bxv;have HS:=ae hstep;have HR2:=ae bxv;have HM:=ae (show q2<q by omega);clear hstep bxv hq2 hr2 h1 hlt Il hrs hro hpB hrB hb;go_wp2_with fail
     go_round
     case rel=>exact⟨q2,r2,rfl,rfl,HR2,HS⟩
     case measure=>have:=aa HM;simp[intOf];omega
    ·
     have d2:decide ((ro:Int)<(p:Int))=false:=dw om;have d2':decide (ro<p)=false:=dw hlt;have hfits:=(aa HI).fits (aa HB2).2 (d:=x2) (.inr (by rw[← hro,← Il];omega));have hres:Q≤q∧q≤Q+1∧q<dz:=⟨(aa HI).ge,(aa cln) q hfits (aa HI).lt,(aa HI).lt⟩
     have HR:=ae hres;clear hfits hres hlt Il hrs hro hpB hrB hb;go_wp2_with fail
     go_meet
     exact⟨q,rfl,HR,_,rfl⟩
 case rest =>
  obtain⟨q,rfl,HQR,t0,rfl⟩:=hcut;go_wp2_with fail
  go_loopw [13,14,15] (fun bv cv iv wr => ∃ (i c b':Nat) (zc:List Nat),i≤n+1∧bv = .int .u64 ((b':Nat):Int)∧cv = .int .u64 ((c:Nat):Int)∧iv = .int .i64 ((i:Nat):Int)∧Hid (Mh dz ul vl zc q i c b')∧Hid (i=n+1→c=0)∧ZB .u32 wr b T (win us off zc)∧w.grownBy wr (some b)) (fun _ _ iv _=>n+1-(intOf iv).toNat)
  case atStart=>exact⟨0,0,0,ul,by omega,rfl,rfl,rfl,Mh.start _ _ _ (by rw[fu];omega) (aa HP).ltu,fun _=>rfl,by rw[HWU.out];exact(aa HZ).drewN _,bhl (wy _ _) _⟩
  case round =>
   obtain⟨i,c,b',zc,hi,rfl,rfl,rfl,HI,HC0,qh,hgr⟩:=hrel;have awo:dz*dz=eu:=by rw[fu,ja]
   have hzl:=(aa HI).len
   by_cases hle:i≤n
   ·
    have d1:decide ((i:Int)≤(n:Int))=true:=dm om;have d1':decide (i≤n)=true:=dm hle;obtain⟨x,hx⟩ : ∃ t,t=ik ul i:=⟨_,rfl⟩
    have Lj:=qh.cell (off+i) (by rw[win_length _ _ _ (by rw[hzl];exact aa axf)];have h1:=(aa axf);have h2:=(aa HP).Ip;omega);rw[Xt us off zc (by rw[hzl];exact aa axf) i (by rw[hzl,(aa HP).Ip];omega),show ik zc i=ik ul i from(aa HI).same i (gu _),← hx]at Lj;have hzf:=qh.frozen (off+i);have Cf:x<dz:=by rw[hx];exact jy (by rw[fu];omega) _ (aa HP).ltu _
    by_cases hin:i<n
    ·
     have d2:decide ((i:Int)<(n:Int))=true:=dm om;have d2':decide (i<n)=true:=dm hin;obtain⟨y,hy⟩ : ∃ t,t=ik vl i:=⟨_,rfl⟩
     have hyc:=(Re (hgr.block bv (aa HBB).2 (fun e=>by injection e with e;exact(aa HBB).1 e))).trans ((aa HCV) i (by rw[(aa HP).acb];exact hin));rw[← hy]at hyc;have Gz:y<dz:=by rw[hy];exact jy (by rw[fu];omega) _ (aa HP).ltv _
     obtain⟨p,Il⟩ : ∃ t,t=q*y:=⟨_,rfl⟩
     obtain⟨t,ht⟩ : ∃ t,t=c+p:=⟨_,rfl⟩
     have htB:t<dz*dz:=by
      have h1:=Qg (z:=0) (aa HQR).2.2 Gz (aa HI).c1 (by rw[fu];omega);rw[ht,Il];omega
     have k1:IntKind.u64.wrap (y:Int)=(y:Int):=jm rfl ((aa amr) _ Gz);have k2:IntKind.u64.wrap ((q:Int)*(y:Int))=(p:Int):=jm (by rw[Il];simp) (by rw[← awo];omega);have k3:IntKind.u64.wrap ((c:Int)+(p:Int))=(t:Int):=jm (by rw[ht];simp) (by rw[← awo];exact htB);obtain⟨lo,hlo⟩ : ∃ u,u=t%dz:=⟨_,rfl⟩
     obtain⟨c2,hc2⟩ : ∃ u,u=t/dz:=⟨_,rfl⟩
     obtain⟨s1,hs1⟩ : ∃ u:Nat,(u:Int)=((x:Int)-(lo:Int))%18446744073709551616:=⟨(((x:Int)-(lo:Int))%18446744073709551616).toNat,by omega⟩
     obtain⟨s2,hs2⟩ : ∃ u:Nat,(u:Int)=((s1:Int)-(b':Int))%18446744073709551616:=⟨(((s1:Int)-(b':Int))%18446744073709551616).toNat,by omega⟩
     obtain⟨d,hd⟩ : ∃ u,u=s2%dz:=⟨_,rfl⟩
     obtain⟨b2,hb2⟩ : ∃ u,u=s2/9223372036854775808:=⟨_,rfl⟩
     have Vp:lo<dz:=by rw[hlo];exact Bf _ (by rw[fu];omega)
     have hsw:=bbw Cf Vp (aa HI).b1 hs1 hs2;rw[← hd,← hb2]at hsw;have hnew:Mh dz ul vl (zc.set i d) q (i+1) c2 b2:=by
      rw[hc2];refine(aa HI).step (by rw[(aa HP).Ip];omega) (by rw[ht,Il,hy];rfl) htB hsw.1 hsw.2.1 ?_
      rw[← hlo,← pg,← hx];exact hsw.2.2
     have m1:IntKind.u64.wrap (x:Int)=(x:Int):=jm rfl ((aa amr) _ Cf);have m2:IntKind.u32.wrap (t:Int)=(lo:Int):=by rw[Hf,hlo]
     have m2':(t:Int)%4294967296=(lo:Int):=by rw[hlo,fu];omega
     have m3:IntKind.u64.wrap (lo:Int)=(lo:Int):=jm rfl ((aa amr) _ Vp);have m4:IntKind.u64.wrap ((x:Int)-(lo:Int))=(s1:Int):=by rw[Ct,hs1]
     have m5:IntKind.u64.wrap ((s1:Int)-(b':Int))=(s2:Int):=by rw[Ct,hs2]
     have m6:IntKind.u32.wrap (s2:Int)=(d:Int):=by rw[Hf,hd]
     have m6':(s2:Int)%4294967296=(d:Int):=by rw[hd,fu];omega
     have m7:(s2:Int)/9223372036854775808=(b2:Int):=by rw[hb2];omega
     have m8:(t:Int)/4294967296=(c2:Int):=by rw[hc2,fu];omega
     have hfin : ∀ W,W=wr.setCell ⟨b,off+i,none⟩ (.int .u32 (d:Int))→ZB .u32 W b T (win us off (zc.set i d))∧w.grownBy W (some b):=by
      rintro W rfl;refine⟨?_,qy hgr _ _⟩
      rw[← Qs us off zc (by rw[hzl,(aa HP).Ip];have:=(aa axf);rw[(aa HP).Ip]at this;exact this) i d (by rw[hzl,(aa HP).Ip];omega)];exact qh.Jr _ _
     have HN:=ae hnew;have HF:=ae hfin;clear hnew hfin hsw hd hb2 hs1 hs2 hlo hc2 ht htB Vp Cf hx hzl hgr qh awo Il hy Gz;go_wp2_with fail
     go_roundw
     case rel =>
      obtain⟨r1,r2⟩:=(aa HF) _ rfl;exact⟨i+1,c2,b2,zc.set i d,by omega,rfl,rfl,by go_num,HN,fun h=>by omega,r1,r2⟩
     case measure=>simp[intOf];omega
    ·
     have d2:decide ((i:Int)<(n:Int))=false:=dw om;have d2':decide (i<n)=false:=dw hin;replace hin:i=n:=by omega
     have hy0:vl.getD i 0=0:=by
      have h:=(aa HP).acb;rw[List.getD,Ha om];rfl
     obtain⟨t,ht⟩ : ∃ t,t=c:=⟨_,rfl⟩
     have htc:(t:Int)=(c:Int):=by rw[ht]
     have htB:t<dz*dz:=by
      have h1:=(aa HI).c1;have h2:dz*1≤dz*dz:=Bo _ (by rw[fu];omega);omega
     obtain⟨lo,hlo⟩ : ∃ u,u=t%dz:=⟨_,rfl⟩
     obtain⟨c2,hc2⟩ : ∃ u,u=t/dz:=⟨_,rfl⟩
     obtain⟨s1,hs1⟩ : ∃ u:Nat,(u:Int)=((x:Int)-(lo:Int))%18446744073709551616:=⟨(((x:Int)-(lo:Int))%18446744073709551616).toNat,by omega⟩
     obtain⟨s2,hs2⟩ : ∃ u:Nat,(u:Int)=((s1:Int)-(b':Int))%18446744073709551616:=⟨(((s1:Int)-(b':Int))%18446744073709551616).toNat,by omega⟩
     obtain⟨d,hd⟩ : ∃ u,u=s2%dz:=⟨_,rfl⟩
     obtain⟨b2,hb2⟩ : ∃ u,u=s2/9223372036854775808:=⟨_,rfl⟩
     have Vp:lo<dz:=by rw[hlo];exact Bf _ (by rw[fu];omega)
     have hsw:=bbw Cf Vp (aa HI).b1 hs1 hs2;rw[← hd,← hb2]at hsw;have hnew:Mh dz ul vl (zc.set i d) q (i+1) c2 b2:=by
      rw[hc2];refine(aa HI).step (by rw[(aa HP).Ip];omega) (by rw[ht,hy0,Nr,Hr]) htB hsw.1 hsw.2.1 ?_
      rw[← hlo,← pg,← hx];exact hsw.2.2
     have m1:IntKind.u64.wrap (x:Int)=(x:Int):=jm rfl ((aa amr) _ Cf);have m2:IntKind.u32.wrap (t:Int)=(lo:Int):=by rw[Hf,hlo]
     have m2':(t:Int)%4294967296=(lo:Int):=by rw[hlo,fu];omega
     have m3:IntKind.u64.wrap (lo:Int)=(lo:Int):=jm rfl ((aa amr) _ Vp);have m4:IntKind.u64.wrap ((x:Int)-(lo:Int))=(s1:Int):=by rw[Ct,hs1]
     have m5:IntKind.u64.wrap ((s1:Int)-(b':Int))=(s2:Int):=by rw[Ct,hs2]
     have m6:IntKind.u32.wrap (s2:Int)=(d:Int):=by rw[Hf,hd]
     have m6':(s2:Int)%4294967296=(d:Int):=by rw[hd,fu];omega
     have m7:(s2:Int)/9223372036854775808=(b2:Int):=by rw[hb2];omega
     have m8:(t:Int)/4294967296=(c2:Int):=by rw[hc2,fu];omega
     have hfin : ∀ W,W=wr.setCell ⟨b,off+i,none⟩ (.int .u32 (d:Int))→ZB .u32 W b T (win us off (zc.set i d))∧w.grownBy W (some b):=by
      rintro W rfl;refine⟨?_,qy hgr _ _⟩
      rw[← Qs us off zc (by rw[hzl,(aa HP).Ip];have:=(aa axf);rw[(aa HP).Ip]at this;exact this) i d (by rw[hzl,(aa HP).Ip];omega)];exact qh.Jr _ _
     have Wt:=bg (show c2=0 by rw[hc2,ht];exact ajv (aa HI).c1);have HN:=ae hnew;have HF:=ae hfin;clear hnew hfin hsw hd hb2 hs1 hs2 hlo hc2 htB Vp Cf hx hzl hgr qh awo;have HIN:=bg hin;subst ht;clear hin hy0 htc;go_wp2_with fail
     go_roundw
     case rel =>
      obtain⟨r1,r2⟩:=(aa HF) _ rfl;exact⟨i+1,c2,b2,zc.set i d,by have:=HIN.out;omega,rfl,rfl,by go_num,HN,fun _=>Wt.out,r1,r2⟩
     case measure=>have:=HIN.out;simp[intOf];omega
   ·
    have d1:decide ((i:Int)≤(n:Int))=false:=dw om;have d1':decide (i≤n)=false:=dw hle;have e:i=n+1:=by omega
    subst e;clear hle;have hc0:=(aa HC0) rfl;subst hc0;have Zw:=(aa HQR).2.2;have j1:(q:Int)%4294967296=(q:Int):=by rw[fu]at Zw;omega
    have j2:IntKind.u32.wrap (q:Int)=(q:Int):=by rw[Sj];exact j1
    have hdone:bf dz zc+q*bf dz vl=bf dz ul+dz^(n+1)*b':=by
     have h1:=(aa HP).Ip;have h2:=aa HI;rw[← h1]at h2 ⊢;exact h2.done (by rw[h1,(aa HP).acb];omega)
    have Uk:0<bf dz vl:=by
     rcases Fs (bf dz vl)with h|h
     ·
      have:=(aa HP).pre;rw[h]at this;omega
     ·
      exact h
    have Jb:=Fv (bf dz ul) (bf dz vl);rw[← HQ.out,og]at Jb;have hml:=Bf (bf dz ul) Uk;have bmu:=Bi zc (aa HI).lt;rw[hzl,(aa HP).Ip]at bmu
    rcases(show b'=0∨b'=1 by have:=(aa HI).b1;omega)with rfl|rfl
    ·
     have hqQ:q=Q:=by
      have h1:=(aa HQR).1;have h2:=(aa HQR).2.1
      rcases(show q=Q∨q=Q+1 by omega)with h|h
      ·
       exact h
      ·
       rw[h,xm,Iy]at hdone;omega
     have hok:StepT ul vl zc q:=⟨hzl,(aa HI).lt,hqQ.trans HQ.out,by rw[hqQ]at hdone;omega⟩
     have Mw:=ae hok;clear hok hqQ hdone Uk Jb hml bmu awo Zw;go_wp2_with fail
     go_ret
     exact⟨zc,q,rfl,aa Mw,(aa HQR).2.2,qh,hgr⟩
    ·
     have hqQ:q=Q+1:=by
      have h1:=(aa HQR).1;have h2:=(aa HQR).2.1
      rcases(show q=Q∨q=Q+1 by omega)with h|h
      ·
       rw[h]at hdone;omega
      ·
       exact h
     have cjx:off+(n+1)≤us.length:=by have:=aa axf;rwa[(aa HP).Ip]at this
     have bgo:=ae cjx;have HZL:=bg (hzl.trans (aa HP).Ip);have HQQ:=bg hqQ;have HDN:=bg hdone;have HDM:=ae (And.intro Jb (And.intro hml bmu));have j3:IntKind.u64.wrap ((q:Int)-1)=(Q:Int):=jm (by rw[hqQ];omega) (by rw[fu]at Zw;rw[ja];omega);have j4:(Q:Int)%4294967296=(Q:Int):=by rw[fu]at Zw;omega
     have j5:IntKind.u32.wrap (Q:Int)=(Q:Int):=by rw[Sj];exact j4
     have HQB:=ae (show Q<dz by omega);have HZC:=ae (aa HI).lt;clear hdone Uk Jb hml bmu awo Zw cjx hqQ;go_wp2_with fail
     go_loopw [14,17] (fun cv iv wr => ∃ (i c:Nat) (zd:List Nat),i≤n+1∧cv = .int .u64 ((c:Nat):Int)∧iv = .int .i64 ((i:Nat):Int)∧Hid (Da dz zc vl zd i c)∧ZB .u32 wr b T (win us off zd)∧w.grownBy wr (some b)) (fun _ iv _=>n+1-(intOf iv).toNat)
     case atStart=>exact⟨0,0,zc,by omega,rfl,rfl,Da.start _ _ (aa HZC),qh,hgr⟩
     case round =>
      clear qh hgr;obtain⟨i,c,zd,hi,rfl,rfl,HA,qh,hgr⟩:=hrel;have ace:=(aa HA).len.trans HZL.out
      by_cases hle:i≤n
      ·
       have d1:decide ((i:Int)≤(n:Int))=true:=dm om;have d1':decide (i≤n)=true:=dm hle;obtain⟨x,hx⟩ : ∃ t,t=ik zc i:=⟨_,rfl⟩
       have Lj:=qh.cell (off+i) (by rw[win_length _ _ _ (by rw[ace];exact aa bgo)];have h1:=(aa bgo);omega);rw[Xt us off zd (by rw[ace];exact aa bgo) i (by rw[ace];omega),show ik zd i=ik zc i from(aa HA).same i (gu _),← hx]at Lj;have hzf:=qh.frozen (off+i);have Cf:x<dz:=by rw[hx];exact jy (by rw[fu];omega) _ (aa HZC) _
       by_cases hin:i<n
       ·
        have d2:decide ((i:Int)<(n:Int))=true:=dm om;have d2':decide (i<n)=true:=dm hin;obtain⟨y,hy⟩ : ∃ t,t=ik vl i:=⟨_,rfl⟩
        have hyc:=(Re (hgr.block bv (aa HBB).2 (fun e=>by injection e with e;exact(aa HBB).1 e))).trans ((aa HCV) i (by rw[(aa HP).acb];exact hin));rw[← hy]at hyc;have Gz:y<dz:=by rw[hy];exact jy (by rw[fu];omega) _ (aa HP).ltv _
        obtain⟨s,hs⟩ : ∃ u,u=c+x:=⟨_,rfl⟩
        obtain⟨t,ht⟩ : ∃ u,u=s+y:=⟨_,rfl⟩
        have hcB:=(aa HA).c1;have k1:IntKind.u64.wrap (y:Int)=(y:Int):=jm rfl ((aa amr) _ Gz);have k2:IntKind.u64.wrap ((c:Int)+(x:Int))=(s:Int):=jm (by rw[hs];simp) (by rw[hs];rw[fu]at *;rw[ja];omega);have k3:IntKind.u64.wrap ((s:Int)+(y:Int))=(t:Int):=jm (by rw[ht];simp) (by rw[ht,hs];rw[fu]at *;rw[ja];omega);have het:zd.getD i 0+vl.getD i 0+c=t:=by rw[ht,hs,hx,hy,(aa HA).same i (gu _)];show _+ik vl i+c=c+ik zc i+ik vl i;rw[show zc.getD i 0=ik zc i from rfl];omega
        obtain⟨d,hd⟩ : ∃ u,u=t%dz:=⟨_,rfl⟩
        obtain⟨c2,hc2⟩ : ∃ u,u=t/dz:=⟨_,rfl⟩
        have hnew:Da dz zc vl (zd.set i d) (i+1) c2:=by
         have:=(aa HA).step Bw (aa HP).ltv (by rw[HZL.out];omega);rw[het]at this;rw[hd,hc2];exact this
        have m1:IntKind.u64.wrap (x:Int)=(x:Int):=jm rfl ((aa amr) _ Cf);have m2:IntKind.u32.wrap (t:Int)=(d:Int):=by rw[Hf,hd]
        have m2':(t:Int)%4294967296=(d:Int):=by rw[hd,fu];omega
        have m8:(t:Int)/4294967296=(c2:Int):=by rw[hc2,fu];omega
        have hfin : ∀ W,W=wr.setCell ⟨b,off+i,none⟩ (.int .u32 (d:Int))→ZB .u32 W b T (win us off (zd.set i d))∧w.grownBy W (some b):=by
         rintro W rfl;refine⟨?_,qy hgr _ _⟩
         rw[← Qs us off zd (by rw[ace];exact aa bgo) i d (by rw[ace];omega)];exact qh.Jr _ _
        have HN:=ae hnew;have HF:=ae hfin;have HIN:=bg hin;clear hnew hfin het hd hc2 ht Cf hx ace hgr qh hcB hin hs hy Gz;go_wp2_with fail
        go_roundw
        case rel =>
         obtain⟨r1,r2⟩:=(aa HF) _ rfl;exact⟨i+1,c2,zd.set i d,by have:=HIN.out;omega,rfl,by go_num,HN,r1,r2⟩
        case measure=>have:=HIN.out;simp[intOf];omega
       ·
        have d2:decide ((i:Int)<(n:Int))=false:=dw om;have d2':decide (i<n)=false:=dw hin;replace hin:i=n:=by omega
        have hy0:vl.getD i 0=0:=by
         have h:=(aa HP).acb;rw[List.getD,Ha om];rfl
        obtain⟨t,ht⟩ : ∃ u,u=c+x:=⟨_,rfl⟩
        have hcB:=(aa HA).c1;have k2:IntKind.u64.wrap ((c:Int)+(x:Int))=(t:Int):=jm (by rw[ht];simp) (by rw[ht];rw[fu]at *;rw[ja];omega);have het:zd.getD i 0+vl.getD i 0+c=t:=by rw[ht,hx,hy0,(aa HA).same i (gu _)];show _+0+c=c+ik zc i;rw[show zc.getD i 0=ik zc i from rfl];omega
        obtain⟨d,hd⟩ : ∃ u,u=t%dz:=⟨_,rfl⟩
        obtain⟨c2,hc2⟩ : ∃ u,u=t/dz:=⟨_,rfl⟩
        have hnew:Da dz zc vl (zd.set i d) (i+1) c2:=by
         have:=(aa HA).step Bw (aa HP).ltv (by rw[HZL.out];omega);rw[het]at this;rw[hd,hc2];exact this
        have m1:IntKind.u64.wrap (x:Int)=(x:Int):=jm rfl ((aa amr) _ Cf);have m2:IntKind.u32.wrap (t:Int)=(d:Int):=by rw[Hf,hd]
        have m2':(t:Int)%4294967296=(d:Int):=by rw[hd,fu];omega
        have m8:(t:Int)/4294967296=(c2:Int):=by rw[hc2,fu];omega
        have hfin : ∀ W,W=wr.setCell ⟨b,off+i,none⟩ (.int .u32 (d:Int))→ZB .u32 W b T (win us off (zd.set i d))∧w.grownBy W (some b):=by
         rintro W rfl;refine⟨?_,qy hgr _ _⟩
         rw[← Qs us off zd (by rw[ace];exact aa bgo) i d (by rw[ace];omega)];exact qh.Jr _ _
        have HN:=ae hnew;have HF:=ae hfin;have HIN:=bg hin;clear hnew hfin het hd hc2 ht Cf hx ace hgr qh hcB hin hy0;go_wp2_with fail
        go_roundw
        case rel =>
         obtain⟨r1,r2⟩:=(aa HF) _ rfl;exact⟨i+1,c2,zd.set i d,by have:=HIN.out;omega,rfl,by go_num,HN,r1,r2⟩
        case measure=>have:=HIN.out;simp[intOf];omega
      ·
       have d1:decide ((i:Int)≤(n:Int))=false:=dw om;have d1':decide (i≤n)=false:=dw hle;have e:i=n+1:=by omega
       subst e;have hok:StepT ul vl zd Q:=by
        have h1:bf dz zd+dz^(n+1)*c=bf dz zc+bf dz vl:=by
         have h2:=aa HA;rw[← HZL.out]at h2 ⊢;exact h2.done (by rw[HZL.out,(aa HP).acb];omega)
        have h3:=Bi zd (aa HA).lt;rw[ace]at h3;have h4:=HDN.out;rw[HQQ.out,xm,Iy,Ns]at h4;have h5:=(aa HDM).1;have h6:=(aa HDM).2.2;have hc:=(aa HA).c1;refine⟨(aa HA).len.trans (HZL.out.trans (aa HP).Ip.symm),(aa HA).lt,HQ.out,?_⟩
        rcases(show c=0∨c=1 by omega)with rfl|rfl
        ·
         rw[Nr]at h1;omega
        ·
         rw[Ns]at h1;omega
       have Mw:=ae hok;clear hok hle ace;go_wp2_with fail
       go_ret
       exact⟨zd,Q,rfl,aa Mw,aa HQB,qh,hgr⟩

def avg (w:Wq) (q r:Nat) (e:Ending) (w':Wq):Prop :=
 ∃ A cap l A' cap' l',e = .returned (.tuple #[.slice A l.length cap,.slice A' l'.length cap'])∧xx w' A cap l q∧xx w' A' cap' l' r∧Below w.heap.size w w'

theorem bhg (Ax Ay:Option Addr) (cx cy:Nat) (xl yl:List Nat) (n m:Nat) (w:Wq) (hx:xx w Ax cx xl n) (hy:xx w Ay cy yl m) (hlt:n<m) :
  Calls prog 178 #[.slice Ax xl.length cx,.slice Ay yl.length cy] w fun e w'=>avg w (n/m) (n%m) e w':=by
 have hc:=Va Ax Ay cx cy xl yl n m w hx hy
 rw[show Dh n m = -1 by unfold Dh;rw[if_pos hlt]]at hc
 rw[ajv hlt,aew hlt]
 have HC:=ae hc
 have HX:=ae hx
 clear hc hx hy hlt
 go_enter func178,ntmps178
 go_wp2_with fail
 refine(aa HC).mono ?_
 rintro e w' ⟨rfl,k,rfl⟩
 go_wp2
 go_ret2
 exact⟨none,0,[],Ax,cx,xl,rfl,xx.aeg _ _ om,(aa HX).below (ky (df _ _) k),ky (df _ _) k⟩

theorem bru (Ax Ay:Option Addr) (cx cy:Nat) (xl yl:List Nat) (n m:Nat) (w:Wq) (hx:xx w Ax cx xl n) (hy:xx w Ay cy yl m) (hge : ¬ n<m) (h1:yl.length=1) (hk:xl.length≤35184372088832) :
  Calls prog 178 #[.slice Ax xl.length cx,.slice Ay yl.length cy] w fun e w'=>avg w (n/m) (n%m) e w':=by
 have hc:=Va Ax Ay cx cy xl yl n m w hx hy
 obtain⟨o,ho⟩ : ∃ o,o=Dh n m:=⟨_,rfl⟩
 rw[← ho]at hc
 have hd:decide (o<0)=false:=dw (by rw[ho];unfold Dh;rw[if_neg hge];split<;>omega)
 have HC:=ae hc
 have hmk:=aua xl.length hk
 have hx1:=hx.Aj;have hx2:=hx.cap2;have hy1:=hy.Aj;have hy2:=hy.cap2
 obtain⟨by',oy,hA,hby,hcy⟩:=hy.ws om
 subst hA
 have hy0:=hcy 0 om
 have hym:ik yl 0=m:=by rw[ahk dz yl h1];exact hy.val
 rw[hym,Hr]at hy0
 have Wn:m<dz:=by rw[← hym];exact jy (by rw[fu];omega) _ hy.lt 0
 have hm0:0<m:=by
  rcases hy.norm with h|h
  ·
   rw[h]at h1;simp at h1
  ·
   rw[h1]at h;have:ik yl 0≠0:=h;omega
 have l1:((yl.length:Int)==1)=true:=by rw[h1];rfl
 have e1:IntKind.u64.wrap (m:Int)=(m:Int):=jm rfl (by rw[fu]at Wn;rw[ja];omega)
 have e9:((m:Int)==0)=false:=oo.2 om
 have e9' : ¬ ((m:Int)=0):=by omega
 have cso : ¬ (m=0):=by omega
 have cyq:0<yl.length:=by omega
 have HY0:=ae (And.intro hby hy0)
 have hne1 : ¬ (w.heap.size=by'):=by omega
 have hne2 : ¬ (by'=w.heap.size):=by omega
 have HMB:=ae Wn;have HM0:=ae hm0
 have HX:=ae hx
 clear hc ho hcy hy hym Wn hm0 hge hy0 hby hx h1
 go_enter func178,ntmps178
 go_wp2_with fail
 refine(aa HC).mono ?_
 rintro e w' ⟨rfl,k,rfl⟩
 go_wp2_with fail
 go_loopw [7,8] (fun rv iv wr => ∃ (i:Int) (r:Nat) (qc:List Nat),-1≤i∧i<xl.length∧iv = .int .i64 i∧rv = .int .u64 ((r:Nat):Int)∧Hid (Dx dz xl qc m (i+1).toNat r)∧ZB .u32 wr w.heap.size 187 qc∧Below w.heap.size w wr) (fun _ iv _=>(intOf iv+1).toNat)
 case atStart =>
  refine⟨(xl.length:Int)-1,0,List.replicate xl.length 0,by omega,by omega,by first|rfl|go_num,rfl,?_,heap_alloc_new (w.drewN k) _,(ky (df _ _) k).alloc (gu _) _⟩
  rw[show((xl.length:Int)-1+1).toNat=xl.length by omega];exact Dx.start _ _ _ mi (aa HM0) (Wu (by rw[fu];omega) _)
 case round =>
  obtain⟨i,r,qc,hi1,hi2,rfl,rfl,HI,qh,hg⟩:=hrel;have hlen:=HI.out.len
  by_cases h0:i<0
  ·
   have e:i = -1:=by omega
   subst e;obtain⟨v1,v2⟩:=HI.out.done;rw[(aa HX).val]at v1 v2;have hrB:r<dz:=Iz HI.out.r1 (aa HMB);have j1:(r:Int)%4294967296=(r:Int):=by rw[fu]at hrB;omega
   have j2:IntKind.u32.wrap (r:Int)=(r:Int):=by rw[Sj];exact j1
   have V1:=bg v1;have V2:=bg v2;have HRB:=ae hrB;clear v1 v2 hrB;go_wp2_with fail;have htr:=Hw (some ⟨w.heap.size,0,none⟩) qc.length qc (wr.heap.size) wr (qh.Mk _ qh.lt) (gu _) om;rw[hlen]at htr;refine htr.mono ?_
   rintro e w' ⟨⟨k1,rfl,ht,hk2⟩,hw⟩;obtain rfl:wr=w':=hw.symm;clear hw;go_wp2_with fail;have hn:=heap_alloc_new wr (.cells (Ba .u32 [r]) 187);have bxi:ZB .u32 (wr.alloc (.cells (Ba .u32 [r]) 187)) wr.heap.size 187 [r]:=hn;have Xg:=Hw (some ⟨wr.heap.size,0,none⟩) 1 [r] _ _ (bxi.Mk _ bxi.lt) (gu _) om;refine Xg.mono ?_
   rintro e w' ⟨⟨k3,rfl,ht2,hk3⟩,hw⟩;subst hw;go_wp2_with fail
   go_ret2
   have hk4:k1=(qc.take k1).length:=by simp;omega
   have hk5:k3=([r].take k3).length:=by rw[uy];omega
   have q1:=xx.Ij (cap:=xl.length) qh HI.out.lt ht om om om;rw[V1.out]at q1;have q2:=xx.Ij (cap:=1) bxi (by simpa using aa HRB) ht2 hk3 mi om;rw[show bf dz [r]=n%m by rw[← V2.out];simp[bf]]at q2;exact⟨some ⟨w.heap.size,0,none⟩,xl.length,qc.take k1,some ⟨wr.heap.size,0,none⟩,1,[r].take k3,ahg hk4 hk5,q1.below ((df _ _).alloc (gu _) _),q2,hg.alloc hg.size _⟩
  ·
   obtain⟨j,rfl⟩:=amz (show 0≤i by omega);have hjx:j<xl.length:=by omega
   obtain⟨bx,ox,rfl,hbx,hcx⟩:=(aa HX).ws om;have Lj:=(hg.cell (p:=⟨bx,ox+j,none⟩) hbx).trans (hcx j hjx);have hyc:=(hg.cell (p:=⟨by',oy,none⟩) (aa HY0).1).trans (aa HY0).2;clear hcx;have hzc:=qh.cell j om;have hzf:=qh.frozen j;obtain⟨xj,hxj⟩ : ∃ t,t=ik xl j:=⟨_,rfl⟩
   rw[← hxj]at Lj;have Cf:xj<dz:=by rw[hxj];exact jy (by rw[fu];omega) _ (aa HX).lt _
   have hinv:Dx dz xl qc m (j+1) r:=by have:=HI.out;rwa[show((j:Int)+1).toNat=j+1 by omega]at this
   have hrB:r<dz:=Iz hinv.r1 (aa HMB);obtain⟨rs,hrs⟩ : ∃ t,t=r*dz:=⟨_,rfl⟩
   obtain⟨X,hX⟩ : ∃ t,t=r*dz+xj:=⟨_,rfl⟩
   obtain⟨q,hq⟩ : ∃ t,t=(r*dz+xj)/m:=⟨_,rfl⟩
   obtain⟨s,hs⟩ : ∃ t,t=(r*dz+xj)%m:=⟨_,rfl⟩
   have hXB:X<eu:=by rw[hX];rw[fu]at *;rw[ja];omega
   have Zw:q<dz:=by
    rw[hq,Fu (aa HM0)];have h1:(r+1)*dz≤m*dz:=Dc _ hinv.r1;rw[xm,Iy]at h1;rw[og dz];omega
   have hsm:s<m:=by rw[hs];exact Bf _ (aa HM0)
   have b64 : ∀ t:Nat,t<dz→t<eu:=fun t ht=>by rw[fu]at ht;rw[ja];omega
   have g1:IntKind.u64.wrap ((r:Int)*4294967296)=(rs:Int):=jm (by rw[hrs,fu];simp) om;have g2:Go.bits .or .u64 (rs:Int) (xj:Int)=(X:Int):=by rw[hrs,bdb hrB Cf,hX]
   have g3:IntKind.u64.wrap (xj:Int)=(xj:Int):=jm rfl (b64 _ Cf);have g4:(X:Int).tdiv (m:Int)=(q:Int):=by rw[hq,hX];exact(Pb _ _).symm
   have g5:(X:Int).tmod (m:Int)=(s:Int):=by rw[hs,hX];exact(Int.ofNat_tmod _ _).symm
   have g6:IntKind.u64.wrap (q:Int)=(q:Int):=jm rfl (b64 _ Zw);have g7:IntKind.u64.wrap (s:Int)=(s:Int):=jm rfl (b64 _ (Iz hsm (aa HMB)));have g8:(q:Int)%4294967296=(q:Int):=by rw[fu]at Zw;omega
   have g9:IntKind.u32.wrap (q:Int)=(q:Int):=by rw[Sj];exact g8
   have g10:IntKind.u64.wrap (X:Int)=(X:Int):=jm rfl hXB;have hfin : ∀ W,W=wr.setCell ⟨w.heap.size,j,none⟩ (.int .u32 (q:Int))→Hid (Dx dz xl (qc.set j q) m j s)∧ZB .u32 W w.heap.size 187 (qc.set j q)∧Below w.heap.size w W:=by
    rintro W rfl;refine⟨?_,qh.Jr _ _,hg.setCell (p:=⟨w.heap.size,j,none⟩) (gu _) _⟩
    rw[hq,hs,hxj];exact hinv.step hjx (by rw[← pg,← hxj];exact Cf)
   have HF:=ae hfin;clear hfin hq hs hxj Cf hinv qh hg HI hX hrs hXB Zw hsm b64 hrB;go_wp2_with fail
   go_roundw
   case rel =>
    obtain⟨r1,r2,r3⟩:=(aa HF) _ rfl;exact⟨(j:Int)-1,s,qc.set j q,by omega,by omega,by go_num,rfl,by rw[show((j:Int)-1+1).toNat=j by omega];exact r1,r2,r3⟩
   case measure=>simp[intOf]<;>omega

theorem bsa (y:Nat) (hy:y<dz) (h0:0<y) (w:Wq) : ∃ s:Nat,s<32∧2147483648≤y*2^s∧y*2^s<dz ∧
  ∀ w:Wq,Calls prog 211 #[.int .u32 ((y:Nat):Int)] w fun e w'=>e = .returned (.int .i64 ((s:Nat):Int))∧w'=w:=by
 obtain⟨h1,h2⟩:=aft 64 y (by rw[fu]at hy;omega)
 have h3:=(h2 om).1
 change y<2^Lib.bitLen y at h1
 change 2^(Lib.bitLen y-1)≤y at h3
 have hle:=Lib.bitLen_le y 32 om (by rw[fu]at hy;omega)
 have hpos:0<Lib.bitLen y:=by
  apply aag
  intro h;rw[show Lib.bitLen y=0 by omega]at h1;simp at h1;omega
 have e1:2^(Lib.bitLen y-1)*2^(32-Lib.bitLen y)=2147483648:=by
  rw[← Hq,show Lib.bitLen y-1+(32-Lib.bitLen y)=31 by omega]
 have e2:2^Lib.bitLen y*2^(32-Lib.bitLen y)=dz:=by
  rw[← Hq,show Lib.bitLen y+(32-Lib.bitLen y)=32 by omega];rfl
 refine⟨32-Lib.bitLen y,by omega,?_,?_,fun w => ?_⟩
 ·
  rw[← e1];exact Dc _ h3
 ·
  rw[← e2];exact arw h1 (wz om)
 ·
  refine(bits_LeadingZeros32 (y:Int) w om (by rw[fu]at hy;omega)).mono ?_
  rintro e w' ⟨rfl,rfl⟩;refine⟨Ej ?_,rfl⟩
  rw[agm];omega

theorem avx (yl:List Nat) (m s:Nat) (bxu:s≤32) (hn:1≤yl.length) (hlt : ∀ x∈yl,x<dz) (hv:bf dz yl=m) (hs1:yl.getD (yl.length-1) 0*2^s<dz) (ht:yl.getD (yl.length-1) 0≠0) :
  dz^(yl.length-1)*2^s≤m*2^s∧m*2^s<dz^yl.length:=by
 have h2:=rz dz yl (yl.length-1) om
 rw[show yl.length-1+1=yl.length by omega,jk _ _ _ (gu _),hv]at h2
 have h3:=Bi (B:=dz) (yl.take (yl.length-1)) (fun x hx=>hlt x (Dn hx))
 rw[uy,Ce om]at h3
 have e:dz^yl.length=dz^(yl.length-1)*dz:=by rw[← Be,show(yl.length-1).succ=yl.length by omega]
 rw[e]
 generalize hP:dz^(yl.length-1)=P at *
 generalize yl.getD (yl.length-1) 0=t at *
 have hS:0<2^s:=wz om
 have hsp:=Jk s bxu
 generalize 2^s=S at *
 generalize 2^(32-s)=T at *
 have h6:t*S+S≤dz:=by
  rw[← hsp,og S]at hs1 ⊢;have:=arz hs1;have h7:(t+1)*S≤T*S:=Dc _ this;rwa[xm,Iy]at h7
 constructor
 ·
  refine Dc _ ?_
  have:P*1≤P*t:=Bo _ om;omega
 ·
  have h4:m+1≤P*(t+1):=by rw[uo,Ns];omega
  have h5:(m+1)*S≤P*(t+1)*S:=Dc _ h4;rw[xm,Iy,uk,xm,Iy]at h5;have:P*(t*S+S)≤P*dz:=Bo _ h6;omega

theorem bcg (Ax:Option Addr) (cx:Nat) (xl:List Nat) (n s:Nat) (w:Wq) (hx:xx w Ax cx xl n) (hs:s<32) (hk:xl.length+1≤35184372088832) :
  Calls prog 212 #[.slice Ax xl.length cx,.int .u64 ((s:Nat):Int)] w fun e w' =>
   ∃ b zr,e = .returned (.slice (some ⟨b,0,none⟩) (xl.length+1) (xl.length+1))∧w.heap.size≤b∧zr.length=xl.length+1∧(∀ x∈zr,x<dz)∧bf dz zr=n*2^s∧ZB .u32 w' b 187 zr∧Below w.heap.size w w' :=
 (bhb Ax cx xl n s w hx hs hk).mono fun e w' ⟨zr,h1,h2,h3,h4,h5,h6⟩=>⟨w.heap.size,zr,h1,gu _,h2,h3,h4,h5,h6⟩

theorem bme (Ax Ay:Option Addr) (cx cy:Nat) (xl yl:List Nat) (n m:Nat) (w:Wq) (hx:xx w Ax cx xl n) (hy:xx w Ay cy yl m) (hge : ¬ n<m) (hk:xl.length+1≤35184372088832) (hk2:yl.length+1≤35184372088832) (hn2:2≤yl.length) :
  Calls prog 178 #[.slice Ax xl.length cx,.slice Ay yl.length cy] w fun e w'=>avg w (n/m) (n%m) e w':=by
 have hx1:=hx.Aj;have hx2:=hx.cap2;have hy1:=hy.Aj;have hy2:=hy.cap2
 have hny:yl.length≤xl.length:=by
  rcases Fa xl.length yl.length with h|h
  ·
   exfalso;apply hge;rw[← hx.val,← hy.val];exact Bh Bw xl yl hx.lt hy.norm h
  ·
   exact h
 have hc:=Va Ax Ay cx cy xl yl n m w hx hy
 obtain⟨o3,ho3⟩ : ∃ o,o=Dh n m:=⟨_,rfl⟩
 rw[← ho3]at hc
 have ho:decide (o3<0)=false:=dw (by rw[ho3];unfold Dh;rw[if_neg hge];split<;>omega)
 have HC:=ae hc
 have hb1:((yl.length:Int)==1)=false:=by simp;omega
 obtain⟨by',oy,hA,hby,hcy⟩:=hy.ws om
 subst hA
 have hyt:=hcy (yl.length-1) om
 obtain⟨yt,Rc⟩ : ∃ t,t=ik yl (yl.length-1):=⟨_,rfl⟩
 rw[← Rc]at hyt
 have Gz:yt<dz:=by rw[Rc];exact jy (by rw[fu];omega) _ hy.lt _
 have hy0:yt≠0:=by
  rw[Rc]
  rcases hy.norm with h|h
  ·
   rw[h]at hn2;simp at hn2
  ·
   exact h
 have hm:0<m:=by
  rcases Fs m with h|h
  ·
   exfalso;have h1:=buw (B:=dz) yl yl.length om rfl;rw[hy.val,h]at h1;have h2:0<dz^(yl.length-1):=wz (by rw[fu];omega);have h3:=Ye (abm (show yl.getD (yl.length-1) 0≠0 by rw[← pg,← Rc];exact hy0)) h2;omega
  ·
   exact h
 obtain⟨s,hs,hs1,hs2,hlz⟩:=bsa yt Gz om w
 obtain⟨vb1,vb2⟩:=avx yl m s om om hy.lt hy.val (by rw[← pg,← Rc];exact hs2) (by rw[← pg,← Rc];exact hy0)
 obtain⟨lq,hlq⟩ : ∃ t,t=xl.length+1-yl.length:=⟨_,rfl⟩
 have apz:((lq:Nat):Int)=(xl.length:Int)+1-(yl.length:Int):=by omega
 have hmk:=aua lq om
 rw[apz]at hmk
 have crv:lq+yl.length=xl.length+1:=by omega
 have es:IntKind.u64.wrap (s:Int)=(s:Int):=jm rfl (by rw[ja];omega)
 have HLZ:=ae hlz
 have HLQ:=bg apz
 have HYT:=bg Rc
 have HV1:=ae vb1;have HV2:=ae vb2
 clear hlz Rc hcy vb1 vb2 hs1 hs2 apz hlq hc ho3 hge
 go_enter func178,ntmps178
 go_wp2_with fail
 refine(aa HC).mono ?_
 rintro e w' ⟨rfl,k,rfl⟩
 go_wp2_with fail
 refine((aa HLZ) _).mono ?_
 rintro e w1 ⟨rfl,hw1⟩
 have Tn:Below w.heap.size w w1:=by rw[hw1];exact ky (df _ _) k
 clear hw1
 go_wp2_with fail
 refine(bcg Ax cx xl n s w1 (hx.below Tn) hs hk).mono ?_
 rintro e w2 ⟨bu,uz,rfl,hbu,Zf,bxo,huv,huz,hb2⟩
 have crl:=(hy.below Tn).below hb2
 have HUL:=bg Zf
 have Wi:=bg huv
 clear Zf huv
 go_wp2_with fail
 refine(bcg _ cy yl m s w2 crl hs hk2).mono ?_
 rintro e w4 ⟨bv,vz,rfl,hbv,hvl,apy,hvv,hvz,hb3⟩
 have HVL:=bg hvl;have HVV:=bg hvv
 have czi:bu<bv:=zh huz.lt hbv
 replace huz:=huz.below hb3 huz.lt
 clear hvl hvv
 go_wp2_with fail
 have htr:=Hw (some ⟨bv,0,none⟩) vz.length vz w4.heap.size w4 (hvz.Mk _ hvz.lt) (gu _) (by have:=HVL.out;omega)
 rw[HVL.out]at htr
 refine htr.mono ?_
 rintro e w3 ⟨⟨kv,rfl,ht,hkv⟩,hw3⟩
 obtain rfl:w4=w3:=hw3.symm
 clear hw3
 have Qd:(vz.take kv).length=yl.length:=by
  refine aok Bw _ ht.norm (fun x hx=>apy x (Dn hx)) _ om ?_ ?_
  ·
   rw[ht.val,HVV.out];exact xy (bbk _ (wz om)) (aa HV1)
  ·
   rw[ht.val,HVV.out];exact aa HV2
 have bxx:kv=yl.length:=by have:=HVL.out;rw[uy]at Qd;omega
 subst bxx
 have HT:=ae ht;have HVN:=bg Qd
 have aqb:Below w.heap.size w w4:=Tn.trans ((hb2.mono Tn.size).trans (hb3.mono (xy Tn.size hb2.size)))
 clear ht Qd
 obtain⟨V,hV⟩ : ∃ t,t=m*2^s:=⟨_,rfl⟩
 have auk:bf dz (vz.take yl.length)=V:=by rw[(aa HT).val,HVV.out,hV]
 have bev:V<dz^yl.length:=by rw[hV];exact aa HV2
 have Uk:0<V:=by rw[hV];exact Ye hm (wz om)
 have htop:bf dz uz<V*dz^lq:=by
  rw[Wi.out,hV];have h1:=Bi xl hx.lt;rw[hx.val]at h1;have h2:=aa HV1;have h3:dz^(yl.length-1)*dz^lq=dz^xl.length:=by rw[← Hq,show yl.length-1+lq=xl.length by omega]
  have h4:dz^(yl.length-1)*2^s*dz^lq≤m*2^s*dz^lq:=Dc _ h2;have h5:n*2^s<dz^xl.length*2^s:=arw h1 (wz om);have h6:dz^(yl.length-1)*2^s*dz^lq=dz^xl.length*2^s:=by
   rw[← h3];simp only[og,Nt,uk]
  omega
 have hstart:Ag dz V uz uz (List.replicate lq 0) lq:=Ag.start _ _ _ bxo (Wu (by rw[fu];omega) _) mi htop
 have bmv:Ws .u32 w4 (bv+1) (some ⟨bv,0,none⟩) (vz.take yl.length):=(hvz.Mk _ (ary _)).adk _
 have hgt : ∀ i,i<yl.length→ik vz i=ik (vz.take yl.length) i:=fun i hi=>by rw[pg,pg,acz _ _ _ hi]
 have hvt:=hvz.cell (yl.length-1) (by have:=HVL.out;omega)
 have bxn:=hvz.cell (yl.length-2) (by have:=HVL.out;omega)
 rw[hgt _ om]at hvt bxn
 obtain⟨top,htp⟩ : ∃ t,t=ik (vz.take yl.length) (yl.length-1):=⟨_,rfl⟩
 obtain⟨next,hnx⟩ : ∃ t,t=ik (vz.take yl.length) (yl.length-2):=⟨_,rfl⟩
 rw[← htp]at hvt
 rw[← hnx]at bxn
 have htB:top<dz:=by rw[htp];exact jy (by rw[fu];omega) _ (fun x hx=>apy x (Dn hx)) _
 have hnB:next<dz:=by rw[hnx];exact jy (by rw[fu];omega) _ (fun x hx=>apy x (Dn hx)) _
 have et:IntKind.u64.wrap (top:Int)=(top:Int):=jm rfl (by rw[fu]at htB;rw[ja];omega)
 have en:IntKind.u64.wrap (next:Int)=(next:Int):=jm rfl (by rw[fu]at hnB;rw[ja];omega)
 have hv4:bv<w4.heap.size:=hvz.lt
 have hu4:bu<w4.heap.size:=huz.lt
 have f1:IntKind.i64.wrap ((yl.length:Int)-1)=(yl.length:Int)-1:=Es _ om
 have f2:(0:Int)≤(yl.length:Int)-1:=by omega
 have f3:((yl.length:Int)-1).toNat=yl.length-1:=by omega
 have f4:IntKind.i64.wrap ((yl.length:Int)-2)=(yl.length:Int)-2:=Es _ om
 have f5:(0:Int)≤(yl.length:Int)-2:=by omega
 have f6:((yl.length:Int)-2).toNat=yl.length-2:=by omega
 have i1 : ¬ (bv=w4.heap.size):=by omega
 have i2 : ¬ (w4.heap.size=bv):=by omega
 have aix:=bg auk;have bgf:=ae bev;have HV0:=ae Uk;have byz:=bg hV;have HST:=ae hstart
 have HTP:=bg htp;have HNX:=bg hnx;have arc:=ae (And.intro hv4 hu4)
 have crw:0<lq:=by omega
 clear auk bev hV hstart htop hyt hy0 htp hnx hgt htB hnB
 go_wp2_with fail
 go_quiet (fail)
 go_wp2_with fail
 go_loopw [16] (fun iv wr => ∃ (i:Int) (us qs:List Nat),-1≤i∧i<lq∧iv = .int .i64 i∧Hid (Ag dz V uz us qs (i+1).toNat)∧Hid (qs.length=lq)∧ZB .u32 wr bu 187 us∧ZB .u32 wr w4.heap.size 187 qs∧Ws .u32 wr (bv+1) (some ⟨bv,0,none⟩) (vz.take yl.length)∧Below w.heap.size w wr∧w4.heap.size<wr.heap.size) (fun iv _=>(intOf iv+1).toNat)
 case atStart =>
  refine⟨(lq:Int)-1,uz,List.replicate lq 0,by omega,by omega,rfl,?_,by show _=_;simp,(huz.alloc _).drewN _,ZB.drewN (heap_alloc_new w4 _) _,(bmv.alloc om _).drewN _,ky (aqb.alloc aqb.size _) _,by show w4.heap.size<(w4.alloc _).heap.size;simp⟩
  rw[show((lq:Int)-1+1).toNat=lq by omega];exact HST
 case round =>
  clear huz hvz bmv hvt bxn;obtain⟨i,us,qs,hi1,hi2,rfl,HI,Zl,ach,hqz,hvr,hbr,bxs⟩:=hrel;obtain⟨wo,rfl⟩ : ∃ wo:Wq,wo=wr:=⟨_,rfl⟩
  by_cases h0:i<0
  ·
   have e:i = -1:=by omega
   subst e;obtain⟨v1,v2⟩:=HI.out.done;have hS:0<2^s:=wz om;obtain⟨sd1,sd2⟩:=Zt (N:=n) (Y:=m) (S:=2^s) hS;rw[Wi.out,byz.out]at v1 v2;rw[sd1]at v1;have v3:bf dz us/2^s=n%m:=by rw[v2];exact sd2
   have V1:=bg v1;have V3:=bg v3;have Xf:us.length=xl.length+1:=HI.out.Ip.trans HUL.out;have bzf:=ae HI.out.lt;have bze:=ae HI.out.ltq;have Xg:=Hw (some ⟨bu,0,none⟩) us.length us wo.heap.size wo (ach.Mk _ ach.lt) (gu _) om;rw[Xf]at Xg;have T2:=ae Xg;have aep:=bg Xf;clear v1 v2 sd1 sd2 v3 Xg Xf HI hvr;go_wp2_with fail;refine(aa T2).mono ?_
   rintro e w6 ⟨⟨k2,rfl,ht2,ciz⟩,hw6⟩;obtain rfl:wo=w6:=hw6.symm;clear hw6;obtain⟨rl,hrl⟩ : ∃ l,l=us.take k2:=⟨_,rfl⟩
   have hrlen:rl.length=k2:=by rw[hrl,uy];have:=aep.out;omega
   have hrv:bf dz rl=bf dz us:=by rw[hrl];exact ht2.val _
   have cir : ∀ x∈rl,x<dz:=fun x hx=>(aa bzf) x (by rw[hrl]at hx;exact Dn hx)
   have hwin:win us 0 rl=us:=by
    have:=Ww us 0 k2 (by have:=aep.out;omega);rw[agk,← hrl]at this;exact this
   have czc:k2≤us.length:=by rw[aep.out];exact ciz
   have HRV:=bg hrv;have bzb:=ae cir;have cti:=bg hwin;have avk:=bg hrlen;have czb:k2≤xl.length+1:=by have:=aep.out;omega
   have HQZ:=ae hqz;clear hrv cir hwin hrlen hrl ht2 ciz T2;go_wp2_with fail
   go_loopw [18] (fun iv wr => ∃ (i:Nat) (zc:List Nat),i≤k2∧iv = .int .i64 ((i:Nat):Int)∧Hid (Eh dz (2^s) rl zc i)∧Hid (∀ j,i≤j→zc.getD j 0=rl.getD j 0)∧ZB .u32 wr bu 187 (win us 0 zc)∧Hid (ZB .u32 wr w4.heap.size 187 qs)∧Below w.heap.size w wr) (fun iv _=>k2-(intOf iv).toNat)
   case atStart=>exact⟨0,rl,ug _,rfl,Eh.start _ _ rfl (aa bzb),fun _ _=>rfl,by rw[cti.out];exact ach,HQZ,hbr⟩
   case round =>
    clear ach hqz HQZ hbr;obtain⟨i,zc,hi,rfl,HI,Rb,qh,HQZ,hbr⟩:=hrel;have hzl:zc.length=k2:=HI.out.len.trans avk.out
    by_cases hlt:i<k2
    ·
     have gz : ∀ t,t<k2→ik (win us 0 zc) t=ik zc t:=fun t ht=>by
      have:=Xt us 0 zc om t om;rwa[Bn]at this
     obtain⟨x,hx'⟩ : ∃ t,t=ik rl i:=⟨_,rfl⟩
     have Lj:=qh.cell i (by rw[win_length _ _ _ om];omega);rw[gz i hlt,show ik zc i=ik rl i from Rb.out i (gu _),← hx']at Lj;have hzf:=qh.frozen i;have Cf:x<dz:=by rw[hx'];exact jy (by rw[fu];omega) _ (aa bzb) _
     obtain⟨v,hv⟩ : ∃ t,t=x/2^s:=⟨_,rfl⟩
     have hvB:v<dz:=Dm (by rw[hv];exact Yg _ _) Cf;have m1:(x:Int)/2^s=(v:Int):=by rw[hv];simp
     have m1':(x:Int)/2^(min s 32)=(v:Int):=by rw[Ce om];exact m1
     have hset : ∀ (W:Wq) (y:Nat),ZB .u32 W bu 187 (win us 0 zc)→ZB .u32 (W.setCell ⟨bu,i,none⟩ (.int .u32 (y:Int))) bu 187 (win us 0 (zc.set i y)):=fun W y h=>by
      have:=Qs us 0 zc om i y om;rw[Bn]at this;rw[← this];exact h.Jr _ _
     by_cases hin:i+1<k2
     ·
      have d1:decide ((i:Int)+1<(k2:Int))=true:=dm om;have d1':decide (i+1<k2)=true:=dm hin;obtain⟨x2,bdx⟩ : ∃ t,t=ik rl (i+1):=⟨_,rfl⟩
      have crm:=qh.cell (i+1) (by rw[win_length _ _ _ om];omega);rw[gz (i+1) hin,show ik zc (i+1)=ik rl (i+1)from Rb.out (i+1) om,← bdx]at crm;have bxk:x2<dz:=by rw[bdx];exact jy (by rw[fu];omega) _ (aa bzb) _
      obtain⟨p,Il⟩ : ∃ t,t=x2*2^(32-s):=⟨_,rfl⟩
      obtain⟨lo,hlo⟩ : ∃ t,t=p%dz:=⟨_,rfl⟩
      obtain⟨v2,hv2⟩ : ∃ t,t=v+lo:=⟨_,rfl⟩
      have hpB:p<eu:=by
       have h1:2^(32-s)≤2^32:=Ho om om;have h2:x2*2^(32-s)≤x2*2^32:=Bo _ h1;rw[Il];rw[fu]at bxk;rw[ja];omega
      have hlo2:lo=x2%2^s*2^(32-s):=by
       rw[hlo,Il,← Jk s om,ajq]
      have hvT:v<2^(32-s):=by
       rw[hv,Fu (wz om),og,Jk s om];exact Cf
      have Vp:lo<dz:=by rw[hlo];exact Bf _ (by rw[fu];omega)
      have m2:IntKind.u64.wrap (x2:Int)=(x2:Int):=jm rfl (by rw[fu]at bxk;rw[ja];omega);have m3:IntKind.u64.wrap (32-(s:Int))=((32-s:Nat):Int):=jm om (by rw[ja];omega);have m4:IntKind.u64.wrap ((x2:Int)*2^(32-s))=(p:Int):=jm (by rw[Il];simp) hpB;have m4':IntKind.u64.wrap ((x2:Int)*2^(min (32-s) 64))=(p:Int):=by rw[Ce om];exact m4
      have m5:(p:Int)%4294967296=(lo:Int):=by rw[hlo,fu];omega
      have m6:IntKind.u32.wrap (p:Int)=(lo:Int):=by rw[Hf,hlo]
      have m7:Go.bits .or .u32 (v:Int) (lo:Int)=(v2:Int):=by rw[adx v lo hvB Vp,hv2,hlo2,abb hvT]
      have hfin : ∀ W,W=(wr.setCell ⟨bu,i,none⟩ (.int .u32 (v:Int))).setCell ⟨bu,i,none⟩ (.int .u32 (v2:Int))→Hid (Eh dz (2^s) rl (zc.set i v2) (i+1))∧Hid (∀ j,i+1≤j→(zc.set i v2).getD j 0=rl.getD j 0)∧ZB .u32 W bu 187 (win us 0 (zc.set i v2))∧Hid (ZB .u32 W w4.heap.size 187 qs)∧Below w.heap.size w W:=by
       rintro W rfl;have hne:w4.heap.size≠bu:=by have:=(aa arc).2;omega
       have hbw:w.heap.size≤bu:=xy Tn.size hbu;refine⟨?_,fun j hj => ?_,?_,?_,?_⟩
       ·
        have:=HI.out.step (Jk s om) (wz om) (by rw[avk.out];exact hlt) (by rw[← pg,← hx'];exact Cf);rw[← pg,← pg,← hx',← bdx,← hv,← hlo2,← hv2]at this;exact this
       ·
        simp only[List.getD];rw[bkm om];exact Rb.out j om
       ·
        have h1:=hset wr v qh;have h2:=Qs us 0 (zc.set i v) (by rw[Pn];omega) i v2 (by rw[Pn];omega);rw[Bn,List.set_set]at h2;rw[← h2];exact h1.Jr _ _
       ·
        exact(anc _ _ _ w4.heap.size hne).trans ((anc _ _ _ w4.heap.size hne).trans (aa HQZ))
       ·
        exact(hbr.setCell (p:=⟨bu,i,none⟩) hbw _).setCell (p:=⟨bu,i,none⟩) hbw _
      have HF:=ae hfin;have bxj:=hset wr v qh;have csc:=bxj.cell i (by rw[win_length _ _ _ (by rw[Pn];omega)];omega);have cjc:ik (win us 0 (zc.set i v)) i=v:=by
       have:=Xt us 0 (zc.set i v) (by rw[Pn];omega) i (by rw[Pn];omega);rw[Bn]at this;rw[this,pg,List.getD,List.getElem?_set_self om];rfl
      rw[cjc]at csc;have cig:=bxj.frozen i;have csb:=bxj.cell (i+1) (by rw[win_length _ _ _ (by rw[Pn];omega)];omega);have cjb:ik (win us 0 (zc.set i v)) (i+1)=x2:=by
       have:=Xt us 0 (zc.set i v) (by rw[Pn];omega) (i+1) (by rw[Pn];omega);rw[Bn]at this;rw[this,pg,List.getD,bkm om];exact(Rb.out (i+1) om).trans bdx.symm
      rw[cjb]at csb;clear hset hfin hx' bdx hv hv2 hlo hlo2 Il qh gz cjc cjb hvT Cf bxk hvB Vp hpB hbr;go_wp2_with fail;have hii:IntKind.i64.wrap ((i:Int)+1)=(i:Int)+1:=Es _ om;have hi1:(0:Int)≤(i:Int)+1:=by omega
      have hi2:((i:Int)+1).toNat=i+1:=by omega
      have hi3:(i:Int)+1<(k2:Int):=by omega
      go_region
      all_goals
       go_wp2_with fail
       go_roundw
       case rel =>
        obtain⟨r1,r2,r3,r4,r5⟩:=(aa HF) _ rfl;exact⟨i+1,_,by omega,by go_num,r1,r2,r3,r4,by first|exact r5|exact r5.drew⟩
       case measure=>simp[intOf]<;>omega
     ·
      have d1:decide ((i:Int)+1<(k2:Int))=false:=dw om;have d1':decide (i+1<k2)=false:=dw hin;have hfin : ∀ W,W=wr.setCell ⟨bu,i,none⟩ (.int .u32 (v:Int))→Hid (Eh dz (2^s) rl (zc.set i v) (i+1))∧Hid (∀ j,i+1≤j→(zc.set i v).getD j 0=rl.getD j 0)∧ZB .u32 W bu 187 (win us 0 (zc.set i v))∧Hid (ZB .u32 W w4.heap.size 187 qs)∧Below w.heap.size w W:=by
       rintro W rfl;have hne:w4.heap.size≠bu:=by have:=(aa arc).2;omega
       have hbw:w.heap.size≤bu:=xy Tn.size hbu;refine⟨?_,fun j hj => ?_,hset _ _ qh,?_,?_⟩
       ·
        have:=HI.out.step (Jk s om) (wz om) (by rw[avk.out];exact hlt) (by rw[← pg,← hx'];exact Cf);have h0:rl.getD (i+1) 0=0:=by simp only[List.getD];rw[Ha (by rw[avk.out];omega)];rfl
        rw[h0,Nat.zero_mod,ajp,Hr,← pg,← hx',← hv]at this;exact this
       ·
        simp only[List.getD];rw[bkm om];exact Rb.out j om
       ·
        exact(anc _ _ _ w4.heap.size hne).trans (aa HQZ)
       ·
        exact hbr.setCell (p:=⟨bu,i,none⟩) hbw _
      have HF:=ae hfin;clear hset hfin hx' hv qh gz Cf hvB hbr;go_wp2_with fail
      go_roundw
      case rel =>
       obtain⟨r1,r2,r3,r4,r5⟩:=(aa HF) _ rfl;exact⟨i+1,_,by omega,by go_num,r1,r2,r3,r4,r5⟩
      case measure=>simp[intOf]<;>omega
    ·
     have e:i=k2:=by omega
     subst e;have hdn:bf dz zc=n%m:=by
      have h1:=HI.out;rw[← avk.out]at h1;rw[h1.done (Jk s om) (wz om),HRV.out,V3.out]
     have hwt:(win us 0 zc).take i=zc:=by simp[win,← hzl]
     have hwz:Ws .u32 wr (bu+1) (some ⟨bu,0,none⟩) zc:=by
      have:=(qh.Mk _ (ary _)).adk i;rwa[hwt]at this
     have HDN:=bg hdn;have HWZ:=ae hwz;have hzs:bu<wr.heap.size:=qh.lt;have civ : ∀ x∈zc,x<dz:=HI.out.lt;have ctk:=ae civ;have hqz:=aa HQZ;have Xg:=Hw (some ⟨w4.heap.size,0,none⟩) qs.length qs wr.heap.size wr (hqz.Mk _ hqz.lt) (gu _) (by rw[Zl.out];omega);rw[Zl.out]at Xg;have T3:=ae Xg;clear hdn hwt hwz civ Xg hqz qh;go_wp2_with fail;refine(aa T3).mono ?_
     rintro e w6 ⟨⟨k3,rfl,ht2,hk3⟩,hw6⟩;obtain rfl:wr=w6:=hw6.symm;clear hw6;have q1:=xx.Ij (cap:=lq) (aa HQZ) (aa bze) ht2 (by rw[Zl.out];exact hk3) (by rw[Zl.out];omega) om;rw[V1.out]at q1;have Q1:=ae q1;have ciy:k3=(qs.take k3).length:=by rw[uy,Zl.out];omega
     have HK3:=bg ciy;clear ht2 q1 T3 ciy;have bxp:=Hw (some ⟨bu,0,none⟩) (xl.length+1) zc (bu+1) wr (aa HWZ) om om;rw[hzl]at bxp;have T4:=ae bxp;clear bxp;go_wp2_with fail;refine(aa T4).mono ?_
     rintro e w6 ⟨⟨k4,rfl,ht4,hk4⟩,hw6⟩;obtain rfl:wr=w6:=hw6.symm;clear hw6;have q2:xx wr (some ⟨bu,0,none⟩) (xl.length+1) (zc.take k4) (n%m):=by
      refine⟨(((aa HWZ).adk k4).more om),by rw[uy];omega,by omega,fun x hx=>(aa ctk) x (Dn hx),ht4.norm,?_⟩
      rw[ht4.val,HDN.out]
     have Q2:=ae q2;have cix:k4=(zc.take k4).length:=by rw[uy];omega
     have HK4:=bg cix;clear ht4 q2 T4 cix;go_wp2_with fail
     go_ret2
     exact⟨some ⟨w4.heap.size,0,none⟩,lq,qs.take k3,some ⟨bu,0,none⟩,xl.length+1,zc.take k4,ahg HK3.out HK4.out,aa Q1,aa Q2,hbr⟩
  ·
   obtain⟨j,rfl⟩:=amz (show 0≤i by omega);have hinv:Ag dz V uz us qs (j+1):=by have:=HI.out;rwa[show((j:Int)+1).toNat=j+1 by omega]at this
   have Xf:us.length=xl.length+1:=hinv.Ip.trans HUL.out;have hql:=Zl.out;have hqc:=hqz.cell j om;have hqf:=hqz.frozen j;have aiy:=ae hinv;have aep:=bg Xf;obtain⟨wd1,wd2,wd3⟩:=hinv.window Bw (aa bgf);have hwl:((us.drop j).take (yl.length+1)).length=yl.length+1:=by rw[uy,Kv];omega
   have hpre:Uo ((us.drop j).take (yl.length+1)) (vz.take yl.length) yl.length:=by
    refine⟨hn2,HVN.out,hwl,fun x hx=>hinv.lt x (aso (Dn hx)),fun x hx=>apy x (Dn hx),?_,by rw[aix.out];exact wd2⟩
    rcases(aa HT).norm with h|h
    ·
     have:=HVN.out;rw[h]at this;simp at this;omega
    ·
     rwa[HVN.out]at h
   have hds:=bky bu j (xl.length+1-j) 187 yl.length us ((us.drop j).take (yl.length+1)) (vz.take yl.length) (some ⟨bv,0,none⟩) (yl.length+1) (bv+1) top next wo ach om (by rw[hwl]) om om hvr (fun b o e=>by injection e with e;injection e with e;omega) (by have:=(aa arc).1;omega) (by simp;omega) om hpre HTP.out HNX.out
   have HDS:=ae hds;clear hds;have hfin : ∀ (W:Wq) (zr:List Nat) (q:Nat),StepT ((us.drop j).take (yl.length+1)) (vz.take yl.length) zr q→Hid (Ag dz V uz (win us j zr) (qs.set j q) j):=fun W zr q hok=>by
    have hzl:zr.length=yl.length+1:=hok.len.trans hwl;refine hinv.step (n:=yl.length) Bw (aa bgf) (aa HV0) om ?_ ?_ ?_ ?_ ?_
    ·
     rw[hok.quo,aix.out]
    ·
     have e1:(win us j zr).drop j=zr++us.drop (j+zr.length):=by
      simp only[win,Lm];rw[bac (by simp;omega),Sg (by simp;omega),Pm]
     have e2:bf dz (us.drop (j+zr.length))=0:=by
      have h1:=Vu dz (us.drop j) (yl.length+1);rw[wd3,arj]at h1;have h2:0<dz^min (yl.length+1) (us.drop j).length:=wz (by rw[fu];omega);rw[hzl]
      rcases Fs (bf dz (us.drop (j+(yl.length+1))))with h|h
      ·
       exact h
      ·
       have:=Ye h2 h;omega
     rw[e1,Og,e2,Nr,Hr,hok.rem,aix.out]
    ·
     rw[win_length _ _ _ om]
    ·
     intro x hx;simp only[win,Lm,Ku]at hx
     rcases hx with h|h|h
     ·
      exact hinv.lt x (Dn h)
     ·
      exact hok.lt x h
     ·
      exact hinv.lt x (aso h)
    ·
     intro t ht;simp only[win,Lm,List.getD];rw[arh (by simp;omega),bkl,if_pos ht]
   have Nq:=ae hfin;clear hinv Xf hql HI wd1 wd2 wd3 hfin hpre;go_wp2_with fail;rw[show j+yl.length+1-j=yl.length+1 by omega];refine(aa HDS).mono ?_
   rintro e w5 ⟨zr,q,rfl,hok,Zw,bea,hg5⟩;have bnf:=(aa Nq) w5 zr q hok;have ahu:=hqz.grown hg5 (by intro h;injection h with h;have:=(aa arc).2;omega);have crq:=ahu.cell j (by have:=Zl.out;omega);have crp:=ahu.frozen j;have hv5:Ws .u32 w5 (bv+1) (some ⟨bv,0,none⟩) (vz.take yl.length):=fun hl=>by
    obtain⟨b,o,e,hb,hc⟩:=hvr hl;injection e with e;injection e with e1 e2;subst e1 e2;exact⟨bv,0,rfl,hb,fun t ht=>(Re (hg5.block bv (by have:=(aa arc).1;omega) (fun e=>by injection e with e;omega))).trans (hc t ht)⟩
   have hb5:Below w.heap.size w w5:=hbr.grown hg5 hbr.size (fun g e=>by injection e with e;subst e;exact xy Tn.size hbu);have hs5:w4.heap.size<w5.heap.size:=zh bxs hg5.size;have bxl:w.heap.size≤w4.heap.size:=aqb.size;have aun : ∀ W,W=w5.setCell ⟨w4.heap.size,j,none⟩ (.int .u32 (q:Int))→ZB .u32 W bu 187 (win us j zr)∧ZB .u32 W w4.heap.size 187 (qs.set j q)∧Ws .u32 W (bv+1) (some ⟨bv,0,none⟩) (vz.take yl.length)∧Below w.heap.size w W∧w4.heap.size<W.heap.size:=by
    rintro W rfl;exact⟨(anc w5 _ _ bu (by show bu≠w4.heap.size;have:=(aa arc).2;omega)).trans bea,ahu.Jr _ _,hv5.setCell (p:=⟨w4.heap.size,j,none⟩) (by show bv+1≤w4.heap.size;have:=(aa arc).1;omega) _,hb5.setCell (p:=⟨w4.heap.size,j,none⟩) bxl _,by simp[World.setCell];omega⟩
   have HF2:=ae aun;clear hok hg5 aun bea ahu hv5 hb5;go_wp2_with fail
   go_roundw
   case rel =>
    obtain⟨f1,f2,f3,f4,f5⟩:=(aa HF2) _ rfl;exact⟨(j:Int)-1,win us j zr,qs.set j q,by omega,by omega,by go_num,by rw[show((j:Int)-1+1).toNat=j by omega];exact bnf,by show _=_;rw[Pn];exact Zl.out,f1,f2,f3,f4,f5⟩
   case measure=>simp[intOf]<;>omega

theorem Yu (Ax Ay:Option Addr) (cx cy:Nat) (xl yl:List Nat) (n m:Nat) (w:Wq) (hx:xx w Ax cx xl n) (hy:xx w Ay cy yl m) (hm:0<m) (hk:xl.length+1≤35184372088832) (hk2:yl.length+1≤35184372088832) :
  Calls prog 178 #[.slice Ax xl.length cx,.slice Ay yl.length cy] w fun e w'=>avg w (n/m) (n%m) e w':=by
 by_cases hlt:n<m
 ·
  exact bhg Ax Ay cx cy xl yl n m w hx hy hlt
 ·
  by_cases h1:yl.length=1
  ·
   exact bru Ax Ay cx cy xl yl n m w hx hy hlt h1 om
  ·
   refine bme Ax Ay cx cy xl yl n m w hx hy hlt hk hk2 ?_
   rcases Fs yl.length with h|h
   ·
    exfalso;have:=hy.val;rw[Yj.1 h]at this;simp[bf]at this;omega
   ·
    omega

def memNum (w:Wq):Value→Nat
 | .slice (some p) n _=>bf dz ((List.range n).map fun i=>match w.cell? ⟨p.block,p.off+i,none⟩with|some (.int _ z)=>z.toNat|_=>0)
 | _=>0
theorem ayf (h:xx w A cap l n):memNum w (.slice A l.length cap)=n:=by
 rcases Fs l.length with h0|h0
 ·
  have hv:=h.val;have hl:=Yj.1 h0;subst hl;rw[← hv]
  cases A<;>simp[memNum,bf]
 ·
  obtain⟨b,o,rfl,_,hc⟩:=h.ws h0;show bf dz _=n;rw[← h.val]
  congr 1
  apply bkp mi
  intro i h1 h2;simp only[List.getElem_map,List.getElem_range];rw[hc i h2,pg];simp[List.getD,h2]

theorem bhn (Ax Ay:Option Addr) (cx cy:Nat) (xl yl:List Nat) (n m K:Nat) (w:Wq) (hx:xx w Ax cx xl n) (hy:xx w Ay cy yl m) (hn:n<dz^K) (hm:m<dz^K) (hK:K+1≤35184372088832) :
  Calls prog 177 #[.slice Ax xl.length cx,.slice Ay yl.length cy] w fun e w'=>boi w (n.gcd m) e w':=by
 go_enter func177,ntmps177
 go_wp2_with fail
 have HK:=ae hK
 clear hK
 go_loopw [0,1] (fun av bv wr => ∃ Aa ca la na Ab cb lb nb,av = .slice Aa la.length ca∧bv = .slice Ab lb.length cb∧xx wr Aa ca la na∧xx wr Ab cb lb nb∧na<dz^K∧nb<dz^K∧Hid (na.gcd nb=n.gcd m)∧Below w.heap.size w wr) (fun _ bv wr=>memNum wr bv)
 case atStart=>exact⟨Ax,cx,xl,n,Ay,cy,yl,m,rfl,rfl,hx,hy,hn,hm,rfl,df _ _⟩
 case round =>
  clear hx hy hn hm;obtain⟨Aa,ca,la,na,Ab,cb,lb,nb,rfl,rfl,ha,hb,hna,hnb,HG,hbl⟩:=hrel;have ha1:=ha.Aj;have ha2:=ha.cap2;have hb1:=hb.Aj;have hb2:=hb.cap2;have la1:la.length≤K:=ha.len hna;have lb1:lb.length≤K:=hb.len hnb
  by_cases h0:lb.length=0
  ·
   have e:nb=0:=by rw[← hb.val,Yj.1 h0];rfl
   have hg:=HG.out;rw[e,asa]at hg;have HGG:=bg hg;have HA:=ae ha;clear hg ha hb hna hnb e HG;go_wp2_with fail
   go_ret
   exact⟨Aa,ca,la,rfl,by rw[← HGG.out];exact aa HA,hbl⟩
  ·
   have ciu:0<nb:=by
    rcases Fs nb with h|h
    ·
     exfalso;have:=hb.len (k:=0) (by rw[h];simp);omega
    ·
     exact h
   have hp:=Yu Aa Ab ca cb la lb na nb wr ha hb ciu (by have:=aa HK;omega) (by have:=aa HK;omega);have hg:nb.gcd (na%nb)=n.gcd m:=by
    rw[← HG.out,Ja nb (na%nb),← aex nb na,Ja]
   have hlt:=Bf na ciu;have hmem:=ayf hb;have HP:=ae hp;have HGG:=bg hg;have HB:=ae hb;have Qp:=ae hnb;have qp:=ae hlt;have HM:=bg hmem;clear hp hg ha hb hna hnb HG hlt hmem;go_wp2_with fail;refine(aa HP).mono ?_
   rintro e w' ⟨A5,c5,l5,A6,c6,l6,rfl,h5,h6,byc⟩;have hb':=(aa HB).below byc;have csd:Below w.heap.size w w':=hbl.trans (byc.mono hbl.size);have HB2:=ae hb';have H6:=ae h6;clear hb' h5 h6 byc hbl;go_wp2_with fail
   go_roundw
   case rel=>exact⟨Ab,cb,lb,nb,A6,c6,l6,na%nb,rfl,rfl,aa HB2,aa H6,aa Qp,Iz (aa qp) (aa Qp),HGG,csd⟩
   case measure =>
    have:=ayf (aa H6);have h2:=HM.out;have h3:=aa qp
    simp_all

def aqw (cs:Array Value):Prop := ∀ (i:Nat) (n:Int),cs[i]? ≠ some (Value.int .u32 n)
theorem Qa (A:Option Addr) (n c:Nat) (b:Bool):aqw #[.slice A n c,.bool b]:=by
 intro i n h
 match i,h with
 | 0,h=>simp at h
 | 1,h=>simp at h
 | i+2,h=>simp at h
theorem De (A:Option Addr) (n c:Nat) (b:Bool) (A':Option Addr) (n' c':Nat) (b':Bool):aqw #[.slice A n c,.bool b,.slice A' n' c',.bool b']:=by
 intro i n h
 match i,h with
 | 0,h=>simp at h
 | 1,h=>simp at h
 | 2,h=>simp at h
 | 3,h=>simp at h
 | i+4,h=>simp at h
theorem Ws.cgg (h:Ws .u32 w B A l) (hg:w.heap[g]? = some (.cells cs T (0,0))) (hn:aqw cs) (hgr:w.grownBy w' (some g)) (hB:B≤w.heap.size):Ws .u32 w' B A l:=fun hl=>by
 obtain⟨b,off,rfl,hb,hc⟩:=h hl
 have hne:b≠g:=by
  rintro rfl;have:=hc 0 hl;simp only[World.cell?,hg,aeu,anb,if_false]at this;exact hn _ _ this
 exact⟨b,off,rfl,hb,fun j hj=>(Re (hgr.block b om (fun e=>hne (by injection e)))).trans (hc j hj)⟩
theorem xx.upto (h:xx w A cap l n) (hg:w.heap[g]? = some (.cells cs T (0,0))) (hn:aqw cs) (hgr:w.grownBy w' (some g)):xx w' A cap l n :=
 ⟨(h.ws.cgg hg hn hgr (gu _)).more hgr.size,h.Aj,h.cap2,h.lt,h.norm,h.val⟩
theorem jo (w:Wq) (g:Nat) (u0 u1 u2 u3:Value):w.grownBy ((((w.setCell ⟨g,0,none⟩ u0).setCell ⟨g,1,none⟩ u1).setCell ⟨g,2,none⟩ u2).setCell ⟨g,3,none⟩ u3) (some g) :=
 qy (qy (qy (qy (wy _ _) _ _) _ _) _ _) _ _

structure kz (w:Wq) (A:Option Addr) (cap:Nat) (l:List Nat) (m:Bool) (z:Int):Prop where
 nat:xx w A cap l z.natAbs
 sign:m=decide (z<0)
theorem kz.below (h:kz w A cap l m z) (hb:Below w.heap.size w w'):kz w' A cap l m z:=⟨h.nat.below hb,h.sign⟩
theorem kz.upto (h:kz w A cap l m z) (hg:w.heap[g]? = some (.cells cs T (0,0))) (hn:aqw cs) (hgr:w.grownBy w' (some g)):kz w' A cap l m z:=⟨h.nat.upto hg hn hgr,h.sign⟩

def Le (w:Wq) (z:Int) (e:Ending) (w':Wq):Prop := ∃ A cap l m,e = .returned (.agg #[.slice A l.length cap,.bool m])∧kz w' A cap l m z∧Below w.heap.size w w'

theorem xx.Ta (h:xx w A cap l n):n=0↔l.length=0:=by
 constructor
 ·
  intro e;have:=h.len (k:=0) (by rw[e];simp);omega
 ·
  intro e;rw[← h.val,Yj.1 e];rfl

theorem Hg (A:Option Addr) (cap:Nat) (l:List Nat) (n:Nat) (s:Bool) (w:Wq) (h:xx w A cap l n) :
  Calls prog 179 #[.slice A l.length cap,.bool s] w fun e w'=>Le w (if s then -(n:Int)else(n:Int)) e w':=by
 have hc1:=h.Aj;have hc2:=h.cap2
 have hz:=h.Ta
 have hab:(if s then -(n:Int)else(n:Int)).natAbs=n:=by cases s<;>simp
 have hsg:s=true→decide (0<l.length)=decide ((if s then -(n:Int)else(n:Int))<0):=by
  rintro rfl;simp only[if_true];exact aer.2 om
 have bxt : ¬ s=true→false=decide ((if s then -(n:Int)else(n:Int))<0):=by
  intro hs;rw[Bool.not_eq_true]at hs;subst hs;exact(dw mi).symm
 obtain⟨z,hzz⟩ : ∃ z,z=if s then -(n:Int)else(n:Int):=⟨_,rfl⟩
 rw[← hzz]at hab hsg bxt ⊢
 have HF:Hid (∀ W,Below w.heap.size w W→xx W A cap l z.natAbs):=fun W hW=>by rw[hab];exact h.below hW
 have zf:=ae hsg;have HS2:=ae bxt
 clear h hz hab hsg bxt hzz
 go_enter func179,ntmps179
 go_wp2_with fail
 ·
  have hs:s=true:=by assumption
  exact bodyPost_ret (v := .agg #[.slice A l.length cap,.bool (decide (0<l.length))]) (by simp[results,results179,go_sem]) rfl ⟨A,cap,l,_,rfl,⟨(aa HF) _ ((df _ _).alloc (gu _) _),(aa zf) hs⟩,(df _ _).alloc (gu _) _⟩
 ·
  have hs : ¬ s=true:=by assumption
  exact bodyPost_ret (v := .agg #[.slice A l.length cap,.bool false]) (by simp[results,results179,go_sem]) rfl ⟨A,cap,l,_,rfl,⟨(aa HF) _ ((df _ _).alloc (gu _) _),(aa HS2) hs⟩,(df _ _).alloc (gu _) _⟩

theorem abt (A:Option Addr) (cap n:Nat) (s:Bool) (w:Wq) :
  Calls prog 135 #[.agg #[.slice A n cap,.bool s]] w fun e w'=>e = .returned (.bool (decide (n=0)))∧Below w.heap.size w w':=by
 by_cases h:n=0
 ·
  subst h
  go_enter func135,ntmps135
  go_wp2_with fail
  all_goals first|go_ret|skip
  all_goals exact⟨rfl,(df _ _).alloc (gu _) _⟩
 ·
  have hb:((n:Int)==0)=false:=oo.2 om;have hd:decide (n=0)=false:=dw h;rw[hd];clear hd
  go_enter func135,ntmps135
  go_wp2_with fail
  all_goals first|go_ret|skip
  all_goals exact⟨rfl,(df _ _).alloc (gu _) _⟩

theorem ata (A:Option Addr) (cap:Nat) (l:List Nat) (m:Bool) (z:Int) (w:Wq) (h:kz w A cap l m z) :
  Calls prog 131 #[.agg #[.slice A l.length cap,.bool m]] w fun e w'=>e = .returned (.bool (decide (z=1)))∧Below w.heap.size w w':=by
 have hc1:=h.nat.Aj;have hc2:=h.nat.cap2
 by_cases h1:l.length=1
 ·
  have hb:((l.length:Int)==1)=true:=by rw[h1];rfl
  obtain⟨b,o,rfl,hbb,hc⟩:=h.nat.ws om;have hc0:=((df w.heap.size w).alloc (gu _) (.cells #[.slice (some ⟨b,o,none⟩) l.length cap,.bool m] 66)).cell (p:=⟨b,o+0,none⟩) hbb |>.trans (hc 0 om)
  rw[Hr]at hc0;have hv:ik l 0=z.natAbs:=by rw[ahk dz l h1];exact h.nat.val
  have hs:=h.sign;rw[hv]at hc0;have hres:decide (z=1)=((z.natAbs:Int)==1 && !m):=by
   rw[hs]
   by_cases hz:z=1
   ·
    subst hz;rfl
   ·
    rw[dw hz]
    by_cases h2:z = -1
    ·
     subst h2;rfl
    ·
     have:((z.natAbs:Int)==1)=false:=oo.2 om;rw[this];rfl
  have hl0:0<l.length:=by omega
  have HR:=bg hres;clear hc hv hs h hres h1
  cases m
  all_goals
   by_cases hv:((z.natAbs:Nat):Int)=1
   ·
    have hv1:(((z.natAbs:Nat):Int)==1)=true:=by rw[hv];rfl
    have HV:=bg hv1;rw[hv]at hc0;clear hv hv1
    go_enter func131,ntmps131
    go_wp2_with fail
    all_goals first|go_ret|skip
    all_goals exact⟨by rw[HR.out,HV.out];rfl,(df _ _).alloc (gu _) _⟩
   ·
    have hv1:(((z.natAbs:Nat):Int)==1)=false:=oo.2 hv;have hv0:=hv1;have HV:=bg hv0;clear hv0;obtain⟨t,ht⟩ : ∃ t,t=z.natAbs:=⟨_,rfl⟩
    rw[← ht]at hc0 hv hv1;clear ht
    go_enter func131,ntmps131
    go_wp2_with fail
    all_goals first|go_ret|skip
    all_goals exact⟨by rw[HR.out,HV.out];rfl,(df _ _).alloc (gu _) _⟩
 ·
  have hb:((l.length:Int)==1)=false:=oo.2 om;have hd:decide (z=1)=false:=dw (by
   rintro rfl
   apply h1
   have h0:=h.nat.len (k:=1) (by simp[fu]);have h3 : ¬ l.length=0:=fun e=>by have:=h.nat.Ta.2 e;simp at this
   omega)
  rw[hd];clear hd h
  go_enter func131,ntmps131
  go_wp2_with fail
  all_goals first|go_ret|skip
  all_goals exact⟨rfl,(df _ _).alloc (gu _) _⟩

theorem apc (A:Option Addr) (cap:Nat) (l:List Nat) (m:Bool) (z:Int) (w:Wq) (h:kz w A cap l m z) :
  Calls prog 176 #[.agg #[.slice A l.length cap,.bool m]] w fun e w'=>Le w (-z) e w':=by
 have hv:(if (!m)then -(z.natAbs:Int)else(z.natAbs:Int)) = -z:=by
  rw[h.sign]
  by_cases hz:z<0
  ·
   rw[dm hz];simp;omega
  ·
   rw[dw hz];simp;omega
 have HS:=ae (fun W (hW:Below w.heap.size w W)=>Hg A cap l z.natAbs (!m) W (h.nat.below hW))
 rw[hv]at HS
 clear h hv
 go_enter func176,ntmps176
 go_wp2_with fail
 obtain⟨n0,n1,hsz,hw0⟩:=Ci w (.cells #[.slice A l.length cap,.bool m] 66) (.cells #[.slice none 0 0,.bool false] 66)
 generalize ((w.alloc (.cells #[.slice A l.length cap,.bool m] 66)).alloc (.cells #[.slice none 0 0,.bool false] 66))=W0 at *
 have q1:w.heap.size+1<W0.heap.size:=by omega
 have Ev:W0.cell? ⟨w.heap.size+1,0,none⟩=some (.slice none 0 0):=ag n1 0
 have Eu:W0.cell? ⟨w.heap.size+1,1,none⟩=some (.bool false):=ag n1 1
 have acr:=ah n1 0
 have acp:=ah n1 1
 have NR:=bg n1
 clear n0 n1
 refine((aa HS) _ hw0).mono ?_
 rintro e w' ⟨A5,c5,l5,m5,rfl,Ff,hb⟩
 obtain⟨hc,hfz⟩:=fq hb
 have hblk:w'.heap[w.heap.size+1]? = some (.cells #[.slice none 0 0,.bool false] 66 (0,0)):=(hb.block _ q1).trans NR.out
 have lu:=bg hblk
 have lh:Below w.heap.size w w':=az hw0 hb
 clear hblk
 go_wp2_with fail
 exact bodyPost_ret (v := .agg #[.slice A5 l5.length c5,.bool m5]) (by simp[results,results176,go_sem,hc,Ev,Eu,q1]) rfl
  ⟨A5,c5,l5,m5,rfl,Ff.upto lu.out (Qa _ _ _ _) (qa _ _ _ _),lh.grown (qa _ _ _ _) lh.size (fun k hk=>by injection hk with hk;omega)⟩


theorem bov {lo hi:Nat} (h:w.heap[b]? = some (.cells #[.int .u32 (lo:Int),.int .u32 (hi:Int)] T (0,0))):ZB .u32 w b T [lo,hi]:=h

theorem agy (x:Int) (w:Wq) (hx : -9223372036854775808≤x) (hx2:x≤9223372036854775807) :
  Calls prog 129 #[.int .i64 x] w fun e w'=>Le w x e w' ∧ ∃ (A:Option Addr) (cap:Nat) (l:List Nat) (m:Bool),e = .returned (.agg #[.slice A l.length cap,.bool m])∧l.length≤2:=by
 obtain⟨a,ha⟩ : ∃ a,a=x.natAbs:=⟨_,rfl⟩
 obtain⟨lo,hlo⟩ : ∃ t,t=a%dz:=⟨_,rfl⟩
 obtain⟨hi,hhi⟩ : ∃ t,t=a/dz:=⟨_,rfl⟩
 have ha2:a≤9223372036854775808:=by omega
 have e2:(a:Int)%4294967296=(lo:Int):=by rw[hlo,fu];omega
 have e3:(a:Int)/4294967296=(hi:Int):=by rw[hhi,fu];omega
 have e4:(hi:Int)%4294967296=(hi:Int):=by rw[hhi,fu];omega
 have e5:IntKind.u32.wrap (a:Int)=(lo:Int):=by rw[Sj];exact e2
 have e6:IntKind.u32.wrap (hi:Int)=(hi:Int):=by rw[Sj];exact e4
 have hlB : ∀ t∈[lo,hi],t<dz:=by
  intro t ht;simp only[yx,aez,or_false]at ht
  rcases ht with rfl|rfl
  ·
   rw[hlo];exact Bf _ (by rw[fu];omega)
  ·
   rw[hhi,fu];omega
 have hval:bf dz [lo,hi]=x.natAbs:=by
  rw[← ha];simp only[bf,Nr,Hr];rw[hlo,hhi];exact Nat.mod_add_div _ _
 have HLB:=ae hlB;have axe:=bg hval
 by_cases hn:x<0
 ·
  have d1:decide (x<0)=true:=dm hn;have e1:IntKind.u64.wrap (-IntKind.u64.wrap x)=(a:Int):=by
   rw[Ct,Ct];omega
  clear hx hx2 ha hlo hhi ha2 hlB hval
  go_enter func129,ntmps129
  go_wp2_with fail;obtain⟨n0,n1,hsz,hw0⟩:=Ci w (.cells #[.slice none 0 0,.bool false] 66) (.cells #[.int .u32 (lo:Int),.int .u32 (hi:Int)] 187);generalize ((w.alloc (.cells #[.slice none 0 0,.bool false] 66)).alloc (.cells #[.int .u32 (lo:Int),.int .u32 (hi:Int)] 187))=W0 at *;have k0:W0.cell? ⟨w.heap.size,0,none⟩=some (.slice none 0 0):=ag n0 0;have k1:W0.cell? ⟨w.heap.size,1,none⟩=some (.bool false):=ag n0 1;have f0:=ah n0 0;have f1:=ah n0 1;have q0:w.heap.size<W0.heap.size:=by omega
  have hzb:=bov n1;have NR:=bg n0;have htr:=Hw (some ⟨w.heap.size+1,0,none⟩) 2 [lo,hi] W0.heap.size W0 (hzb.Mk _ hzb.lt) mi om;have HZB:=ae hzb;clear n0 n1 hzb;refine htr.mono ?_
  rintro e w' ⟨⟨k,rfl,ht,hk⟩,hw'⟩;obtain rfl:W0=w':=hw'.symm;clear hw';have Dv:=xx.Ij (cap:=2) (aa HZB) (aa HLB) ht hk mi om;rw[axe.out]at Dv;have hkl:k=([lo,hi].take k).length:=by rw[uy];omega
  have hl2:([lo,hi].take k).length≤2:=by rw[uy];exact bbj _ _
  generalize [lo,hi].take k=l5 at *;subst hkl;have Ff:kz W0 (some ⟨w.heap.size+1,0,none⟩) 2 l5 true x:=⟨Dv,d1.symm⟩
  have HF5:=ae Ff;clear Dv Ff ht;go_wp2_with fail;exact bodyPost_ret (v := .agg #[.slice (some ⟨w.heap.size+1,0,none⟩) l5.length 2,.bool true]) (by simp[results,results129,go_sem,k0,k1,q0]) rfl
   ⟨⟨_,2,l5,true,rfl,(aa HF5).upto NR.out (Qa _ _ _ _) (qa _ _ _ _),hw0.grown (qa _ _ _ _) hw0.size (fun k hk=>by injection hk with hk;omega)⟩,_,_,l5,true,rfl,hl2⟩
 ·
  have d1:decide (x<0)=false:=dw hn;have e1:IntKind.u64.wrap x=(a:Int):=by
   rw[Ct];omega
  clear hx hx2 ha hlo hhi ha2 hlB hval
  go_enter func129,ntmps129
  go_wp2_with fail;obtain⟨n0,n1,hsz,hw0⟩:=Ci w (.cells #[.slice none 0 0,.bool false] 66) (.cells #[.int .u32 (lo:Int),.int .u32 (hi:Int)] 187);generalize ((w.alloc (.cells #[.slice none 0 0,.bool false] 66)).alloc (.cells #[.int .u32 (lo:Int),.int .u32 (hi:Int)] 187))=W0 at *;have k0:W0.cell? ⟨w.heap.size,0,none⟩=some (.slice none 0 0):=ag n0 0;have k1:W0.cell? ⟨w.heap.size,1,none⟩=some (.bool false):=ag n0 1;have f0:=ah n0 0;have f1:=ah n0 1;have q0:w.heap.size<W0.heap.size:=by omega
  have hzb:=bov n1;have NR:=bg n0;have htr:=Hw (some ⟨w.heap.size+1,0,none⟩) 2 [lo,hi] W0.heap.size W0 (hzb.Mk _ hzb.lt) mi om;have HZB:=ae hzb;clear n0 n1 hzb;refine htr.mono ?_
  rintro e w' ⟨⟨k,rfl,ht,hk⟩,hw'⟩;obtain rfl:W0=w':=hw'.symm;clear hw';have Dv:=xx.Ij (cap:=2) (aa HZB) (aa HLB) ht hk mi om;rw[axe.out]at Dv;have hkl:k=([lo,hi].take k).length:=by rw[uy];omega
  have hl2:([lo,hi].take k).length≤2:=by rw[uy];exact bbj _ _
  generalize [lo,hi].take k=l5 at *;subst hkl;have Ff:kz W0 (some ⟨w.heap.size+1,0,none⟩) 2 l5 false x:=⟨Dv,d1.symm⟩
  have HF5:=ae Ff;clear Dv Ff ht;go_wp2_with fail;exact bodyPost_ret (v := .agg #[.slice (some ⟨w.heap.size+1,0,none⟩) l5.length 2,.bool false]) (by simp[results,results129,go_sem,k0,k1,q0]) rfl
   ⟨⟨_,2,l5,false,rfl,(aa HF5).upto NR.out (Qa _ _ _ _) (qa _ _ _ _),hw0.grown (qa _ _ _ _) hw0.size (fun k hk=>by injection hk with hk;omega)⟩,_,_,l5,false,rfl,hl2⟩


theorem bux (A1:Option Addr) (c1:Nat) (l1:List Nat) (m1:Bool) (z1:Int) (A2:Option Addr) (c2:Nat) (l2:List Nat) (m2:Bool) (z2:Int) (w:Wq) (h1:kz w A1 c1 l1 m1 z1) (h2:kz w A2 c2 l2 m2 z2) (hk:l1.length+l2.length≤35184372088832) :
  Calls prog 133 #[.agg #[.slice A1 l1.length c1,.bool m1],.agg #[.slice A2 l2.length c2,.bool m2]] w fun e w'=>Le w (z1*z2) e w':=by
 have hv:(if (m1 != m2)then -((z1.natAbs*z2.natAbs:Nat):Int)else((z1.natAbs*z2.natAbs:Nat):Int))=z1*z2:=by
  rw[h1.sign,h2.sign,← Uu]
  by_cases a:z1<0<;>by_cases b:z2<0
  ·
   have:=Int.mul_pos_of_neg_of_neg a b;simp[a,b];omega
  ·
   have:z1*z2≤0:=Int.mul_nonpos_of_nonpos_of_nonneg om om;simp[a,b];omega
  ·
   have:z1*z2≤0:=Int.mul_nonpos_of_nonneg_of_nonpos om om;simp[a,b];omega
  ·
   have:0≤z1*z2:=Int.mul_nonneg om om;simp[a,b];omega
 have HT:=ae (fun W (hW:Below w.heap.size w W)=>blg A1 A2 c1 c2 l1 l2 z1.natAbs z2.natAbs W (h1.nat.below hW) (h2.nat.below hW) hk)
 obtain⟨p,hp⟩ : ∃ p,p=z1.natAbs*z2.natAbs:=⟨_,rfl⟩
 obtain⟨z,hz⟩ : ∃ z,z=z1*z2:=⟨_,rfl⟩
 rw[← hp]at HT hv
 rw[← hz]at hv ⊢
 obtain⟨sg,hsg⟩ : ∃ s,s=(m1 != m2):=⟨_,rfl⟩
 rw[← hsg]at hv
 have HV:=bg hv
 have SG:(!(m1==m2))=sg:=hsg.symm
 clear h1 h2 hk hp hz hv hsg
 go_enter func133,ntmps133
 go_wp2_with fail
 obtain⟨n0,n1,n2,hsz,hw0⟩:=wm w (.cells #[.slice A1 l1.length c1,.bool m1] 66) (.cells #[.slice A2 l2.length c2,.bool m2] 66) (.cells #[.slice none 0 0,.bool false] 66)
 generalize (((w.alloc (.cells #[.slice A1 l1.length c1,.bool m1] 66)).alloc (.cells #[.slice A2 l2.length c2,.bool m2] 66)).alloc (.cells #[.slice none 0 0,.bool false] 66))=W0 at *
 have k0:W0.cell? ⟨w.heap.size,0,none⟩=some (.slice A1 l1.length c1):=ag n0 0
 have k1:W0.cell? ⟨w.heap.size,1,none⟩=some (.bool m1):=ag n0 1
 have k2:W0.cell? ⟨w.heap.size+1,0,none⟩=some (.slice A2 l2.length c2):=ag n1 0
 have k3:W0.cell? ⟨w.heap.size+1,1,none⟩=some (.bool m2):=ag n1 1
 have q0:w.heap.size<W0.heap.size:=by omega
 have q1:w.heap.size+1<W0.heap.size:=by omega
 have q2:w.heap.size+1+1<W0.heap.size:=by omega
 have r0:W0.cell? ⟨w.heap.size+1+1,0,none⟩=some (.slice none 0 0):=ag n2 0
 have r1:W0.cell? ⟨w.heap.size+1+1,1,none⟩=some (.bool false):=ag n2 1
 have f0:=ah n2 0
 have f1:=ah n2 1
 have NR:=bg n2
 clear n0 n1 n2 hsz
 go_region_held3 (fun w'=>w'.cell? ⟨w.heap.size,0,none⟩=some (.slice A1 l1.length c1)∧w'.cell? ⟨w.heap.size,1,none⟩=some (.bool m1)∧w'.cell? ⟨w.heap.size+1,0,none⟩=some (.slice A2 l2.length c2)∧w'.cell? ⟨w.heap.size+1,1,none⟩=some (.bool m2)) ((first|with_reducible exact⟨k0,k1,k2,k3⟩|with_reducible exact⟨(hc _ _ q0).trans k0,(hc _ _ q0).trans k1,(hc _ _ q1).trans k2,(hc _ _ q1).trans k3⟩|with_reducible exact⟨(Cz _ _ _ _ om).trans ((hc _ _ q0).trans k0),(Cz _ _ _ _ om).trans ((hc _ _ q0).trans k1),(Cz _ _ _ _ om).trans ((hc _ _ q1).trans k2),(Cz _ _ _ _ om).trans ((hc _ _ q1).trans k3)⟩|exact⟨k0,k1,k2,k3⟩|exact⟨(hc _ _ q0).trans k0,(hc _ _ q0).trans k1,(hc _ _ q1).trans k2,(hc _ _ q1).trans k3⟩)) (first|(go_at_call 184;refine((aa HT) _ (az hw0 (by(first|with_reducible assumption|(repeat (first|with_reducible exact df _ _|with_reducible assumption|refine ny ?_|(refine qz ?_ zx _))))))).mono ?_;rintro e w' ⟨A5,c5,l5,rfl,Dv,hb⟩;have hbw:=cz (w:=W0) bem hb;obtain⟨hc,hfz⟩:=fq hbw)|(go_at_call 179;refine(Hg A5 c5 l5 p sg _ (by exact Dv)).mono ?_;rw[HV.out];rintro e w' ⟨A6,c6,l6,m6,rfl,Lc,hb⟩;have hbw:=cz (w:=W0) bem hb;obtain⟨hc,hfz⟩:=fq hbw))
 all_goals
  have hblk:w'.heap[w.heap.size+1+1]? = some (.cells #[.slice none 0 0,.bool false] 66 (0,0)):=(hbw.block _ q2).trans NR.out;have lu:=bg hblk;have lh:Below w.heap.size w w':=az hw0 hbw;clear hblk;go_wp2_with fail;exact bodyPost_ret (v := .agg #[.slice A6 l6.length c6,.bool m6]) (by simp[results,results133,go_sem,hc,r0,r1,q2]) rfl
   ⟨A6,c6,l6,m6,rfl,Lc.upto lu.out (Qa _ _ _ _) (qa _ _ _ _),lh.grown (qa _ _ _ _) lh.size (fun k hk=>by injection hk with hk;omega)⟩

theorem buz (A1:Option Addr) (c1:Nat) (l1:List Nat) (m1:Bool) (A2:Option Addr) (c2:Nat) (l2:List Nat) (m2:Bool) (d:Int) (w:Wq) (h2:kz w A2 c2 l2 m2 d) (hd:d≠0) :
  Calls prog 130 #[.agg #[.slice A1 l1.length c1,.bool m1,.slice A2 l2.length c2,.bool m2]] w fun e w'=>e = .returned (.agg #[.slice A2 l2.length c2,.bool m2])∧Below w.heap.size w w':=by
 have hl : ¬ l2.length=0:=fun e=>by have:=h2.nat.Ta.2 e;omega
 have HI:=ae (fun W=>abt A2 c2 l2.length m2 W)
 rw[dw hl]at HI
 clear h2 hd
 go_enter func130,ntmps130
 go_wp2_with fail
 obtain⟨n0,n1,hsz,hw0⟩:=Ci w (.cells #[.slice A1 l1.length c1,.bool m1,.slice A2 l2.length c2,.bool m2] 68) (.cells #[.slice none 0 0,.bool false] 66)
 generalize ((w.alloc (.cells #[.slice A1 l1.length c1,.bool m1,.slice A2 l2.length c2,.bool m2] 68)).alloc (.cells #[.slice none 0 0,.bool false] 66))=W0 at *
 have k2:W0.cell? ⟨w.heap.size,2,none⟩=some (.slice A2 l2.length c2):=ag n0 2
 have k3:W0.cell? ⟨w.heap.size,3,none⟩=some (.bool m2):=ag n0 3
 have q0:w.heap.size<W0.heap.size:=by omega
 have q1:w.heap.size+1<W0.heap.size:=by omega
 have r0:W0.cell? ⟨w.heap.size+1,0,none⟩=some (.slice none 0 0):=ag n1 0
 have r1:W0.cell? ⟨w.heap.size+1,1,none⟩=some (.bool false):=ag n1 1
 have f0:=ah n1 0
 have f1:=ah n1 1
 clear n0 n1 hsz
 refine((aa HI) _).mono ?_
 rintro e w' ⟨rfl,hb⟩
 obtain⟨hc,hfz⟩:=fq hb
 have lh:Below w.heap.size w w':=az hw0 hb
 go_wp2_with fail
 exact bodyPost_ret (v := .agg #[.slice A2 l2.length c2,.bool m2]) (by simp[results,results130,go_sem,hc,k2,k3,r0,r1,q1]) rfl
  ⟨rfl,lh.grown (qa _ _ _ _) lh.size (fun k hk=>by injection hk with hk;omega)⟩

def clb (w:Wq) (z:Int) (e:Ending) (w':Wq):Prop := ∃ (v:Int) (ok:Bool),e = .returned (.tuple #[.int .i64 v,.bool ok])∧ok=decide (-9223372036854775808≤z∧z≤9223372036854775807)∧(ok=true→v=z)∧Below w.heap.size w w'

theorem ajz (l:List Nat) (h:0<l.length):bf dz (l.take 1)=ik l 0:=by
 cases l with
 | nil=>simp at h
 | cons a l=>simp[bf,pg,List.getD]
theorem bbr (l:List Nat) (h:1<l.length):bf dz (l.take 2)=ik l 0+ik l 1*2^32:=by
 cases l with
 | nil=>simp at h
 | cons a l=>cases l with
  | nil=>simp at h
  | cons b l=>simp[bf,pg,List.getD,fu];omega

theorem asu (A:Option Addr) (cap:Nat) (l:List Nat) (m:Bool) (z:Int) (w:Wq) (h:kz w A cap l m z) :
  Calls prog 143 #[.agg #[.slice A l.length cap,.bool m]] w fun e w'=>clb w z e w':=by
 have hc1:=h.nat.Aj;have hc2:=h.nat.cap2
 have hba:Below w.heap.size w (w.alloc (.cells #[.slice A l.length cap,.bool m] 66)):=(df _ _).alloc (gu _) _
 by_cases hl:l.length≤2
 ·
  have d1:decide ((2:Int)<(l.length:Int))=false:=dw om;have hsg:=h.sign;have hn:=(h.nat.below hba)
  have hbl:=h.nat.Za;obtain⟨n0,hsz,hw0⟩:=Ii w (.cells #[.slice A l.length cap,.bool m] 66);have HN:=ae hn;have HBL:=ae hbl;have Sc:=bg hsg;have HW0:=ae hw0;clear hba hn hbl hsg h hw0
  go_enter func143,ntmps143
  go_wp2_with fail
  all_goals first|omega|skip
  generalize (w.alloc (.cells #[.slice A l.length cap,.bool m] 66))=W0 at *;have k0:W0.cell? ⟨w.heap.size,0,none⟩=some (.slice A l.length cap):=ag n0 0;have k1:W0.cell? ⟨w.heap.size,1,none⟩=some (.bool m):=ag n0 1;clear n0 hsz
  go_loop [4,5] (fun uv iv => ∃ i:Nat,i≤l.length∧iv = .int .i64 ((i:Nat):Int)∧uv = .int .u64 ((bf dz (l.take i):Nat):Int)) (fun _ iv=>l.length-(intOf iv).toNat)
  case atStart=>exact⟨0,ug _,rfl,rfl⟩
  case round =>
   obtain⟨i,hi,rfl,rfl⟩:=hrel
   by_cases hlt:i<l.length
   ·
    obtain⟨b,o,rfl,hbb,hcell⟩:=(aa HN).ws om;have hx:=hcell i hlt;clear hcell;obtain⟨x,Mr⟩ : ∃ x,x=ik l i:=⟨_,rfl⟩
    rw[← Mr]at hx;have Cf:x<dz:=by rw[Mr];exact jy (by rw[fu];omega) _ (aa HN).lt i
    have e0:IntKind.u64.wrap (x:Int)=(x:Int):=jm rfl (by rw[fu]at Cf;rw[ja];omega);have hi2:i=0∨i=1:=by omega
    rcases hi2 with rfl|rfl
    ·
     have hv:bf dz (l.take 1)=x:=by rw[ajz l hlt,Mr]
     have hv0:bf dz (l.take 0)=0:=rfl;rw[Hr]at hx;rw[hv0];have g1:Go.bits .or .u64 0 (x:Int)=(x:Int):=by
      have:=bits_or_u64_nat 0 x om (by rw[fu]at Cf;omega)
      simpa using this
     have HV:=bg hv;clear hv Mr hv0;go_wp2_with fail
     go_round
     case rel=>exact⟨1,by omega,rfl,by rw[HV.out]⟩
     case measure=>simp[intOf]<;>omega
    ·
     have hv:bf dz (l.take 2)=ik l 0+x*2^32:=by rw[bbr l hlt,Mr]
     have hv0:bf dz (l.take 1)=ik l 0:=ajz l om;have Gz:ik l 0<dz:=jy (by rw[fu];omega) _ (aa HN).lt 0;obtain⟨y,Ze⟩ : ∃ x,x=ik l 0:=⟨_,rfl⟩
     rw[← Ze]at hv hv0 Gz;rw[hv0];obtain⟨p,hp⟩ : ∃ p,p=x*2^32:=⟨_,rfl⟩
     obtain⟨s,hs⟩ : ∃ s,s=y+p:=⟨_,rfl⟩
     have g0:IntKind.u64.wrap ((x:Int)*2^32)=(p:Int):=jm (by rw[hp];simp) (by rw[hp];rw[fu]at Cf;rw[ja];omega);have g0':IntKind.u64.wrap ((x:Int)*4294967296)=(p:Int):=jm (by rw[hp];simp) (by rw[hp];rw[fu]at Cf;rw[ja];omega);have g1:Go.bits .or .u64 (y:Int) (p:Int)=(s:Int):=by
      rw[bits_or_u64_nat y p (by rw[fu]at Gz;omega) (by rw[hp];rw[fu]at Cf;omega),hs,hp,abb (by rw[fu]at Gz;omega)]
     rw[← hp,← hs]at hv;have HV:=bg hv;clear hv Mr hv0 Ze hp hs;go_wp2_with fail
     go_round
     case rel=>exact⟨2,by omega,rfl,by rw[HV.out]⟩
     case measure=>simp[intOf]<;>omega
   ·
    have e:i=l.length:=by omega
    subst e;have hv:bf dz (l.take l.length)=z.natAbs:=by rw[abq];exact(aa HN).val
    rw[hv];obtain⟨a,ha⟩ : ∃ a,a=z.natAbs:=⟨_,rfl⟩
    have haB:a<eu:=by
     have:=aa HBL;have h2:dz^l.length≤dz^2:=Ho (by rw[fu];omega) hl;rw[← ha]at this;rw[ja];rw[fu]at *;omega
    rw[← ha];clear hv hlt;go_wp2_with fail
    ·
     have hm:m=true:=by assumption
     have hz:z<0:=sw (Sc.out.symm.trans hm)
     go_ret2
     refine⟨_,_,rfl,aer.2 om,fun h => ?_,aa HW0⟩
     have h2:=sw h;simp only[wrap64,Ct];omega
    ·
     have hm : ¬ m=true:=by rw[show m=false by assumption];exact agr
     have hz : ¬ z<0:=fun h=>hm (Sc.out.trans (dm h))
     go_ret2
     refine⟨_,_,rfl,aer.2 om,fun h => ?_,aa HW0⟩
     have h2:=sw h;rw[Cs _ om];omega
 ·
  have d1:decide ((2:Int)<(l.length:Int))=true:=dm om;have hnot : ¬ (-9223372036854775808≤z∧z≤9223372036854775807):=by
   intro hz;have:=h.nat.len (k:=2) (by rw[fu];omega);omega
  have HNO:=ae hnot;clear h hnot
  go_enter func143,ntmps143
  go_wp2_with fail
  all_goals first|omega|skip
  go_ret2
  exact⟨0,false,rfl,(dw (aa HNO)).symm,(fun h=>Bool.noConfusion h),hba⟩


theorem ccr (n d:Int) (w:Wq) :
  Calls prog 70 #[.agg #[.int .i64 n,.int .i64 d]] w fun e w'=>e = .returned (.bool (decide (qi n d)))∧Below w.heap.size w w':=by
 have hba:Below w.heap.size w (w.alloc (.cells #[.int .i64 n,.int .i64 d] 23)):=(df _ _).alloc (gu _) _
 have HB:=ae hba
 by_cases hr:1≤d∧d≤1000000000000 ∧ -1000000000000≤n∧n≤1000000000000
 ·
  obtain⟨r1,r2,r3,r4⟩:=hr;have hok:decide (n.natAbs.gcd d.natAbs=1)=decide (qi n d):=aer.2 (by
   unfold qi
   constructor
   ·
    intro h;refine⟨?_,?_,?_,?_,?_⟩<;>first|omega|exact h
   ·
    rintro⟨_,_,_,_,h⟩;exact h)
  rw[← hok];obtain⟨rb,hrb⟩ : ∃ b,b=decide (n.natAbs.gcd d.natAbs=1):=⟨_,rfl⟩
  rw[← hrb];have HRB:=bg hrb;clear hok hba hrb;have d1:decide (d<1)=false:=dw om;have d2:decide (1000000000000<d)=false:=dw om;have d3:decide (n < -1000000000000)=false:=dw om;have d4:decide (1000000000000<n)=false:=dw om;have en:IntKind.i64.wrap (-n) = -n:=Es _ om;obtain⟨a,ha⟩ : ∃ a,a=n.natAbs:=⟨_,rfl⟩
  obtain⟨b,hb⟩ : ∃ b,b=d.natAbs:=⟨_,rfl⟩
  go_enter func70,ntmps70
  go_wp2_with fail
  all_goals first|omega|skip
  all_goals go_quiet (fail)
  all_goals go_wp2_with fail
  all_goals
   have HRR:=ae (And.intro r1 (And.intro r2 (And.intro r3 r4)))
   go_loopw [3,4] (fun av bv wr => ∃ (a b:Nat),av = .int .i64 ((a:Nat):Int)∧bv = .int .i64 ((b:Nat):Int)∧a≤1000000000000∧b≤1000000000000∧Hid (a.gcd b=n.natAbs.gcd d.natAbs)∧Below w.heap.size w wr) (fun _ bv _=>(intOf bv).toNat)
   case atStart =>
    refine⟨n.natAbs,d.natAbs,?_,?_,by omega,by omega,rfl,by first|exact aa HB|exact(aa HB).drew|exact ky (aa HB) _⟩
    ·
     show Value.int .i64 _=Value.int .i64 _
     congr 1;omega
    ·
     show Value.int .i64 _=Value.int .i64 _
     congr 1;omega
   case round =>
    obtain⟨a,b,rfl,rfl,ha,hb,HG,hbl⟩:=hrel
    by_cases h0:b=0
    ·
     subst h0;have hg:=HG.out;rw[asa]at hg;have hres:((a:Int)==1)=rb:=by
      rw[HRB.out]
      by_cases h:a=1
      ·
       exact(show((a:Int)==1)=true by rw[h];rfl).trans (dm (hg.symm.trans h)).symm
      ·
       exact(show((a:Int)==1)=false from oo.2 om).trans (dw (fun e=>h (hg.trans e))).symm
     have aml:=bg hres;clear hg hres;go_wp2_with fail
     all_goals first|omega|skip
     go_ret
     exact⟨by rw[← aml.out];rfl,hbl⟩
    ·
     have dp:decide ((0:Int)<(b:Int))=true:=dm om;have dp':decide (0<b)=true:=dm om;have e1:((a:Int)).tmod (b:Int)=((a%b:Nat):Int):=(Int.ofNat_tmod _ _).symm;have e2:((b:Int)==0)=false:=oo.2 om;have e3 : ¬ ((b:Int)=0):=by omega
     have hm:=Bf a (abm h0);obtain⟨r,hr⟩ : ∃ r,r=a%b:=⟨_,rfl⟩
     rw[← hr]at e1 hm;have e4:IntKind.i64.wrap (r:Int)=(r:Int):=Es _ om;have hgg:b.gcd r=n.natAbs.gcd d.natAbs:=by
      rw[← HG.out,hr,Ja b (a%b),← aex b a,Ja]
     have HGG:=bg hgg;clear hgg hr HG;go_wp2_with fail
     all_goals first|omega|skip
     go_quiet (fail)
     go_wp2_with fail
     go_roundw
     case rel=>exact⟨b,r,by go_num,by go_num,by omega,by omega,HGG,by first|exact hbl|exact hbl.drew|exact ky hbl _⟩
     case measure=>simp[intOf]<;>omega
 ·
  have hok:decide (qi n d)=false:=dw (by
   unfold qi;rintro⟨a1,a2,a3,a4,_⟩;exact hr ⟨by omega,by omega,by omega,by omega⟩)
  rw[hok];clear hok hba
  go_enter func70,ntmps70
  go_wp2_with fail
  all_goals first|omega|skip
  all_goals
   go_ret
   exact⟨rfl,aa HB⟩



def Mi (w:Wq) (b:Nat) (z:Int):Prop := ∃ A cap l m,w.heap[b]? = some (.cells #[.slice A (List.length l) cap,.bool m] 66 (0,0))∧kz w A cap l m z
theorem Mi.below (h:Mi w b z) (hb:Below w.heap.size w w'):Mi w' b z:=by
 obtain⟨A,cap,l,m,h1,h2⟩:=h
 exact⟨A,cap,l,m,(hb.block _ (lt_of_block h1)).trans h1,h2.below hb⟩
theorem Mi.lt (h:Mi w b z):b<w.heap.size:=by
 obtain⟨A,cap,l,m,h1,_⟩:=h;exact lt_of_block h1
theorem Mi.put {z0:Int} (h:Mi w b z0) (hf:kz w A cap l m z) :
  Mi ((w.setCell ⟨b,0,none⟩ (.slice A l.length cap)).setCell ⟨b,1,none⟩ (.bool m)) b z:=by
 obtain⟨A0,c0,l0,m0,h1,_⟩:=h
 exact⟨A,cap,l,m,ahe h1,hf.upto h1 (Qa _ _ _ _) (qa _ _ _ _)⟩
theorem Mi.other (u0 u1:Value) (h:Mi w b z) (hb:Mi w b' z') (hne:b≠b'):Mi ((w.setCell ⟨b',0,none⟩ u0).setCell ⟨b',1,none⟩ u1) b z:=by
 obtain⟨A,cap,l,m,h1,h2⟩:=h
 obtain⟨A0,c0,l0,m0,h3,_⟩:=hb
 have hg:=qa w b' u0 u1
 exact⟨A,cap,l,m,(hg.block b (lt_of_block h1) (fun e=>hne (by injection e))).trans h1,h2.upto h3 (Qa _ _ _ _) hg⟩
theorem kz.put (u0 u1:Value) (hf:kz w A cap l m z) (hb:Mi w b z'):kz ((w.setCell ⟨b,0,none⟩ u0).setCell ⟨b,1,none⟩ u1) A cap l m z:=by
 obtain⟨A0,c0,l0,m0,h1,_⟩:=hb
 exact hf.upto h1 (Qa _ _ _ _) (qa _ _ _ _)

structure RaS (w W:Wq) (n d:Int):Prop where
 bn:Mi W w.heap.size n
 bd:Mi W (w.heap.size+1) d
 bq:W.heap[w.heap.size+1+1]? = some (.cells #[.slice none 0 0,.bool false,.slice none 0 0,.bool false] 68 (0,0))
 hb:Below w.heap.size w W
theorem RaS.below {W':Wq} {n d:Int} (h:RaS w W n d) (hb:Below W.heap.size W W'):RaS w W' n d :=
 ⟨h.bn.below hb,h.bd.below hb,(hb.block _ (lt_of_block h.bq)).trans h.bq,az h.hb hb⟩
theorem RaS.put {n d n' d':Int} (h:RaS w W n d) (h1:kz W A1 c1 l1 m1 n') (h2:kz W A2 c2 l2 m2 d') :
  RaS w ((((W.setCell ⟨w.heap.size,0,none⟩ (.slice A1 l1.length c1)).setCell ⟨w.heap.size,1,none⟩ (.bool m1)).setCell ⟨w.heap.size+1,0,none⟩ (.slice A2 l2.length c2)).setCell ⟨w.heap.size+1,1,none⟩ (.bool m2)) n' d':=by
 have a1:=h.bn.put h1
 have a2:=h.bd.other (.slice A1 l1.length c1) (.bool m1) h.bn om
 have a3:=h2.put (.slice A1 l1.length c1) (.bool m1) h.bn
 have g1:=qa W w.heap.size (.slice A1 l1.length c1) (.bool m1)
 generalize ((W.setCell ⟨w.heap.size,0,none⟩ (.slice A1 l1.length c1)).setCell ⟨w.heap.size,1,none⟩ (.bool m1))=W1 at *
 have b1:=a2.put a3
 have b2:=a1.other (.slice A2 l2.length c2) (.bool m2) a2 om
 have g2:=qa W1 (w.heap.size+1) (.slice A2 l2.length c2) (.bool m2)
 have q1:=(g1.block _ (lt_of_block h.bq) (fun e=>by injection e with e;omega)).trans h.bq
 exact⟨b2,b1,(g2.block _ (lt_of_block q1) (fun e=>by injection e with e;omega)).trans q1,
  (h.hb.grown g1 h.hb.size (fun k hk=>by injection hk with hk;omega)).grown g2 (by have:=g1.size;have:=h.hb.size;omega) (fun k hk=>by injection hk with hk;omega)⟩

theorem RaS.keep {n d:Int} (u0 u1 u2 u3:Value) (h:RaS w W n d) (x:kz W A cap l m z) :
  kz ((((W.setCell ⟨w.heap.size,0,none⟩ u0).setCell ⟨w.heap.size,1,none⟩ u1).setCell ⟨w.heap.size+1,0,none⟩ u2).setCell ⟨w.heap.size+1,1,none⟩ u3) A cap l m z :=
 (x.put u0 u1 h.bn).put u2 u3 (h.bd.other u0 u1 h.bn om)

def QR (w:Wq) (q:Rat) (e:Ending) (w':Wq):Prop := ∃ A1 c1 l1 m1 A2 c2 l2 m2,e = .returned (.agg #[.slice A1 (List.length l1) c1,.bool m1,.slice A2 (List.length l2) c2,.bool m2])∧kz w' A1 c1 l1 m1 q.num∧kz w' A2 c2 l2 m2 (q.den:Int)∧Below w.heap.size w w'

theorem bnp (n d:Int) (hd:0<d):(Rat.divInt n d).num=(if decide (n<0)=true then -((n.natAbs/(n.natAbs.gcd d.natAbs):Nat):Int)else((n.natAbs/(n.natAbs.gcd d.natAbs):Nat):Int))∧((Rat.divInt n d).den:Int)=((d.natAbs/(n.natAbs.gcd d.natAbs):Nat):Int):=by
 obtain⟨h1,h2⟩:=Lg n d om
 rw[amv hd,aae]at h1 h2
 rw[h1,h2]
 generalize n.natAbs.gcd d.natAbs=g
 constructor
 ·
  by_cases hn:n<0
  ·
   rw[if_pos (dm hn)];obtain⟨k,hk⟩ : ∃ k:Nat,n = -(k:Int):=⟨n.natAbs,by omega⟩
   subst hk;rw[Int.neg_tdiv,adh,Fq,Pb]
  ·
   rw[if_neg (by simpa using hn)];obtain⟨k,hk⟩ : ∃ k:Nat,n=(k:Int):=⟨n.natAbs,by omega⟩
   subst hk;rw[Fq,Pb]
 ·
  obtain⟨k,hk⟩ : ∃ k:Nat,d=(k:Int):=⟨d.natAbs,by omega⟩
  subst hk;rw[Fq,Pb]
theorem azv (n d:Int) (hd:d≠0):Rat.divInt (-n) (-d)=Rat.divInt n d:=by
 rw[Rat.divInt_eq_divInt_iff om hd,Int.neg_mul,Int.mul_neg]

structure QV (w:Wq) (A1:Option Addr) (c1:Nat) (l1:List Nat) (m1:Bool) (A2:Option Addr) (c2:Nat) (l2:List Nat) (m2:Bool) (q:Rat):Prop where
 num:kz w A1 c1 l1 m1 q.num
 den : ∃ d:Int,kz w A2 c2 l2 m2 d∧(d=(q.den:Int)∨(d=0∧q.den=1))
theorem QV.below (h:QV w A1 c1 l1 m1 A2 c2 l2 m2 q) (hb:Below w.heap.size w w'):QV w' A1 c1 l1 m1 A2 c2 l2 m2 q:=by
 obtain⟨d,h2,h3⟩:=h.den
 exact⟨h.num.below hb,d,h2.below hb,h3⟩
theorem QV.of (h1:kz w A1 c1 l1 m1 q.num) (h2:kz w A2 c2 l2 m2 (q.den:Int)):QV w A1 c1 l1 m1 A2 c2 l2 m2 q :=
 ⟨h1,_,h2,.inl rfl⟩
theorem kz.len {K:Nat} (h:kz w A cap l m z) (hz:z.natAbs<dz^K):l.length≤K:=h.nat.len hz

theorem apb (w:Wq) :
  Calls prog 142 #[] w fun e w'=>Le w 1 e w':=by
 go_enter func142,ntmps142
 go_wp2_with fail
 obtain⟨n0,n1,hsz,hw0⟩:=Ci w (.cells #[.slice (some ⟨w.heap.size+1,0,none⟩) 1 1,.bool false] 66) (.cells #[.int .u32 1] 187)
 generalize ((w.alloc (.cells #[.slice (some ⟨w.heap.size+1,0,none⟩) 1 1,.bool false] 66)).alloc (.cells #[.int .u32 1] 187))=W0 at *
 have hz:ZB .u32 W0 (w.heap.size+1) 187 [1]:=n1
 have hn:xx W0 (some ⟨w.heap.size+1,0,none⟩) 1 [1] 1:=⟨hz.Mk _ hz.lt,by simp,by omega,by intro x hx;rw[Rj]at hx;subst hx;exact Bw,.inr mi,by simp[bf]⟩
 have k0:W0.cell? ⟨w.heap.size,0,none⟩=some (.slice (some ⟨w.heap.size+1,0,none⟩) 1 1):=ag n0 0
 have k1:W0.cell? ⟨w.heap.size,1,none⟩=some (.bool false):=ag n0 1
 exact bodyPost_ret (v := .agg #[.slice (some ⟨w.heap.size+1,0,none⟩) 1 1,.bool false]) (by simp[results,results142,go_sem,k0,k1]) rfl
  ⟨_,1,[1],false,rfl,⟨hn,rfl⟩,hw0⟩

theorem bbt (A1:Option Addr) (c1:Nat) (l1:List Nat) (m1:Bool) (A2:Option Addr) (c2:Nat) (l2:List Nat) (m2:Bool) (w:Wq) (h2:kz w A2 c2 l2 m2 0) :
  Calls prog 130 #[.agg #[.slice A1 l1.length c1,.bool m1,.slice A2 l2.length c2,.bool m2]] w fun e w'=>Le w 1 e w':=by
 have hl:l2.length=0:=h2.nat.Ta.1 rfl
 have HI:=ae (fun W=>abt A2 c2 l2.length m2 W)
 rw[dm hl]at HI
 have HO:=ae apb
 clear h2 hl
 go_enter func130,ntmps130
 go_wp2_with fail
 obtain⟨n0,n1,hsz,hw0⟩:=Ci w (.cells #[.slice A1 l1.length c1,.bool m1,.slice A2 l2.length c2,.bool m2] 68) (.cells #[.slice none 0 0,.bool false] 66)
 generalize ((w.alloc (.cells #[.slice A1 l1.length c1,.bool m1,.slice A2 l2.length c2,.bool m2] 68)).alloc (.cells #[.slice none 0 0,.bool false] 66))=W0 at *
 have q1:w.heap.size+1<W0.heap.size:=by omega
 have r0:W0.cell? ⟨w.heap.size+1,0,none⟩=some (.slice none 0 0):=ag n1 0
 have r1:W0.cell? ⟨w.heap.size+1,1,none⟩=some (.bool false):=ag n1 1
 have f0:=ah n1 0
 have f1:=ah n1 1
 have NR:=bg n1
 clear n0 n1 hsz
 refine((aa HI) _).mono ?_
 rintro e W1 ⟨rfl,hb⟩
 have HB:=ae hb
 clear hb
 go_wp2_with fail
 refine((aa HO) _).mono ?_
 rintro e w' ⟨A5,c5,l5,m5,rfl,Ff,hb2⟩
 have hb:=az (aa HB) hb2
 obtain⟨hc,hfz⟩:=fq hb
 have hblk:w'.heap[w.heap.size+1]? = some (.cells #[.slice none 0 0,.bool false] 66 (0,0)):=(hb.block _ q1).trans NR.out
 have lu:=bg hblk
 have lh:Below w.heap.size w w':=az hw0 hb
 clear hblk hb2
 go_wp2_with fail
 exact bodyPost_ret (v := .agg #[.slice A5 l5.length c5,.bool m5]) (by simp[results,results130,go_sem,hc,r0,r1,q1]) rfl
  ⟨A5,c5,l5,m5,rfl,Ff.upto lu.out (Qa _ _ _ _) (qa _ _ _ _),lh.grown (qa _ _ _ _) lh.size (fun k hk=>by injection hk with hk;omega)⟩

theorem akl (A1:Option Addr) (c1:Nat) (l1:List Nat) (m1:Bool) (A2:Option Addr) (c2:Nat) (l2:List Nat) (m2:Bool) (q:Rat) (w:Wq) (h:QV w A1 c1 l1 m1 A2 c2 l2 m2 q) :
  Calls prog 130 #[.agg #[.slice A1 l1.length c1,.bool m1,.slice A2 l2.length c2,.bool m2]] w fun e w'=>Le w (q.den:Int) e w':=by
 obtain⟨d,h2,rfl|⟨rfl,h1⟩⟩:=h.den
 ·
  refine(buz A1 c1 l1 m1 A2 c2 l2 m2 _ w h2 (by have:=q.den_nz;omega)).mono ?_
  rintro e w' ⟨rfl,hb⟩;exact⟨A2,c2,l2,m2,rfl,h2.below hb,hb⟩
 ·
  rw[h1];exact bbt A1 c1 l1 m1 A2 c2 l2 m2 w h2

structure Jg (B:Nat) (xl yl l:List Nat) (i c:Nat):Prop where
 len:l.length=i
 lt : ∀ x∈l,x<B
 c1:c≤1
 eq:bf B l+B^i*c=bf B (xl.take i)+bf B (yl.take i)
theorem Jg.start (B:Nat) (xl yl:List Nat):Jg B xl yl [] 0 0:=⟨rfl,by simp,by omega,by simp[bf]⟩
theorem aem (h : ∀ x∈l,x<B) (hd:d<B) : ∀ x∈l++[d],x<B:=by
 intro t ht
 rw[Ku]at ht
 rcases ht with h1|h1
 ·
  exact h t h1
 ·
  rw[Rj]at h1;subst h1;exact hd
theorem Jg.step {s:Nat} (hB:1<B) (h:Jg B xl yl l i c) (hx:x=xl.getD i 0) (Cf:x<B) (hy:y=yl.getD i 0) (Gz:y<B) (hs:s=c+x+y) :
  Jg B xl yl (l++[s%B]) (i+1) (s/B):=by
 have hc:=h.c1
 refine⟨by simp[h.len],aem h.lt (Bf _ om),?_,?_⟩
 ·
  exact Nat.lt_succ_iff.1 ((Fu om).2 om)
 ·
  rw[Cb,h.len,Be,nz,nz,← hx,← hy];have e:=Nat.mod_add_div s B;have h1:=h.eq;have e2:B^i*(s%B)+B^i*B*(s/B)=B^i*c+B^i*x+B^i*y:=by
   rw[uk,← uo,e,hs,uo,uo]
  omega
theorem Jg.done (h:Jg B xl yl l i c) (hx:xl.length≤i) (hy:yl.length≤i):bf B (l++[c])=bf B xl+bf B yl:=by
 have h1:=h.eq
 rw[jk _ _ _ hx,jk _ _ _ hy]at h1
 rw[Cb,h.len,h1]
structure Jh (B:Nat) (xl yl l:List Nat) (i b:Nat):Prop where
 len:l.length=i
 lt : ∀ x∈l,x<B
 b1:b≤1
 eq:bf B l+bf B (yl.take i)=bf B (xl.take i)+B^i*b
theorem Jh.start (B:Nat) (xl yl:List Nat):Jh B xl yl [] 0 0:=⟨rfl,by simp,by omega,by simp[bf]⟩
theorem Jh.step (h:Jh B xl yl l i b) (hx:x=xl.getD i 0) (hy:y=yl.getD i 0) (hd:d<B) (hb:b'≤1) (hs:d+y+b=x+B*b') :
  Jh B xl yl (l++[d]) (i+1) b':=by
 refine⟨by simp[h.len],aem h.lt hd,hb,?_⟩
 rw[Cb,h.len,Be,nz,nz,← hx,← hy]
 have h1:=h.eq
 have e2:B^i*d+B^i*y+B^i*b=B^i*x+B^i*B*b':=by
  rw[← uo,← uo,hs,uo,uk]
 omega
theorem Jh.done (h:Jh B xl yl l i b) (hx:xl.length=i) (hy:yl.length≤i) (hle:bf B yl≤bf B xl):bf B l=bf B xl-bf B yl:=by
 have h1:=h.eq
 rw[jk B xl i om,jk B yl i hy]at h1
 have h2:=Bi l h.lt
 rw[h.len]at h2
 have hb:=h.b1
 rcases(show b=0∨b=1 by omega)with rfl|rfl
 ·
  omega
 ·
  rw[Ns]at h1;omega

theorem brw (hn:n=l.length) (h:w.ownsRow base T 1 (.slice (some ⟨g,0,none⟩) n cap) n (Ca .u32 l)) (hB:g<B) :
  Ws .u32 w B (some ⟨g,0,none⟩) l∧l.length≤cap∧cap≤maxLen:=by
 subst hn
 obtain⟨_,⟨h1,_⟩|⟨g',cap',cur,he,hb,hh,hn,hc,hs,ht⟩⟩:=h
 ·
  injection h1 with h2;cases h2
 ·
  injection he with e1 _ e2;injection e1 with e1;injection e1 with e1;subst e1 e2;refine⟨fun hl=>⟨g,0,rfl,hB,fun j hj => ?_⟩,hn,hc⟩
  have hj2:(cur.toList.take (l.length*1))[j]? = some (.int .u32 ((ik l j:Nat):Int)):=by
   rw[ht];simp[Ca,ik,List.getD,hj]
  rw[bkl]at hj2;simp only[World.cell?,hh,aeu,anb,if_false];rw[if_pos om]at hj2
  simpa using hj2
theorem bcz {l:List Value} (h:w.ownsRow base T 1 (.slice (some ⟨g,0,none⟩) n cap) n l):g<w.heap.size:=by
 obtain⟨_,⟨h1,_⟩|⟨g',cap',cur,he,hb,hh,hn,hc,hs,ht⟩⟩:=h
 ·
  injection h1 with h2;cases h2
 ·
  injection he with e1 _ e2;injection e1 with e1;injection e1 with e1;subst e1;exact lt_of_block hh
theorem ayg (n:Nat) (h:n≤35184372088832) (w:Wq):(Instr.makeSlice 64 (.int .i64 0) (.int .i64 (n:Int))).run prog w =
  .ok (.slice (some ⟨w.heap.size,0,none⟩) 0 n) (w.alloc (.cells (Ba .u32 (List.replicate n 0)) 187)):=by
 obtain⟨i0,hi,hz0,hz1,hz2⟩:=info_parts aui
 have hr:=run_make (P:=prog) w 64 187 i0 (.int .u32 0) underlying64 hi hz0 .i64 .i64 0 n om om (by rw[hz2];omega) om
 simp only[agm,Int.toNat_zero]at hr
 rw[hr,hz1,Vj]
theorem bcy (w:Wq) (n:Nat) (h:n≤35184372088832) (T:TypeId):(w.alloc (.cells (Ba .u32 (List.replicate n 0)) T)).ownsRow w.heap.size T 1 (.slice (some ⟨w.heap.size,0,none⟩) 0 n) 0 (Ca .u32 []) :=
 ⟨by simp[Ca],.inr ⟨w.heap.size,n,_,rfl,gu _,heap_alloc_new w _,ug _,by unfold maxLen;omega,by simp[Ba],by simp[Ca]⟩⟩
theorem bwj (h:w.ownsRow base T 1 (.slice (some ⟨g,0,none⟩) n C) n (Ca .u32 l++[.int .u32 (d:Int)])):w.ownsRow base T 1 (.slice (some ⟨g,0,none⟩) n C) n (Ca .u32 (l++[d])):=by
 simpa [Ca]using h
theorem xx.atw {zs:List Nat} {k:Nat} (hz:Ws .u32 w w.heap.size A zs) (hlt : ∀ x∈zs,x<dz) (ht:Ib zs (zs.take k)) (hk:k≤zs.length) (hc:zs.length≤cap) (hc2:cap≤9223372036854775807) :
  xx w A cap (zs.take k) (bf dz zs) :=
 ⟨hz.adk k,by simp;omega,hc2,fun x hx=>hlt x (Dn hx),ht.norm,ht.val _⟩
theorem one_cell (w:Wq) (v:Value) (T:TypeId) : ∀ j u,[v][j]? = some u→(w.alloc (.cells #[v] T)).cell? ((⟨w.heap.size,0,none⟩:Addr).add j)=some u:=by
 intro j u hj
 match j,hj with
 | 0,hj=>simp at hj;subst hj;simp[Addr.add]
 | j+1,hj=>simp at hj
theorem abd (d:Nat) : ∀ u∈[Value.int .u32 (d:Int)],u.oneCell'=true:=by
 intro u hu
 rw[Rj]at hu;subst hu;rfl
theorem Kn {X w1:Wq} {W0:Nat} (hW:W0=w.heap.size) (hb:Below W0 w X) (hlt:W0≤X.heap.size)
  (hown1:w1.ownsRow W0 187 1 (.slice (some ⟨W0,0,none⟩) n C) n (Ca .u32 l++[.int .u32 ((d:Nat):Int)])) (hgrow1:X.grownBy w1 (some W0)) :
  w1.ownsRow W0 187 1 (.slice (some ⟨W0,0,none⟩) n C) n (Ca .u32 (l++[d]))∧Below W0 w w1 :=
 ⟨bwj hown1,hb.grown hgrow1 hlt (fun k hk=>by injection hk with hk;omega)⟩

theorem bpi (Ax Ay:Option Addr) (cx cy:Nat) (xl yl:List Nat) (n m:Nat) (w:Wq) (hx:xx w Ax cx xl n) (hy:xx w Ay cy yl m) (hk:xl.length+1≤35184372088832) (hk2:yl.length+1≤35184372088832) :
  Calls prog 181 #[.slice Ax xl.length cx,.slice Ay yl.length cy] w fun e w'=>boi w (n+m) e w':=by
 obtain⟨M,hM⟩ : ∃ M,M=max xl.length yl.length:=⟨_,rfl⟩
 have hMx:xl.length≤M:=by omega
 have hMy:yl.length≤M:=by omega
 have hMd:M=xl.length∨M=yl.length:=by omega
 have hM2:M+1≤35184372088832:=by omega
 have e0:max (xl.length:Int) (yl.length:Int)=(M:Int):=by omega
 have hmk:=ayg (M+1) hM2
 have aum:=bcy w (M+1) hM2 187
 obtain⟨C,hC⟩ : ∃ C,C=M+1:=⟨_,rfl⟩
 have Zh:(w.alloc (.cells (Ba .u32 (List.replicate (M+1) 0)) 187)).ownsRow w.heap.size 187 1 (.slice (some ⟨w.heap.size,0,none⟩) 0 C) 0 (Ca .u32 []):=by rw[hC];exact aum
 have hmk' : ∀ W:Wq,(Instr.makeSlice 64 (.int .i64 0) (.int .i64 ((M:Int)+1))).run prog W = .ok (.slice (some ⟨W.heap.size,0,none⟩) 0 C) (W.alloc (.cells (Ba .u32 (List.replicate (M+1) 0)) 187)):=by
  intro W;rw[hC];have:=hmk W;simp only[adg,art]at this;exact this
 have HC:=bg hC
 clear hmk aum hC
 obtain⟨i0,hi0,hz0,hz1,hz2⟩:=info_parts aui
 have hx1:=hx.Aj;have hx2:=hx.cap2;have hy1:=hy.Aj;have hy2:=hy.cap2
 clear hM
 go_enter func181,ntmps181
 go_wp2_with fail
 go_loopw [5,6,7] (fun ov cv iv wr => ∃ (i c:Nat) (l:List Nat),i≤M∧ov = .slice (some ⟨w.heap.size,0,none⟩) i C∧cv = .int .u64 ((c:Nat):Int)∧iv = .int .i64 ((i:Nat):Int)∧Hid (Jg dz xl yl l i c)∧wr.ownsRow w.heap.size 187 1 (.slice (some ⟨w.heap.size,0,none⟩) i C) i (Ca .u32 l)∧Below w.heap.size w wr) (fun _ _ iv _=>M-(intOf iv).toNat)
 case atStart=>exact⟨0,0,[],ug _,rfl,rfl,rfl,Jg.start _ _ _,Zh,(df _ _).alloc (gu _) _⟩
 case round =>
  obtain⟨i,c,l,hi,rfl,rfl,rfl,HI,hown,hg⟩:=hrel;have hCi:i+1≤C:=by have:=HC.out;omega
  have hcB:=HI.out.c1;have bnh:c<eu:=by rw[ja];omega
  have b64 : ∀ t:Nat,t<dz→t<eu:=fun t ht=>by rw[fu]at ht;rw[ja];omega
  have hli:=HI.out.len;have hgl:=bcz hown;obtain⟨x,Mr⟩ : ∃ x,x=ik xl i:=⟨_,rfl⟩
  obtain⟨y,Ze⟩ : ∃ y,y=ik yl i:=⟨_,rfl⟩
  have Cf:x<dz:=by rw[Mr];exact jy (by rw[fu];omega) _ hx.lt i
  have Gz:y<dz:=by rw[Ze];exact jy (by rw[fu];omega) _ hy.lt i
  obtain⟨s1,hs1⟩ : ∃ t,t=c+x:=⟨_,rfl⟩
  obtain⟨s,hs⟩ : ∃ t,t=s1+y:=⟨_,rfl⟩
  obtain⟨d,hd⟩ : ∃ t,t=s%dz:=⟨_,rfl⟩
  obtain⟨q,hq⟩ : ∃ t,t=s/dz:=⟨_,rfl⟩
  have hsB:s<eu:=by rw[fu]at Cf Gz;rw[ja];omega
  have bec:s1<eu:=by rw[fu]at Cf Gz;rw[ja];omega
  have e1:IntKind.u64.wrap (x:Int)=(x:Int):=jm rfl (b64 _ Cf);have e2:IntKind.u64.wrap (y:Int)=(y:Int):=jm rfl (b64 _ Gz);have e3:IntKind.u64.wrap ((c:Int)+(x:Int))=(s1:Int):=jm (by rw[hs1];simp) bec;have e4:IntKind.u64.wrap ((s1:Int)+(y:Int))=(s:Int):=jm (by rw[hs];simp) hsB;have e5:IntKind.u32.wrap (s:Int)=(d:Int):=by rw[Hf,hd]
  have e5':(s:Int)%4294967296=(d:Int):=by rw[hd,fu];omega
  have e6:(s:Int)/4294967296=(q:Int):=by rw[hq,fu];omega
  have hst:=HI.out.step Bw (by rw[← pg];exact Mr) Cf (by rw[← pg];exact Ze) Gz (s:=s) om;rw[← hd,← hq]at hst;have HST:=ae hst;have afq:i<xl.length → ∃ b o,Ax=some ⟨b,o,none⟩∧wr.cell? ⟨b,o+i,none⟩=some (.int .u32 (x:Int)):=fun h=>by
   obtain⟨b,o,rfl,hbb,hc⟩:=hx.ws om;exact⟨b,o,rfl,by rw[Mr];exact(hg.cell (p:=⟨b,o+i,none⟩) hbb).trans (hc i h)⟩
  have Rq:i<yl.length → ∃ b o,Ay=some ⟨b,o,none⟩∧wr.cell? ⟨b,o+i,none⟩=some (.int .u32 (y:Int)):=fun h=>by
   obtain⟨b,o,rfl,hbb,hc⟩:=hy.ws om;exact⟨b,o,rfl,by rw[Ze];exact(hg.cell (p:=⟨b,o+i,none⟩) hbb).trans (hc i h)⟩
  have hx0 : ¬ i<xl.length→x=0:=fun h=>by rw[Mr];simp[ik,List.getD,h]
  have hy0 : ¬ i<yl.length→y=0:=fun h=>by rw[Ze];simp[ik,List.getD,h]
  have hsz:=hg.size
  by_cases hlx:i<xl.length
  ·
   by_cases hly:i<yl.length
   ·
    have dx:decide ((i:Int)<(xl.length:Int))=true:=dm om;have dy:decide ((i:Int)<(yl.length:Int))=true:=dm om;have dx':decide (i<xl.length)=true:=dm om;have dy':decide (i<yl.length)=true:=dm om;obtain⟨bx,ox,rfl,Lj⟩:=afq om;obtain⟨by',oy,rfl,hyc⟩:=Rq om;clear afq Rq hx0 hy0 Mr Ze hs1 hs hd hq hst Cf Gz hsB bec bnh b64 Zh hmk' hz0 hz2
    go_wp2_with (first|(at_builtin;refine wpList_append_fits _ rfl _ _ 64 rfl w.heap.size 187 i0 1 underlying64 hi0 hz1 w.heap.size _ C (Ca .u32 l) rfl (hown.alloc _) ⟨_,0,none⟩ 1 1 [.int .u32 ((d:Nat):Int)] rfl rfl (one_cell _ _ _) (abd _) om ?_;intro w1 hown1 hgrow1)|fail)
    obtain⟨r1,r2⟩:=Kn rfl (hg.alloc hsz _) zx hown1 hgrow1;clear hown1 hgrow1 hown hg;go_wp2_with fail
    go_roundw
    case rel=>exact⟨i+1,q,l++[d],by omega,rfl,rfl,by go_num,aa HST,r1,r2⟩
    case measure=>simp[intOf]<;>omega
   ·
    have dx:decide ((i:Int)<(xl.length:Int))=true:=dm om;have dy:decide ((i:Int)<(yl.length:Int))=false:=dw om;have dx':decide (i<xl.length)=true:=dm om;have dy':decide (i<yl.length)=false:=dw om;obtain⟨bx,ox,rfl,Lj⟩:=afq om;obtain rfl:s=s1:=by have:=hy0 om;omega
    clear afq Rq hx0 hy0 Mr Ze hs1 hs hd hq hst Cf Gz hsB bec bnh b64 Zh hmk' hz0 hz2
    go_wp2_with (first|(at_builtin;refine wpList_append_fits _ rfl _ _ 64 rfl w.heap.size 187 i0 1 underlying64 hi0 hz1 w.heap.size _ C (Ca .u32 l) rfl (hown.alloc _) ⟨_,0,none⟩ 1 1 [.int .u32 ((d:Nat):Int)] rfl rfl (one_cell _ _ _) (abd _) om ?_;intro w1 hown1 hgrow1)|fail)
    obtain⟨r1,r2⟩:=Kn rfl (hg.alloc hsz _) zx hown1 hgrow1;clear hown1 hgrow1 hown hg;go_wp2_with fail
    go_roundw
    case rel=>exact⟨i+1,q,l++[d],by omega,rfl,rfl,by go_num,aa HST,r1,r2⟩
    case measure=>simp[intOf]<;>omega
  ·
   by_cases hly:i<yl.length
   ·
    have dx:decide ((i:Int)<(xl.length:Int))=false:=dw om;have dy:decide ((i:Int)<(yl.length:Int))=true:=dm om;have dx':decide (i<xl.length)=false:=dw om;have dy':decide (i<yl.length)=true:=dm om;obtain⟨by',oy,rfl,hyc⟩:=Rq om;obtain rfl:s1=c:=by have:=hx0 om;omega
    clear afq Rq hx0 hy0 Mr Ze hs1 hs hd hq hst Cf Gz hsB bec bnh b64 Zh hmk' hz0 hz2
    go_wp2_with (first|(at_builtin;refine wpList_append_fits _ rfl _ _ 64 rfl w.heap.size 187 i0 1 underlying64 hi0 hz1 w.heap.size _ C (Ca .u32 l) rfl (hown.alloc _) ⟨_,0,none⟩ 1 1 [.int .u32 ((d:Nat):Int)] rfl rfl (one_cell _ _ _) (abd _) om ?_;intro w1 hown1 hgrow1)|fail)
    obtain⟨r1,r2⟩:=Kn rfl (hg.alloc hsz _) zx hown1 hgrow1;clear hown1 hgrow1 hown hg;go_wp2_with fail
    go_roundw
    case rel=>exact⟨i+1,q,l++[d],by omega,rfl,rfl,by go_num,aa HST,r1,r2⟩
    case measure=>simp[intOf]<;>omega
   ·
    have dx:decide ((i:Int)<(xl.length:Int))=false:=dw om;have dy:decide ((i:Int)<(yl.length:Int))=false:=dw om;have dx':decide (i<xl.length)=false:=dw om;have dy':decide (i<yl.length)=false:=dw om;have hv:=HI.out.done om om;rw[hx.val,hy.val]at hv;have hcc:IntKind.u32.wrap (c:Int)=(c:Int):=by rw[Sj];omega
    have czf:(c:Int)%4294967296=(c:Int):=by omega
    have hlt:=aem HI.out.lt (show c<dz by rw[fu];omega);have HV:=bg hv;have qp:=ae hlt;clear hv hlt afq Rq hx0 hy0 Mr Ze hs1 hs hd hq hst Cf Gz hsB bec bnh b64 Zh hmk' hz0 hz2 e1 e2 e3 e4 e5 e5' e6 HST
    go_wp2_with (first|(at_builtin;refine wpList_append_fits _ rfl _ _ 64 rfl w.heap.size 187 i0 1 underlying64 hi0 hz1 w.heap.size _ C (Ca .u32 l) rfl (hown.alloc _) ⟨_,0,none⟩ 1 1 [.int .u32 ((c:Nat):Int)] rfl rfl (one_cell _ _ _) (abd _) om ?_;intro w1 hown1 hgrow1)|fail)
    obtain⟨r1,r2⟩:=Kn rfl (hg.alloc hsz _) zx hown1 hgrow1;have hlen:i+1=(l++[c]).length:=by simp;omega
    obtain⟨hws,hcap,hmax⟩:=brw hlen r1 (bcz r1);have htr:=Hw (some ⟨w.heap.size,0,none⟩) C (l++[c]) w1.heap.size w1 hws hcap (by have:=HC.out;omega);rw[← hlen]at htr;have HTR:=ae htr;have HWS:=ae hws;clear hown1 hgrow1 hown hg r1 htr hws hcap hmax;go_wp2_with fail;refine(aa HTR).mono ?_
    rintro e w' ⟨⟨k,rfl,ht,hk2⟩,rfl⟩
    dsimp only
    go_wp2_with fail
    go_ret
    have hk3:k=((l++[c]).take k).length:=by rw[uy];omega
    refine⟨some ⟨w.heap.size,0,none⟩,C,(l++[c]).take k,Mm hk3,?_,r2⟩
    have:=xx.atw (cap:=C) (aa HWS) (aa qp) ht om om (by have:=HC.out;omega);rwa[HV.out]at this


theorem bsc (hx:x<dz) (hb:b≤1) (y:Nat) (hy:y<dz) : ∃ (t v d b':Nat),IntKind.u64.wrap ((x:Int)-(b:Int))=(t:Int)∧IntKind.u64.wrap ((t:Int)-(y:Int))=(v:Int)∧IntKind.u32.wrap (v:Int)=(d:Int)∧(v:Int)%4294967296=(d:Int)∧(v:Int)/9223372036854775808=(b':Int)∧d<dz∧b'≤1∧d+y+b=x+dz*b'∧(y=0→v=t)∧t<eu:=by
 simp only[Ct,Sj]
 rw[fu]at *
 rw[ja]
 by_cases h1:b≤x
 ·
  by_cases h2:b+y≤x
  ·
   exact⟨x-b,x-b-y,x-b-y,0,by omega,by omega,by omega,by omega,by omega,by omega,by omega,by omega,by omega,by omega⟩
  ·
   exact⟨x-b,18446744073709551616+x-b-y,4294967296+x-b-y,1,by omega,by omega,by omega,by omega,by omega,by omega,by omega,by omega,by omega,by omega⟩
 ·
  exact⟨18446744073709551616+x-b,18446744073709551616+x-b-y,4294967296+x-b-y,1,by omega,by omega,by omega,by omega,by omega,by omega,by omega,by omega,by omega,by omega⟩

theorem axl (Ax Ay:Option Addr) (cx cy:Nat) (xl yl:List Nat) (n m:Nat) (w:Wq) (hx:xx w Ax cx xl n) (hy:xx w Ay cy yl m) (hk:xl.length≤35184372088832) (hle:m≤n) :
  Calls prog 183 #[.slice Ax xl.length cx,.slice Ay yl.length cy] w fun e w'=>boi w (n-m) e w':=by
 have hyx:yl.length≤xl.length:=hy.len (Dm hle hx.Za)
 have hmk:=ayg xl.length hk
 have aum:=bcy w xl.length hk 187
 obtain⟨C,hC⟩ : ∃ C,C=xl.length:=⟨_,rfl⟩
 have Zh:(w.alloc (.cells (Ba .u32 (List.replicate xl.length 0)) 187)).ownsRow w.heap.size 187 1 (.slice (some ⟨w.heap.size,0,none⟩) 0 C) 0 (Ca .u32 []):=by rw[hC];exact aum
 have hmk' : ∀ W:Wq,(Instr.makeSlice 64 (.int .i64 0) (.int .i64 (xl.length:Int))).run prog W = .ok (.slice (some ⟨W.heap.size,0,none⟩) 0 C) (W.alloc (.cells (Ba .u32 (List.replicate xl.length 0)) 187)):=by rw[hC];exact hmk
 have HC:=bg hC
 clear hmk aum hC
 obtain⟨i0,hi0,hz0,hz1,hz2⟩:=info_parts aui
 have hx1:=hx.Aj;have hx2:=hx.cap2;have hy1:=hy.Aj;have hy2:=hy.cap2
 go_enter func183,ntmps183
 go_wp2_with fail
 go_loopw [5,6,7] (fun ov cv iv wr => ∃ (i c:Nat) (l:List Nat),i≤xl.length∧ov = .slice (some ⟨w.heap.size,0,none⟩) i C∧cv = .int .u64 ((c:Nat):Int)∧iv = .int .i64 ((i:Nat):Int)∧Hid (Jh dz xl yl l i c)∧wr.ownsRow w.heap.size 187 1 (.slice (some ⟨w.heap.size,0,none⟩) i C) i (Ca .u32 l)∧Below w.heap.size w wr) (fun _ _ iv _=>xl.length-(intOf iv).toNat)
 case atStart=>exact⟨0,0,[],ug _,rfl,rfl,rfl,Jh.start _ _ _,Zh,(df _ _).alloc (gu _) _⟩
 case round =>
  obtain⟨i,c,l,hi,rfl,rfl,rfl,HI,hown,hg⟩:=hrel;have hli:=HI.out.len;have hgl:=bcz hown;have hsz:=hg.size;clear Zh hmk'
  by_cases hlx:i<xl.length
  ·
   have dx:decide ((i:Int)<(xl.length:Int))=true:=dm om;have dx':decide (i<xl.length)=true:=dm om;have hCi:i+1≤C:=by have:=HC.out;omega
   have hcB:=HI.out.b1;obtain⟨x,Mr⟩ : ∃ x,x=ik xl i:=⟨_,rfl⟩
   obtain⟨y,Ze⟩ : ∃ y,y=ik yl i:=⟨_,rfl⟩
   have Cf:x<dz:=by rw[Mr];exact jy (by rw[fu];omega) _ hx.lt i
   have Gz:y<dz:=by rw[Ze];exact jy (by rw[fu];omega) _ hy.lt i
   have b64 : ∀ t:Nat,t<dz→t<eu:=fun t ht=>by rw[fu]at ht;rw[ja];omega
   have e1:IntKind.u64.wrap (x:Int)=(x:Int):=jm rfl (b64 _ Cf);have e2:IntKind.u64.wrap (y:Int)=(y:Int):=jm rfl (b64 _ Gz);obtain⟨t,v,d,b',e3,e4,e5,e5',e6,hdB,hb',heq,hv0,htB⟩:=bsc Cf hcB y Gz;have hst:=HI.out.step (by rw[← pg];exact Mr) (by rw[← pg];exact Ze) hdB hb' heq;have HST:=ae hst;obtain⟨bx,ox,rfl,hbx,hcx⟩:=hx.ws om;have Lj:wr.cell? ⟨bx,ox+i,none⟩=some (.int .u32 (x:Int)):=by rw[Mr];exact(hg.cell (p:=⟨bx,ox+i,none⟩) hbx).trans (hcx i hlx)
   have hy0 : ¬ i<yl.length→y=0:=fun h=>by rw[Ze];simp[ik,List.getD,h]
   have Rq:i<yl.length → ∃ b o,Ay=some ⟨b,o,none⟩∧wr.cell? ⟨b,o+i,none⟩=some (.int .u32 (y:Int)):=fun h=>by
    obtain⟨b,o,rfl,hbb,hc⟩:=hy.ws om;exact⟨b,o,rfl,by rw[Ze];exact(hg.cell (p:=⟨b,o+i,none⟩) hbb).trans (hc i h)⟩
   clear hcx Mr Ze hst heq hdB b64 Cf Gz hz0 hz2
   by_cases hly:i<yl.length
   ·
    have dy:decide ((i:Int)<(yl.length:Int))=true:=dm om;have dy':decide (i<yl.length)=true:=dm om;obtain⟨by',oy,rfl,hyc⟩:=Rq om;clear Rq hy0 hv0
    go_wp2_with (first|(at_builtin;refine wpList_append_fits _ rfl _ _ 64 rfl w.heap.size 187 i0 1 underlying64 hi0 hz1 w.heap.size _ C (Ca .u32 l) rfl (hown.alloc _) ⟨_,0,none⟩ 1 1 [.int .u32 ((d:Nat):Int)] rfl rfl (one_cell _ _ _) (abd _) om ?_;intro w1 hown1 hgrow1)|fail)
    obtain⟨r1,r2⟩:=Kn rfl (hg.alloc hsz _) zx hown1 hgrow1;clear hown1 hgrow1 hown hg;go_wp2_with fail
    go_roundw
    case rel=>exact⟨i+1,b',l++[d],by omega,rfl,rfl,by go_num,aa HST,r1,r2⟩
    case measure=>simp[intOf]<;>omega
   ·
    have dy:decide ((i:Int)<(yl.length:Int))=false:=dw om;have dy':decide (i<yl.length)=false:=dw om;obtain rfl:v=t:=hv0 (hy0 om);clear Rq hy0 hv0
    go_wp2_with (first|(at_builtin;refine wpList_append_fits _ rfl _ _ 64 rfl w.heap.size 187 i0 1 underlying64 hi0 hz1 w.heap.size _ C (Ca .u32 l) rfl (hown.alloc _) ⟨_,0,none⟩ 1 1 [.int .u32 ((d:Nat):Int)] rfl rfl (one_cell _ _ _) (abd _) om ?_;intro w1 hown1 hgrow1)|fail)
    obtain⟨r1,r2⟩:=Kn rfl (hg.alloc hsz _) zx hown1 hgrow1;clear hown1 hgrow1 hown hg;go_wp2_with fail
    go_roundw
    case rel=>exact⟨i+1,b',l++[d],by omega,rfl,rfl,by go_num,aa HST,r1,r2⟩
    case measure=>simp[intOf]<;>omega
  ·
   have e:i=xl.length:=by omega
   subst e;have hv:=HI.out.done rfl hyx (by rw[hx.val,hy.val];exact hle);rw[hx.val,hy.val]at hv;have HV:=bg hv;have qp:=ae HI.out.lt;obtain⟨hws,hcap,hmax⟩:=brw hli.symm hown hgl;have htr:=Hw (some ⟨w.heap.size,0,none⟩) C l wr.heap.size wr hws hcap (by have:=HC.out;omega);rw[hli]at htr;have HTR:=ae htr;have HWS:=ae hws;clear hv hown htr hws hmax hz0 hz2;go_wp2_with fail;refine(aa HTR).mono ?_
   rintro e w' ⟨⟨k,rfl,ht,hk2⟩,rfl⟩
   dsimp only
   go_wp2_with fail
   go_ret
   have hk3:k=(l.take k).length:=by rw[uy];omega
   refine⟨some ⟨w.heap.size,0,none⟩,C,l.take k,Mm hk3,?_,hg⟩
   have:=xx.atw (cap:=C) (aa HWS) (aa qp) ht om (by have:=HC.out;omega) (by have:=HC.out;omega);rwa[HV.out]at this

theorem add_same (h1:m=decide (z1<0)) (h2:m=decide (z2<0)):(if m then -((z1.natAbs+z2.natAbs:Nat):Int)else((z1.natAbs+z2.natAbs:Nat):Int))=z1+z2:=by
 subst h1
 by_cases a:z1<0<;>by_cases b:z2<0<;>simp[a,b]at h2 ⊢ <;> omega
theorem aze {m':Bool} (hne:m≠m') (h1:m=decide (z1<0)) (h2:m'=decide (z2<0)) (h:z2.natAbs≤z1.natAbs):(if m then -((z1.natAbs-z2.natAbs:Nat):Int)else((z1.natAbs-z2.natAbs:Nat):Int))=z1+z2:=by
 subst h1 h2
 by_cases a:z1<0<;>by_cases b:z2<0<;>simp[a,b]at hne ⊢ <;> omega

theorem bpm (A1:Option Addr) (c1:Nat) (l1:List Nat) (m1:Bool) (z1:Int) (A2:Option Addr) (c2:Nat) (l2:List Nat) (m2:Bool) (z2:Int) (w:Wq) (h1:kz w A1 c1 l1 m1 z1) (h2:kz w A2 c2 l2 m2 z2) (hk:l1.length+l2.length+1≤35184372088832) (hs:m1=m2) :
  Calls prog 132 #[.agg #[.slice A1 l1.length c1,.bool m1],.agg #[.slice A2 l2.length c2,.bool m2]] w fun e w'=>Le w (z1+z2) e w':=by
 have hv:=add_same h1.sign (hs ▸ h2.sign)
 have SG:(m1==m2)=true:=by rw[hs];exact Yc _
 have HT:=ae (fun W (hW:Below w.heap.size w W)=>bpi A1 A2 c1 c2 l1 l2 z1.natAbs z2.natAbs W (h1.nat.below hW) (h2.nat.below hW) om om)
 obtain⟨p,hp⟩ : ∃ p,p=z1.natAbs+z2.natAbs:=⟨_,rfl⟩
 obtain⟨z,hz⟩ : ∃ z,z=z1+z2:=⟨_,rfl⟩
 rw[← hp]at HT hv
 rw[← hz]at hv ⊢
 have HV:=bg hv
 clear h1 h2 hk hp hz hv hs
 go_enter func132,ntmps132
 go_wp2_with fail
 obtain⟨n0,n1,n2,hsz,hw0⟩:=wm w (.cells #[.slice A1 l1.length c1,.bool m1] 66) (.cells #[.slice A2 l2.length c2,.bool m2] 66) (.cells #[.slice none 0 0,.bool false] 66)
 generalize (((w.alloc (.cells #[.slice A1 l1.length c1,.bool m1] 66)).alloc (.cells #[.slice A2 l2.length c2,.bool m2] 66)).alloc (.cells #[.slice none 0 0,.bool false] 66))=W0 at *
 have q0:=lt_of_block n0;have q1:=lt_of_block n1;have q2:=lt_of_block n2
 have KEEP : ∀ X,Below W0.heap.size W0 X→(fun w'=>w'.cell? ⟨w.heap.size,0,none⟩=some (.slice A1 l1.length c1)∧w'.cell? ⟨w.heap.size,1,none⟩=some (.bool m1)∧w'.cell? ⟨w.heap.size+1,0,none⟩=some (.slice A2 l2.length c2)∧w'.cell? ⟨w.heap.size+1,1,none⟩=some (.bool m2)) X:=fun X hX=>⟨(hX.cell (p:=⟨w.heap.size,0,none⟩) q0).trans (ag n0 0),(hX.cell (p:=⟨w.heap.size,1,none⟩) q0).trans (ag n0 1),(hX.cell (p:=⟨w.heap.size+1,0,none⟩) q1).trans (ag n1 0),(hX.cell (p:=⟨w.heap.size+1,1,none⟩) q1).trans (ag n1 1)⟩
 obtain⟨k0,k1,k2,k3⟩:=KEEP W0 (df _ _)
 have r0:W0.cell? ⟨w.heap.size+1+1,0,none⟩=some (.slice none 0 0):=ag n2 0
 have r1:W0.cell? ⟨w.heap.size+1+1,1,none⟩=some (.bool false):=ag n2 1
 have f0:=ah n2 0
 have f1:=ah n2 1
 have NR:=bg n2;have HKE:=ae KEEP
 clear n0 n1 n2 hsz KEEP
 go_wp2_with fail
 go_region_held3 (fun w'=>w'.cell? ⟨w.heap.size,0,none⟩=some (.slice A1 l1.length c1)∧w'.cell? ⟨w.heap.size,1,none⟩=some (.bool m1)∧w'.cell? ⟨w.heap.size+1,0,none⟩=some (.slice A2 l2.length c2)∧w'.cell? ⟨w.heap.size+1,1,none⟩=some (.bool m2)) (first|with_reducible exact⟨(Cz _ _ _ _ om).trans ((hc _ _ q0).trans k0),(Cz _ _ _ _ om).trans ((hc _ _ q0).trans k1),(Cz _ _ _ _ om).trans ((hc _ _ q1).trans k2),(Cz _ _ _ _ om).trans ((hc _ _ q1).trans k3)⟩|exact(aa HKE) _ (by(first|with_reducible assumption|(repeat (first|with_reducible exact df _ _|with_reducible assumption|refine ny ?_|(refine qz ?_ zx _)|refine ky ?_ _))))) (first|(go_at_call 181;refine((aa HT) _ (az hw0 (by(first|with_reducible assumption|(repeat (first|with_reducible exact df _ _|with_reducible assumption|refine ny ?_|(refine qz ?_ zx _)|refine ky ?_ _)))))).mono ?_;rintro e w' ⟨A5,c5,l5,rfl,Dv,hb⟩;have hbw:=cz (w:=W0) (by(first|with_reducible assumption|(repeat (first|with_reducible exact df _ _|with_reducible assumption|refine ny ?_|(refine qz ?_ zx _)|refine ky ?_ _)))) hb;obtain⟨hc,hfz⟩:=fq hbw)|(go_at_call 179;refine(Hg A5 c5 l5 p m1 _ (by exact Dv)).mono ?_;rw[HV.out];rintro e w' ⟨A6,c6,l6,m6,rfl,Lc,hb⟩;have hbw:=cz (w:=W0) (by(first|with_reducible assumption|(repeat (first|with_reducible exact df _ _|with_reducible assumption|refine ny ?_|(refine qz ?_ zx _)|refine ky ?_ _)))) hb;obtain⟨hc,hfz⟩:=fq hbw))
 all_goals
  have hblk:w'.heap[w.heap.size+1+1]? = some (.cells #[.slice none 0 0,.bool false] 66 (0,0)):=(hbw.block _ q2).trans NR.out;have lu:=bg hblk;have lh:Below w.heap.size w w':=az hw0 hbw;clear hblk;go_wp2_with fail;exact bodyPost_ret (v := .agg #[.slice A6 l6.length c6,.bool m6]) (by simp[results,results132,go_sem,hc,r0,r1,q2]) rfl
   ⟨A6,c6,l6,m6,rfl,Lc.upto lu.out (Qa _ _ _ _) (qa _ _ _ _),lh.grown (qa _ _ _ _) lh.size (fun k hk=>by injection hk with hk;omega)⟩

theorem ccp (A1:Option Addr) (c1:Nat) (l1:List Nat) (m1:Bool) (z1:Int) (A2:Option Addr) (c2:Nat) (l2:List Nat) (m2:Bool) (z2:Int) (w:Wq) (h1:kz w A1 c1 l1 m1 z1) (h2:kz w A2 c2 l2 m2 z2) (hk:l1.length+l2.length+1≤35184372088832) (hs:m1≠m2) (ho:z2.natAbs≤z1.natAbs) :
  Calls prog 132 #[.agg #[.slice A1 l1.length c1,.bool m1],.agg #[.slice A2 l2.length c2,.bool m2]] w fun e w'=>Le w (z1+z2) e w':=by
 have hv:=aze hs h1.sign h2.sign ho
 have HT:=ae (fun W (hW:Below w.heap.size w W)=>axl A1 A2 c1 c2 l1 l2 z1.natAbs z2.natAbs W (h1.nat.below hW) (h2.nat.below hW) om ho)
 have ho3:0≤Dh z1.natAbs z2.natAbs:=by unfold Dh;(repeat' split)<;>omega
 have SG:(m1==m2)=false:=oo.2 hs
 have HO:=ae (fun W (hW:Below w.heap.size w W)=>Va A1 A2 c1 c2 l1 l2 z1.natAbs z2.natAbs W (h1.nat.below hW) (h2.nat.below hW))
 obtain⟨o,hoo⟩ : ∃ o,o=Dh z1.natAbs z2.natAbs:=⟨_,rfl⟩
 rw[← hoo]at HO ho3
 have d1:decide ((0:Int)≤o)=true:=dm ho3
 obtain⟨p,hp⟩ : ∃ p,p=z1.natAbs-z2.natAbs:=⟨_,rfl⟩
 obtain⟨z,hz⟩ : ∃ z,z=z1+z2:=⟨_,rfl⟩
 rw[← hp]at HT hv
 rw[← hz]at hv ⊢
 have HV:=bg hv
 clear h1 h2 hk hp hz hv hs ho ho3 hoo
 go_enter func132,ntmps132
 go_wp2_with fail
 obtain⟨n0,n1,n2,hsz,hw0⟩:=wm w (.cells #[.slice A1 l1.length c1,.bool m1] 66) (.cells #[.slice A2 l2.length c2,.bool m2] 66) (.cells #[.slice none 0 0,.bool false] 66)
 generalize (((w.alloc (.cells #[.slice A1 l1.length c1,.bool m1] 66)).alloc (.cells #[.slice A2 l2.length c2,.bool m2] 66)).alloc (.cells #[.slice none 0 0,.bool false] 66))=W0 at *
 have q0:=lt_of_block n0;have q1:=lt_of_block n1;have q2:=lt_of_block n2
 have KEEP : ∀ X,Below W0.heap.size W0 X→(fun w'=>w'.cell? ⟨w.heap.size,0,none⟩=some (.slice A1 l1.length c1)∧w'.cell? ⟨w.heap.size,1,none⟩=some (.bool m1)∧w'.cell? ⟨w.heap.size+1,0,none⟩=some (.slice A2 l2.length c2)∧w'.cell? ⟨w.heap.size+1,1,none⟩=some (.bool m2)) X:=fun X hX=>⟨(hX.cell (p:=⟨w.heap.size,0,none⟩) q0).trans (ag n0 0),(hX.cell (p:=⟨w.heap.size,1,none⟩) q0).trans (ag n0 1),(hX.cell (p:=⟨w.heap.size+1,0,none⟩) q1).trans (ag n1 0),(hX.cell (p:=⟨w.heap.size+1,1,none⟩) q1).trans (ag n1 1)⟩
 obtain⟨k0,k1,k2,k3⟩:=KEEP W0 (df _ _)
 have r0:W0.cell? ⟨w.heap.size+1+1,0,none⟩=some (.slice none 0 0):=ag n2 0
 have r1:W0.cell? ⟨w.heap.size+1+1,1,none⟩=some (.bool false):=ag n2 1
 have f0:=ah n2 0
 have f1:=ah n2 1
 have NR:=bg n2;have HKE:=ae KEEP
 clear n0 n1 n2 hsz KEEP
 go_wp2_with fail
 refine((aa HO) _ hw0).mono ?_
 rintro e w1 ⟨rfl,hw1⟩
 obtain⟨kk,rfl⟩:=hw1
 have hk0:Below W0.heap.size W0 (W0.drewN kk):=ky (df _ _) kk
 go_wp2_with fail
 go_region_held3 (fun w'=>w'.cell? ⟨w.heap.size,0,none⟩=some (.slice A1 l1.length c1)∧w'.cell? ⟨w.heap.size,1,none⟩=some (.bool m1)∧w'.cell? ⟨w.heap.size+1,0,none⟩=some (.slice A2 l2.length c2)∧w'.cell? ⟨w.heap.size+1,1,none⟩=some (.bool m2)) (first|with_reducible exact⟨(Cz _ _ _ _ om).trans ((hc _ _ q0).trans k0),(Cz _ _ _ _ om).trans ((hc _ _ q0).trans k1),(Cz _ _ _ _ om).trans ((hc _ _ q1).trans k2),(Cz _ _ _ _ om).trans ((hc _ _ q1).trans k3)⟩|exact(aa HKE) _ (by(first|with_reducible assumption|(repeat (first|with_reducible exact df _ _|with_reducible assumption|refine ny ?_|(refine qz ?_ zx _)|refine ky ?_ _))))) (first|(go_at_call 183;refine((aa HT) _ (az hw0 (by(first|with_reducible assumption|(repeat (first|with_reducible exact df _ _|with_reducible assumption|refine ny ?_|(refine qz ?_ zx _)|refine ky ?_ _)))))).mono ?_;rintro e w' ⟨A5,c5,l5,rfl,Dv,hb⟩;have hbw:=cz (w:=W0) (by(first|with_reducible assumption|(repeat (first|with_reducible exact df _ _|with_reducible assumption|refine ny ?_|(refine qz ?_ zx _)|refine ky ?_ _)))) hb;obtain⟨hc,hfz⟩:=fq hbw)|(go_at_call 179;refine(Hg A5 c5 l5 p m1 _ (by exact Dv)).mono ?_;rw[HV.out];rintro e w' ⟨A6,c6,l6,m6,rfl,Lc,hb⟩;have hbw:=cz (w:=W0) (by(first|with_reducible assumption|(repeat (first|with_reducible exact df _ _|with_reducible assumption|refine ny ?_|(refine qz ?_ zx _)|refine ky ?_ _)))) hb;obtain⟨hc,hfz⟩:=fq hbw))
 all_goals
  have hblk:w'.heap[w.heap.size+1+1]? = some (.cells #[.slice none 0 0,.bool false] 66 (0,0)):=(hbw.block _ q2).trans NR.out;have lu:=bg hblk;have lh:Below w.heap.size w w':=az hw0 hbw;clear hblk;go_wp2_with fail;exact bodyPost_ret (v := .agg #[.slice A6 l6.length c6,.bool m6]) (by simp[results,results132,go_sem,hc,r0,r1,q2]) rfl
   ⟨A6,c6,l6,m6,rfl,Lc.upto lu.out (Qa _ _ _ _) (qa _ _ _ _),lh.grown (qa _ _ _ _) lh.size (fun k hk=>by injection hk with hk;omega)⟩

theorem cco (A1:Option Addr) (c1:Nat) (l1:List Nat) (m1:Bool) (z1:Int) (A2:Option Addr) (c2:Nat) (l2:List Nat) (m2:Bool) (z2:Int) (w:Wq) (h1:kz w A1 c1 l1 m1 z1) (h2:kz w A2 c2 l2 m2 z2) (hk:l1.length+l2.length+1≤35184372088832) (hs:m1≠m2) (ho : ¬ z2.natAbs≤z1.natAbs) :
  Calls prog 132 #[.agg #[.slice A1 l1.length c1,.bool m1],.agg #[.slice A2 l2.length c2,.bool m2]] w fun e w'=>Le w (z1+z2) e w':=by
 have hv:=aze (Kq hs) h2.sign h1.sign om
 rw[Int.add_comm z2 z1]at hv
 have HT:=ae (fun W (hW:Below w.heap.size w W)=>axl A2 A1 c2 c1 l2 l1 z2.natAbs z1.natAbs W (h2.nat.below hW) (h1.nat.below hW) om om)
 have ho3 : ¬ 0≤Dh z1.natAbs z2.natAbs:=by unfold Dh;(repeat' split)<;>omega
 have SG:(m1==m2)=false:=oo.2 hs
 have HO:=ae (fun W (hW:Below w.heap.size w W)=>Va A1 A2 c1 c2 l1 l2 z1.natAbs z2.natAbs W (h1.nat.below hW) (h2.nat.below hW))
 obtain⟨o,hoo⟩ : ∃ o,o=Dh z1.natAbs z2.natAbs:=⟨_,rfl⟩
 rw[← hoo]at HO ho3
 have d1:decide ((0:Int)≤o)=false:=dw ho3
 obtain⟨p,hp⟩ : ∃ p,p=z2.natAbs-z1.natAbs:=⟨_,rfl⟩
 obtain⟨z,hz⟩ : ∃ z,z=z1+z2:=⟨_,rfl⟩
 rw[← hp]at HT hv
 rw[← hz]at hv ⊢
 have HV:=bg hv
 clear h1 h2 hk hp hz hv hs ho ho3 hoo
 go_enter func132,ntmps132
 go_wp2_with fail
 obtain⟨n0,n1,n2,hsz,hw0⟩:=wm w (.cells #[.slice A1 l1.length c1,.bool m1] 66) (.cells #[.slice A2 l2.length c2,.bool m2] 66) (.cells #[.slice none 0 0,.bool false] 66)
 generalize (((w.alloc (.cells #[.slice A1 l1.length c1,.bool m1] 66)).alloc (.cells #[.slice A2 l2.length c2,.bool m2] 66)).alloc (.cells #[.slice none 0 0,.bool false] 66))=W0 at *
 have q0:=lt_of_block n0;have q1:=lt_of_block n1;have q2:=lt_of_block n2
 have KEEP : ∀ X,Below W0.heap.size W0 X→(fun w'=>w'.cell? ⟨w.heap.size,0,none⟩=some (.slice A1 l1.length c1)∧w'.cell? ⟨w.heap.size,1,none⟩=some (.bool m1)∧w'.cell? ⟨w.heap.size+1,0,none⟩=some (.slice A2 l2.length c2)∧w'.cell? ⟨w.heap.size+1,1,none⟩=some (.bool m2)) X:=fun X hX=>⟨(hX.cell (p:=⟨w.heap.size,0,none⟩) q0).trans (ag n0 0),(hX.cell (p:=⟨w.heap.size,1,none⟩) q0).trans (ag n0 1),(hX.cell (p:=⟨w.heap.size+1,0,none⟩) q1).trans (ag n1 0),(hX.cell (p:=⟨w.heap.size+1,1,none⟩) q1).trans (ag n1 1)⟩
 obtain⟨k0,k1,k2,k3⟩:=KEEP W0 (df _ _)
 have r0:W0.cell? ⟨w.heap.size+1+1,0,none⟩=some (.slice none 0 0):=ag n2 0
 have r1:W0.cell? ⟨w.heap.size+1+1,1,none⟩=some (.bool false):=ag n2 1
 have f0:=ah n2 0
 have f1:=ah n2 1
 have NR:=bg n2;have HKE:=ae KEEP
 clear n0 n1 n2 hsz KEEP
 go_wp2_with fail
 refine((aa HO) _ hw0).mono ?_
 rintro e w1 ⟨rfl,hw1⟩
 obtain⟨kk,rfl⟩:=hw1
 have hk0:Below W0.heap.size W0 (W0.drewN kk):=ky (df _ _) kk
 go_wp2_with fail
 go_region_held3 (fun w'=>w'.cell? ⟨w.heap.size,0,none⟩=some (.slice A1 l1.length c1)∧w'.cell? ⟨w.heap.size,1,none⟩=some (.bool m1)∧w'.cell? ⟨w.heap.size+1,0,none⟩=some (.slice A2 l2.length c2)∧w'.cell? ⟨w.heap.size+1,1,none⟩=some (.bool m2)) (first|with_reducible exact⟨(Cz _ _ _ _ om).trans ((hc _ _ q0).trans k0),(Cz _ _ _ _ om).trans ((hc _ _ q0).trans k1),(Cz _ _ _ _ om).trans ((hc _ _ q1).trans k2),(Cz _ _ _ _ om).trans ((hc _ _ q1).trans k3)⟩|exact(aa HKE) _ (by(first|with_reducible assumption|(repeat (first|with_reducible exact df _ _|with_reducible assumption|refine ny ?_|(refine qz ?_ zx _)|refine ky ?_ _))))) (first|(go_at_call 183;refine((aa HT) _ (az hw0 (by(first|with_reducible assumption|(repeat (first|with_reducible exact df _ _|with_reducible assumption|refine ny ?_|(refine qz ?_ zx _)|refine ky ?_ _)))))).mono ?_;rintro e w' ⟨A5,c5,l5,rfl,Dv,hb⟩;have hbw:=cz (w:=W0) (by(first|with_reducible assumption|(repeat (first|with_reducible exact df _ _|with_reducible assumption|refine ny ?_|(refine qz ?_ zx _)|refine ky ?_ _)))) hb;obtain⟨hc,hfz⟩:=fq hbw)|(go_at_call 179;refine(Hg A5 c5 l5 p m2 _ (by exact Dv)).mono ?_;rw[HV.out];rintro e w' ⟨A6,c6,l6,m6,rfl,Lc,hb⟩;have hbw:=cz (w:=W0) (by(first|with_reducible assumption|(repeat (first|with_reducible exact df _ _|with_reducible assumption|refine ny ?_|(refine qz ?_ zx _)|refine ky ?_ _)))) hb;obtain⟨hc,hfz⟩:=fq hbw))
 all_goals
  have hblk:w'.heap[w.heap.size+1+1]? = some (.cells #[.slice none 0 0,.bool false] 66 (0,0)):=(hbw.block _ q2).trans NR.out;have lu:=bg hblk;have lh:Below w.heap.size w w':=az hw0 hbw;clear hblk;go_wp2_with fail;exact bodyPost_ret (v := .agg #[.slice A6 l6.length c6,.bool m6]) (by simp[results,results132,go_sem,hc,r0,r1,q2]) rfl
   ⟨A6,c6,l6,m6,rfl,Lc.upto lu.out (Qa _ _ _ _) (qa _ _ _ _),lh.grown (qa _ _ _ _) lh.size (fun k hk=>by injection hk with hk;omega)⟩

theorem bva (A1:Option Addr) (c1:Nat) (l1:List Nat) (m1:Bool) (z1:Int) (A2:Option Addr) (c2:Nat) (l2:List Nat) (m2:Bool) (z2:Int) (w:Wq) (h1:kz w A1 c1 l1 m1 z1) (h2:kz w A2 c2 l2 m2 z2) (hk:l1.length+l2.length+1≤35184372088832) :
  Calls prog 132 #[.agg #[.slice A1 l1.length c1,.bool m1],.agg #[.slice A2 l2.length c2,.bool m2]] w fun e w'=>Le w (z1+z2) e w':=by
 by_cases hs:m1=m2
 ·
  exact bpm A1 c1 l1 m1 z1 A2 c2 l2 m2 z2 w h1 h2 hk hs
 ·
  by_cases ho:z2.natAbs≤z1.natAbs
  ·
   exact ccp A1 c1 l1 m1 z1 A2 c2 l2 m2 z2 w h1 h2 hk hs ho
  ·
   exact cco A1 c1 l1 m1 z1 A2 c2 l2 m2 z2 w h1 h2 hk hs ho

structure FrW (Wp W:Wq) (b:Nat):Prop where
 old:Wp.heap.size≤b
 zero:W.heap[b]? = some (.cells #[.slice none 0 0,.bool false] 66 (0,0))
theorem FrW.lt (h:FrW Wp W b):b<W.heap.size:=lt_of_block h.zero
theorem FrW.drew {Wp W:Wq} {b:Nat} (h:FrW Wp W b):FrW Wp W.drew b:=⟨h.old,h.zero⟩
theorem FrW.below (h:FrW Wp W b) (hb:Below W.heap.size W w'):FrW Wp w' b:=⟨h.old,(hb.block _ h.lt).trans h.zero⟩
theorem FrW.new (hb:Below Wp.heap.size Wp W) (e:b=W.heap.size):FrW Wp (W.alloc (.cells #[.slice none 0 0,.bool false] 66 (0,0))) b:=by
 subst e;exact⟨hb.size,heap_alloc_new W _⟩
theorem FrW.alloc {Wp W:Wq} {b:Nat} {o:Obj} (h:FrW Wp W b):FrW Wp (W.alloc o) b:=⟨h.old,(ags W _ b h.lt).trans h.zero⟩
theorem Mi.new (h1:kz W A1 c1 l1 m1 z1) (e:b=W.heap.size):Mi (W.alloc (.cells #[.slice A1 l1.length c1,.bool m1] 66)) b z1:=by
 subst e;exact⟨A1,c1,l1,m1,heap_alloc_new W _,h1.below ((df _ _).alloc (gu _) _)⟩
theorem Mi.alloc {W:Wq} {b:Nat} {z:Int} {o:Obj} (h:Mi W b z):Mi (W.alloc o) b z:=h.below ((df _ _).alloc (gu _) _)
theorem kz.alloc {W:Wq} {o:Obj} {A1:Option Addr} {c1:Nat} {l1:List Nat} {m1:Bool} {z1:Int} (h1:kz W A1 c1 l1 m1 z1):kz (W.alloc o) A1 c1 l1 m1 z1:=h1.below ((df _ _).alloc (gu _) _)
def byy (w:Wq) (F:Nat) (a b c:Int):Prop := ∀ (A1:Option Addr) (c1:Nat) (l1:List Nat) (m1:Bool) (A2:Option Addr) (c2:Nat) (l2:List Nat) (m2:Bool) (W:Wq),Below w.heap.size w W→kz W A1 c1 l1 m1 a→kz W A2 c2 l2 m2 b→Calls prog F #[(Value.agg #[.slice A1 l1.length c1,.bool m1]),(Value.agg #[.slice A2 l2.length c2,.bool m2])] W fun e w'=>Le W c e w'
def cle (w:Wq) (F:Nat) (a b:Int) (q:Rat):Prop := ∀ (A1:Option Addr) (c1:Nat) (l1:List Nat) (m1:Bool) (A2:Option Addr) (c2:Nat) (l2:List Nat) (m2:Bool) (W:Wq),Below w.heap.size w W→kz W A1 c1 l1 m1 a→kz W A2 c2 l2 m2 b→Calls prog F #[(Value.agg #[.slice A1 l1.length c1,.bool m1]),(Value.agg #[.slice A2 l2.length c2,.bool m2])] W fun e w'=>QR W q e w'
theorem adv (u0 u1 u2 u3:Value) (b o:Nat) (h:b≠g):((((w.setCell ⟨g,0,none⟩ u0).setCell ⟨g,1,none⟩ u1).setCell ⟨g,2,none⟩ u2).setCell ⟨g,3,none⟩ u3).cell? ⟨b,o,none⟩=w.cell? ⟨b,o,none⟩:=by
 rw[Gj _ _ _ _ h,Gj _ _ _ _ h,Gj _ _ _ _ h,Gj _ _ _ _ h]


theorem asw (A1:Option Addr) (c1:Nat) (l1:List Nat) (m1:Bool) (n:Int) (A2:Option Addr) (c2:Nat) (l2:List Nat) (m2:Bool) (d:Int) (K:Nat) (w:Wq) (h1:kz w A1 c1 l1 m1 n) (h2:kz w A2 c2 l2 m2 d) (hd:d≠0) (hn:n.natAbs<dz^K) (hdK:d.natAbs<dz^K) (hK:K+1≤35184372088832) :
  Calls prog 128 #[.agg #[.slice A1 l1.length c1,.bool m1],.agg #[.slice A2 l2.length c2,.bool m2]] w fun e w'=>QR w (Rat.divInt n d) e w':=by
 have hl : ¬ l2.length=0:=fun e=>by have:=h2.nat.Ta.2 e;omega
 have HI:=ae (fun W=>abt A2 c2 l2.length m2 W)
 rw[dw hl]at HI
 obtain⟨n',d',q,hq,hq2,hd',hn',cjk,hneg⟩ : ∃ (n' d':Int) (q:Rat),q=Rat.divInt n d∧q=Rat.divInt n' d'∧0<d'∧n'.natAbs<dz^K∧d'.natAbs<dz^K∧((m2=true∧n' = -n∧d' = -d)∨(m2=false∧n'=n∧d'=d)):=by
  by_cases h:d<0
  ·
   exact⟨-n,-d,_,rfl,(azv n d hd).symm,by omega,by rw[adh];exact hn,by rw[adh];exact hdK,.inl ⟨by rw[h2.sign];exact dm h,rfl,rfl⟩⟩
  ·
   exact⟨n,d,_,rfl,rfl,by omega,hn,hdK,.inr ⟨by rw[h2.sign];exact dw h,rfl,rfl⟩⟩
 rw[← hq]
 have HQ2:=bg hq2
 have HDP:=ae hd';have HNK:=ae hn';have HDK:=ae cjk;have bon:=ae hneg;have HK:=ae hK
 have H1:=ae h1;have H2:=ae h2
 have HN1:=ae (fun W (hW:Below w.heap.size w W)=>apc A1 c1 l1 m1 n W (h1.below hW))
 have HN2:=ae (fun W (hW:Below w.heap.size w W)=>apc A2 c2 l2 m2 d W (h2.below hW))
 clear h1 h2 hd hn hdK hl hq hq2 hd' hn' cjk hneg hK
 go_enter func128,ntmps128
 go_wp2_with fail
 obtain⟨n0,n1,n2,hsz,hw0⟩:=wm w (.cells #[.slice A1 l1.length c1,.bool m1] 66) (.cells #[.slice A2 l2.length c2,.bool m2] 66) (.cells #[.slice none 0 0,.bool false,.slice none 0 0,.bool false] 68)
 generalize (((w.alloc (.cells #[.slice A1 l1.length c1,.bool m1] 66)).alloc (.cells #[.slice A2 l2.length c2,.bool m2] 66)).alloc (.cells #[.slice none 0 0,.bool false,.slice none 0 0,.bool false] 68))=W0 at *
 have hS0:RaS w W0 n d:=⟨⟨_,_,_,_,n0,(aa H1).below hw0⟩,⟨_,_,_,_,n1,(aa H2).below hw0⟩,n2,hw0⟩
 refine((aa HI) _).mono ?_
 rintro e W1 ⟨rfl,hb⟩
 have hS1:=hS0.below hb
 have j0:=(hb.block _ (lt_of_block n0)).trans n0
 have j1:=(hb.block _ (lt_of_block n1)).trans n1
 have hw1:=az hw0 hb
 clear hS0 hb n0 n1 n2 hw0 hsz HI
 have k0:W1.cell? ⟨w.heap.size,0,none⟩=some (.slice A1 l1.length c1):=ag j0 0
 have k1:W1.cell? ⟨w.heap.size,1,none⟩=some (.bool m1):=ag j0 1
 have k2:W1.cell? ⟨w.heap.size+1,0,none⟩=some (.slice A2 l2.length c2):=ag j1 0
 have k3:W1.cell? ⟨w.heap.size+1,1,none⟩=some (.bool m2):=ag j1 1
 have HS:=ae hS1;have J:=ae (And.intro j0 j1);have HW1:=bg hw1
 clear hS1 hw1 j0 j1
 go_upto_if 14 with(fail)
 go_cut [] (fun wx=>RaS w wx n' d')
 case first =>
  rcases aa bon with⟨e1,e2,e3⟩|⟨e1,e2,e3⟩
  ·
   subst e1 e2 e3;have q0:w.heap.size<W1.heap.size:=lt_of_block (aa J).1;have q1:w.heap.size+1<W1.heap.size:=lt_of_block (aa J).2;have KEEP : ∀ X,Below W1.heap.size W1 X→(fun w'=>w'.cell? ⟨w.heap.size,0,none⟩=some (.slice A1 l1.length c1)∧w'.cell? ⟨w.heap.size,1,none⟩=some (.bool m1)∧w'.cell? ⟨w.heap.size+1,0,none⟩=some (.slice A2 l2.length c2)∧w'.cell? ⟨w.heap.size+1,1,none⟩=some (.bool true)) X:=fun X hX=>⟨(hX.cell (p:=⟨w.heap.size,0,none⟩) q0).trans k0,(hX.cell (p:=⟨w.heap.size,1,none⟩) q0).trans k1,(hX.cell (p:=⟨w.heap.size+1,0,none⟩) q1).trans k2,(hX.cell (p:=⟨w.heap.size+1,1,none⟩) q1).trans k3⟩
   have HKE:=ae KEEP;have f0:=ah (aa J).1 0;have f1:=ah (aa J).1 1;have f2:=ah (aa J).2 0;have f3:=ah (aa J).2 1;clear bon KEEP;go_wp2_with fail
   go_region_with (first|(go_at_call_of 176 (Value.agg #[.slice A1 l1.length c1,.bool m1]);refine((aa HN1) _ (az HW1.out (by(first|with_reducible assumption|(repeat (first|with_reducible exact df _ _|with_reducible assumption|refine ny ?_|(refine qz ?_ zx _))))))).mono ?_;rintro e w' ⟨A5,c5,l5,m5,rfl,cji,hb⟩;(try (first|replace Ff:=kz.below Ff hb|replace Ff:=(kz.below Ff (ny (df _ _))).below hb));(try (first|replace Lc:=kz.below Lc hb|replace Lc:=(kz.below Lc (ny (df _ _))).below hb));have Ff:=cji;clear cji;have hbw:=cz (w:=W1) (by(first|with_reducible assumption|(repeat (first|with_reducible exact df _ _|with_reducible assumption|refine ny ?_|(refine qz ?_ zx _))))) hb;obtain⟨hc,hfz⟩:=fq hbw)|(go_at_call_of 176 (Value.agg #[.slice A2 l2.length c2,.bool true]);refine((aa HN2) _ (az HW1.out (by(first|with_reducible assumption|(repeat (first|with_reducible exact df _ _|with_reducible assumption|refine ny ?_|(refine qz ?_ zx _))))))).mono ?_;rintro e w' ⟨A6,c6,l6,m6,rfl,cjh,hb⟩;(try (first|replace Ff:=kz.below Ff hb|replace Ff:=(kz.below Ff (ny (df _ _))).below hb));(try (first|replace Lc:=kz.below Lc hb|replace Lc:=(kz.below Lc (ny (df _ _))).below hb));have Lc:=cjh;clear cjh;have hbw:=cz (w:=W1) (by(first|with_reducible assumption|(repeat (first|with_reducible exact df _ _|with_reducible assumption|refine ny ?_|(refine qz ?_ zx _))))) hb;obtain⟨hc,hfz⟩:=fq hbw))
   all_goals
    go_wp2_with fail
    go_meet
    case rel =>
     have HS9:=(aa HS).below hbw;exact HS9.put Ff Lc
  ·
   subst e1 e2 e3;clear bon;go_wp2_with fail
   go_meet
   case rel=>exact aa HS
 case rest =>
  clear bon k0 k1 k2 k3 HS J HW1 HN1 HN2 H1 H2;obtain⟨⟨A3,c3,l3,m3,kn,fn⟩,⟨A4,c4,l4,m4,kd,fd⟩,kq,hb⟩:=hcut;have w0:wc.cell? ⟨w.heap.size,0,none⟩=some (.slice A3 l3.length c3):=ag kn 0;have w1:wc.cell? ⟨w.heap.size,1,none⟩=some (.bool m3):=ag kn 1;have w2:wc.cell? ⟨w.heap.size+1,0,none⟩=some (.slice A4 l4.length c4):=ag kd 0;have w3:wc.cell? ⟨w.heap.size+1,1,none⟩=some (.bool m4):=ag kd 1;have p0:wc.cell? ⟨w.heap.size+1+1,0,none⟩=some (.slice none 0 0):=ag kq 0;have p1:wc.cell? ⟨w.heap.size+1+1,1,none⟩=some (.bool false):=ag kq 1;have p2:wc.cell? ⟨w.heap.size+1+1,2,none⟩=some (.slice none 0 0):=ag kq 2;have p3:wc.cell? ⟨w.heap.size+1+1,3,none⟩=some (.bool false):=ag kq 3;have u0:=ah kn 0;have u1:=ah kn 1;have u2:=ah kd 0;have u3:=ah kd 1;have v0:=ah kq 0;have v1:=ah kq 1;have v2:=ah kq 2;have v3:=ah kq 3;have q0:=lt_of_block kn;have q1:=lt_of_block kd;have q2:=lt_of_block kq;have hSW:RaS w wc n' d':=⟨⟨A3,c3,l3,m3,kn,fn⟩,⟨A4,c4,l4,m4,kd,fd⟩,kq,hb⟩
  have ho:=ata A4 c4 l4 m4 d' wc fd;have FN:=ae fn;have FD:=ae fd;have KQ:=bg kq;have HB:=ae hb;have HSW:=ae hSW;obtain⟨bmz,hden⟩:=bnp n' d' (aa HDP);rw[← HQ2.out]at bmz hden;obtain⟨g,hg⟩ : ∃ g,g=n'.natAbs.gcd d'.natAbs:=⟨_,rfl⟩
  rw[← hg]at bmz hden;have bom:=bg bmz.symm;have boo:=bg hden.symm;have HGG:=bg hg;clear kn kd kq fn fd hb hSW bmz hden
  by_cases hd1:d'=1
  ·
   rw[dm hd1]at ho;have HO:=ae ho;have hg1:g=1:=by rw[hg,hd1];simp
   have e1:q.num=n':=by
    rw[← bom.out,hg1,Nat.div_one]
    by_cases h:n'<0
    ·
     rw[if_pos (dm h)];omega
    ·
     rw[if_neg (by simpa using h)];omega
   have e2:(q.den:Int)=d':=by
    rw[← boo.out,hg1,Nat.div_one];have:=aa HDP;omega
   have E:=ae (And.intro e1 e2);clear ho hg hg1 hd1 e1 e2;go_wp2_with fail;refine(aa HO).mono ?_
   rintro e W2 ⟨rfl,hb2⟩;obtain⟨hc,hfz⟩:=fq hb2;have hblk:=(hb2.block _ q2).trans KQ.out;have lu:=bg hblk;have HB2:=ae hb2;clear hblk hb2;go_wp2_with fail;exact bodyPost_ret (v := .agg #[.slice A3 l3.length c3,.bool m3,.slice A4 l4.length c4,.bool m4]) (by simp[results,results128,go_sem,hc,p0,p1,p2,p3,q2]) rfl
    ⟨A3,c3,l3,m3,A4,c4,l4,m4,rfl,by rw[(aa E).1];exact((aa FN).below (aa HB2)).upto lu.out (De _ _ _ _ _ _ _ _) (jo _ _ _ _ _ _),by rw[(aa E).2];exact((aa FD).below (aa HB2)).upto lu.out (De _ _ _ _ _ _ _ _) (jo _ _ _ _ _ _),(az (aa HB) (aa HB2)).grown (jo _ _ _ _ _ _) (az (aa HB) (aa HB2)).size (fun k hk=>by injection hk with hk;omega)⟩
  ·
   rw[dw hd1]at ho;have hdv:=fun W (hW:Below wc.heap.size wc W)=>bhn A3 A4 c3 c4 l3 l4 n'.natAbs d'.natAbs K W ((aa FN).nat.below hW) ((aa FD).nat.below hW) (aa HNK) (aa HDK) (aa HK)
   rw[← hg]at hdv;have HO:=ae ho;have HDV:=ae hdv;have hg0:0<g:=by rw[hg];exact abp _ (by have:=aa HDP;omega)
   have hgl:g≤d'.natAbs:=by rw[hg];exact Nat.gcd_le_right _ (by have:=aa HDP;omega)
   have HG0:=ae hg0;have HGL:=ae hgl;have hln:=(aa FN).nat.len (aa HNK);have hld:=(aa FD).nat.len (aa HDK);have Na:=ae hln;have HLD:=ae hld;clear ho hdv hg hg0 hgl hd1 hln hld;go_wp2_with fail;refine(aa HO).mono ?_
   rintro e W2 ⟨rfl,hb2⟩;obtain⟨hc2,hf2⟩:=fq hb2;have HB2:=ae hb2;clear hb2;go_wp2_with fail;refine((aa HDV) _ (aa HB2)).mono ?_
   rintro e W3 ⟨A5,c5,l5,rfl,h5,hb3⟩;have acn:=az (aa HB2) hb3;replace hb3:=acn;obtain⟨hc3,hf3⟩:=fq hb3;have hlg:=h5.len (Dm (aa HGL) (aa HDK));have H5:=ae h5;have HLG:=ae hlg;have HB3:=ae hb3;clear hc2 hf2 acn hlg HDV HO HB2
   by_cases hl5:l5.length=1
   ·
    obtain⟨b5,o5,rfl,hb5,hc5⟩:=h5.ws om;have hcell:=hc5 0 om;rw[Hr,show ik l5 0=g by rw[ahk dz l5 hl5];exact h5.val]at hcell;have crx:((l5.length:Int) != 1)=false:=by rw[hl5];rfl
    have cyz:0<l5.length:=by omega
    have hcap:=h5.Aj;have hcap2:=h5.cap2
    by_cases hg1:g=1
    ·
     have e1:q.num=n':=by
      rw[← bom.out,hg1,Nat.div_one]
      by_cases h:n'<0
      ·
       rw[if_pos (dm h)];omega
      ·
       rw[if_neg (by simpa using h)];omega
     have e2:(q.den:Int)=d':=by
      rw[← boo.out,hg1,Nat.div_one];have:=aa HDP;omega
     have E:=ae (And.intro e1 e2);have hblk:=(hb3.block _ q2).trans KQ.out;have lu:=bg hblk;rw[hg1]at hcell;clear hblk hg1 e1 e2 h5 hc5 hb3 hl5 hb5;go_wp2_with fail;exact bodyPost_ret (v := .agg #[.slice A3 l3.length c3,.bool m3,.slice A4 l4.length c4,.bool m4]) (by simp[results,results128,go_sem,hc3,p0,p1,p2,p3,q2]) rfl
      ⟨A3,c3,l3,m3,A4,c4,l4,m4,rfl,by rw[(aa E).1];exact((aa FN).below (aa HB3)).upto lu.out (De _ _ _ _ _ _ _ _) (jo _ _ _ _ _ _),by rw[(aa E).2];exact((aa FD).below (aa HB3)).upto lu.out (De _ _ _ _ _ _ _ _) (jo _ _ _ _ _ _),(az (aa HB) (aa HB3)).grown (jo _ _ _ _ _ _) (az (aa HB) (aa HB3)).size (fun k hk=>by injection hk with hk;omega)⟩
    ·
     have hgb:((g:Int)==1)=false:=oo.2 om;have czd:((g:Int) != 1)=true:=by simp;omega
     obtain⟨AG,hAG⟩ : ∃ A:Option Addr,A=some ⟨b5,o5,none⟩:=⟨_,rfl⟩
     have hp1:=Yu A3 (some ⟨b5,o5,none⟩) c3 c5 l3 l5 n'.natAbs g W3 ((aa FN).nat.below hb3) (aa H5) (aa HG0) (by have:=aa Na;have:=aa HK;omega) (by have:=aa HLG;have:=aa HK;omega);have HP1:=ae hp1;clear hg1 h5 hc5 hb3 hl5 hb5 hp1 hAG AG;go_wp2_with fail;refine(aa HP1).mono ?_
     rintro e W4 ⟨A6,c6,l6,A7,c7,l7,rfl,h6,h7,hb4⟩;have aia:=az (aa HB3) hb4;have h5':=(aa H5).below hb4;obtain⟨hc4,hf4⟩:=fq aia;have hp2:=Yu A4 (some ⟨b5,o5,none⟩) c4 c5 l4 l5 d'.natAbs g W4 ((aa FD).nat.below aia) h5' (aa HG0) (by have:=aa HLD;have:=aa HK;omega) (by have:=aa HLG;have:=aa HK;omega);have HP2:=ae hp2;have H6:=ae h6;have HB4:=ae aia;clear hp2 h6 h7 hb4 aia h5' hc3 hf3 HP1;go_wp2_with fail;refine(aa HP2).mono ?_
     rintro e W5 ⟨A8,c8,l8,A9,c9,l9,rfl,h8,h9,hb5⟩;have aqe:=az (aa HB4) hb5;obtain⟨hc5,Ff⟩:=fq aqe;have hs1:=Hg A6 c6 l6 (n'.natAbs/g) m3 W5 ((aa H6).below hb5);have hm3:(if m3=true then -((n'.natAbs/g:Nat):Int)else((n'.natAbs/g:Nat):Int))=q.num:=by rw[(aa FN).sign];exact bom.out
     rw[hm3]at hs1;have zf:=ae hs1;have H8:=ae h8;have HB5:=ae aqe;clear hs1 h8 h9 hb5 aqe hc4 hf4 hm3 HP2;go_wp2_with fail;refine(aa zf).mono ?_
     rintro e W6 ⟨Zo,c10,l10,m10,rfl,h10,hb6⟩;have aqd:=az (aa HB5) hb6;obtain⟨hc6,Lc⟩:=fq aqd;have hs2:=Hg A8 c8 l8 (d'.natAbs/g) false W6 ((aa H8).below hb6);rw[if_neg agr,boo.out]at hs2;have HS2:=ae hs2;have H10:=ae h10;have HB6:=ae aqd;clear hs2 h10 hb6 aqd hc5 Ff zf;go_wp2_with fail;refine(aa HS2).mono ?_
     rintro e W7 ⟨A11,c11,Zv,m11,rfl,h11,Rt⟩;have aqc:=az (aa HB6) Rt;obtain⟨hc7,hf7⟩:=fq aqc;have beb:=(aa HSW).below aqc;have aeq:=ae beb;have bgw:=ae ((aa H10).below Rt);have H11:=ae h11;clear h11 Rt aqc hc6 Lc beb HS2;go_wp2_with fail;have hS9:=(aa aeq).put (aa bgw) (aa H11);have hk1:=(aa aeq).keep (.slice Zo l10.length c10) (.bool m10) (.slice A11 Zv.length c11) (.bool m11) (aa bgw);have hk2:=(aa aeq).keep (.slice Zo l10.length c10) (.bool m10) (.slice A11 Zv.length c11) (.bool m11) (aa H11);exact bodyPost_ret (v := .agg #[.slice Zo l10.length c10,.bool m10,.slice A11 Zv.length c11,.bool m11]) (by simp[results,results128,go_sem,hc7,p0,p1,p2,p3,q2]) rfl
      ⟨Zo,c10,l10,m10,A11,c11,Zv,m11,rfl,hk1.upto hS9.bq (De _ _ _ _ _ _ _ _) (jo _ _ _ _ _ _),hk2.upto hS9.bq (De _ _ _ _ _ _ _ _) (jo _ _ _ _ _ _),hS9.hb.grown (jo _ _ _ _ _ _) hS9.hb.size (fun k hk=>by injection hk with hk;omega)⟩
   ·
    have crx:((l5.length:Int) != 1)=true:=by simp;omega
    have cyy:((l5.length:Int)==1)=false:=oo.2 om;have hcap:=h5.Aj;have hcap2:=h5.cap2;have hp1:=Yu A3 A5 c3 c5 l3 l5 n'.natAbs g W3 ((aa FN).nat.below hb3) (aa H5) (aa HG0) (by have:=aa Na;have:=aa HK;omega) (by have:=aa HLG;have:=aa HK;omega);have HP1:=ae hp1;clear h5 hb3 hl5 hp1;go_wp2_with fail;refine(aa HP1).mono ?_
    rintro e W4 ⟨A6,c6,l6,A7,c7,l7,rfl,h6,h7,hb4⟩;have aia:=az (aa HB3) hb4;have h5':=(aa H5).below hb4;obtain⟨hc4,hf4⟩:=fq aia;have hp2:=Yu A4 A5 c4 c5 l4 l5 d'.natAbs g W4 ((aa FD).nat.below aia) h5' (aa HG0) (by have:=aa HLD;have:=aa HK;omega) (by have:=aa HLG;have:=aa HK;omega);have HP2:=ae hp2;have H6:=ae h6;have HB4:=ae aia;clear hp2 h6 h7 hb4 aia h5' hc3 hf3 HP1;go_wp2_with fail;refine(aa HP2).mono ?_
    rintro e W5 ⟨A8,c8,l8,A9,c9,l9,rfl,h8,h9,hb5⟩;have aqe:=az (aa HB4) hb5;obtain⟨hc5,Ff⟩:=fq aqe;have hs1:=Hg A6 c6 l6 (n'.natAbs/g) m3 W5 ((aa H6).below hb5);have hm3:(if m3=true then -((n'.natAbs/g:Nat):Int)else((n'.natAbs/g:Nat):Int))=q.num:=by rw[(aa FN).sign];exact bom.out
    rw[hm3]at hs1;have zf:=ae hs1;have H8:=ae h8;have HB5:=ae aqe;clear hs1 h8 h9 hb5 aqe hc4 hf4 hm3 HP2;go_wp2_with fail;refine(aa zf).mono ?_
    rintro e W6 ⟨Zo,c10,l10,m10,rfl,h10,hb6⟩;have aqd:=az (aa HB5) hb6;obtain⟨hc6,Lc⟩:=fq aqd;have hs2:=Hg A8 c8 l8 (d'.natAbs/g) false W6 ((aa H8).below hb6);rw[if_neg agr,boo.out]at hs2;have HS2:=ae hs2;have H10:=ae h10;have HB6:=ae aqd;clear hs2 h10 hb6 aqd hc5 Ff zf;go_wp2_with fail;refine(aa HS2).mono ?_
    rintro e W7 ⟨A11,c11,Zv,m11,rfl,h11,Rt⟩;have aqc:=az (aa HB6) Rt;obtain⟨hc7,hf7⟩:=fq aqc;have beb:=(aa HSW).below aqc;have aeq:=ae beb;have bgw:=ae ((aa H10).below Rt);have H11:=ae h11;clear h11 Rt aqc hc6 Lc beb HS2;go_wp2_with fail;have hS9:=(aa aeq).put (aa bgw) (aa H11);have hk1:=(aa aeq).keep (.slice Zo l10.length c10) (.bool m10) (.slice A11 Zv.length c11) (.bool m11) (aa bgw);have hk2:=(aa aeq).keep (.slice Zo l10.length c10) (.bool m10) (.slice A11 Zv.length c11) (.bool m11) (aa H11);exact bodyPost_ret (v := .agg #[.slice Zo l10.length c10,.bool m10,.slice A11 Zv.length c11,.bool m11]) (by simp[results,results128,go_sem,hc7,p0,p1,p2,p3,q2]) rfl
     ⟨Zo,c10,l10,m10,A11,c11,Zv,m11,rfl,hk1.upto hS9.bq (De _ _ _ _ _ _ _ _) (jo _ _ _ _ _ _),hk2.upto hS9.bq (De _ _ _ _ _ _ _ _) (jo _ _ _ _ _ _),hS9.hb.grown (jo _ _ _ _ _ _) hS9.hb.size (fun k hk=>by injection hk with hk;omega)⟩

theorem bpk (n d:Int) (w:Wq) (b1 : -9223372036854775808≤n) (b2:n≤9223372036854775807) (b3 : -9223372036854775808≤d) (b4:d≤9223372036854775807) (hd:d≠0) :
  Calls prog 145 #[.int .i64 n,.int .i64 d] w fun e w'=>QR w (Rat.divInt n d) e w':=by
 have HO1:=ae (fun W=>(agy n W b1 b2).mono (fun e w' h=>h.1))
 have Us:=ae (fun W=>(agy d W b3 b4).mono (fun e w' h=>h.1))
 have k1:n.natAbs<dz^2:=by rw[fu];omega
 have k2:d.natAbs<dz^2:=by rw[fu];omega
 obtain⟨q,hq⟩ : ∃ q,q=Rat.divInt n d:=⟨_,rfl⟩
 have HR:=ae (fun(A1:Option Addr) (c1:Nat) (l1:List Nat) (m1:Bool) (A2:Option Addr) (c2:Nat) (l2:List Nat) (m2:Bool) (W:Wq) (f1:kz W A1 c1 l1 m1 n) (f2:kz W A2 c2 l2 m2 d)=>asw A1 c1 l1 m1 n A2 c2 l2 m2 d 2 W f1 f2 hd k1 k2 om)
 rw[← hq]at HR ⊢
 clear b1 b2 b3 b4 hd k1 k2 hq
 go_enter func145,ntmps145
 go_wp2_with fail
 obtain⟨n0,hsz,hw0⟩:=Ii w (.cells #[.slice none 0 0,.bool false,.slice none 0 0,.bool false] 68)
 generalize (w.alloc (.cells #[.slice none 0 0,.bool false,.slice none 0 0,.bool false] 68))=W0 at *
 have p0:W0.cell? ⟨w.heap.size,0,none⟩=some (.slice none 0 0):=ag n0 0
 have p1:W0.cell? ⟨w.heap.size,1,none⟩=some (.bool false):=ag n0 1
 have p2:W0.cell? ⟨w.heap.size,2,none⟩=some (.slice none 0 0):=ag n0 2
 have p3:W0.cell? ⟨w.heap.size,3,none⟩=some (.bool false):=ag n0 3
 have v0:=ah n0 0;have v1:=ah n0 1;have v2:=ah n0 2;have v3:=ah n0 3
 have q0:=lt_of_block n0
 have NR:=bg n0
 clear n0 hsz
 refine((aa HO1) _).mono ?_
 rintro e W1 ⟨A1,c1,l1,m1,rfl,f1,hb1⟩
 have F1:=ae f1;have HB1:=ae hb1
 clear f1 hb1
 go_wp2_with fail
 refine((aa Us) _).mono ?_
 rintro e W2 ⟨A2,c2,l2,m2,rfl,f2,hb2⟩
 have Rw:=(aa F1).below hb2
 have hr:=(aa HR) A1 c1 l1 m1 A2 c2 l2 m2 W2 Rw f2
 have HRR:=ae hr
 have hb2':=az (aa HB1) hb2
 have HB2:=ae hb2'
 clear Rw f2 hb2 hr hb2'
 go_wp2_with fail
 refine(aa HRR).mono ?_
 rintro e W3 ⟨A3,c3,l3,m3,A4,c4,l4,m4,rfl,f3,f4,hb3⟩
 have acn:=az (aa HB2) hb3
 obtain⟨hc,hfz⟩:=fq acn
 have hblk:=(acn.block _ q0).trans NR.out
 have lu:=bg hblk
 have F3:=ae f3;have F4:=ae f4;have lh:=az hw0 acn
 have HB9:=ae lh
 clear f3 f4 hb3 acn hblk lh
 go_wp2_with fail
 exact bodyPost_ret (v := .agg #[.slice A3 l3.length c3,.bool m3,.slice A4 l4.length c4,.bool m4]) (by simp[results,results145,go_sem,hc,p0,p1,p2,p3,q0]) rfl
  ⟨A3,c3,l3,m3,A4,c4,l4,m4,rfl,(aa F3).upto lu.out (De _ _ _ _ _ _ _ _) (jo _ _ _ _ _ _),(aa F4).upto lu.out (De _ _ _ _ _ _ _ _) (jo _ _ _ _ _ _),(aa HB9).grown (jo _ _ _ _ _ _) (aa HB9).size (fun k hk=>by injection hk with hk;omega)⟩
end Go.Proofs.YtfgeaakhlcaibaaGreatDoor
