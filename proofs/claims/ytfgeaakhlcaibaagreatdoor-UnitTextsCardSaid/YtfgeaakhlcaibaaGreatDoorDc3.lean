/- Texts beneath a law of layer 1. -/
import Derived.Test.YtfgeaakhlcaibaaGreatDoorDc2
import Derived.Deep.LoopGhost
import Derived.Laws.CopyOwn
import Derived.Deep.RegionHeld3
import Derived.IntWalk
import Derived.Deep.DeepCutAuto
import Derived.Deep.CutBlock
set_option maxRecDepth 100000
set_option maxHeartbeats 16000000
namespace Go.Proofs.YtfgeaakhlcaibaaGreatDoor
open Go.RowKit
open Go.Proofs.Tryz
open Go renaming World → Wq
open Go renaming Value → Vq
variable {w w' W w1:Wq} {l:List Nat} {B K cap g n L:Nat} {A:Option Addr} {z a s b d:Int} {T:TypeId} {cs:Array Vq} {q:Rat}

def lim:Nat:=17592186044416
theorem Hy:lim=17592186044416:=rfl

theorem awj (h:qf w A cap l n) (hl:l.length≤1):ik l 0=n∧n<eu:=by
 rw[← h.val]
 match l,hl,h.lt with
 | [],_,_=>exact⟨rfl,by rw[ja];show 0 < _;omega⟩
 | [a],_,hlt=>exact⟨by simp[bf,ik],by have:=hlt a mi;simpa [bf]using this⟩

theorem bdd (Ax Ay:Option Addr) (cx cy:Nat) (xl yl:List Nat) (n m:Nat) (w:Wq) (hx:qf w Ax cx xl n) (hy:qf w Ay cy yl m) (hT:yg w) (hk:xl.length≤lim) (hk2:yl.length≤lim) :
  Calls prog 200 #[.slice Ax xl.length cx,.slice Ay yl.length cy] w fun e w'=>Qn w (n.gcd m) e w':=by
 have HT:=ae hT
 clear hT
 go_enter func200,ntmps200
 go_wp2_with fail
 go_loopg [0,1] m (fun g xv yv wr => ∃ (A A':Option Addr) (c c':Nat) (l l':List Nat) (n' m':Nat),xv = .slice A l.length c∧yv = .slice A' l'.length c'∧qf wr A c l n'∧qf wr A' c' l' m'∧Hid (l.length≤lim)∧Hid (l'.length≤lim)∧Hid (n'.gcd m'=n.gcd m)∧Hid (m'≤g)∧Below w.heap.size w wr)
 case atStart=>exact⟨Ax,Ay,cx,cy,xl,yl,n,m,rfl,rfl,hx,hy,hk,hk2,rfl,gu _,df _ _⟩
 case round =>
  obtain⟨A,A',c,c',l,l',n',m',rfl,rfl,h1,h2,hl1,hl2,bxy,hmg,hb⟩:=hrel
  by_cases hone:l.length≤1∧l'.length≤1
  ·
   obtain⟨o1,o2⟩:=hone;have b1:decide ((1:Int)<(l.length:Int))=false:=by simp;omega
   have b2:decide ((1:Int)<(l'.length:Int))=false:=by simp;omega
   obtain⟨e1,e2⟩:=awj h1 o1;obtain⟨e3,e4⟩:=awj h2 o2;have bnc:=Xd A c l wr.heap.size 0 wr h1.ws h1.Aj h1.cap2 om;have bnb:=Xd A' c' l' wr.heap.size 0 wr h2.ws h2.Aj h2.cap2 om;rw[e1]at bnc;rw[e3]at bnb;have L1:=ae bnc;have L2:=ae bnb;have hTr:yg wr:=(aa HT).below hb;have hgB:n'.gcd m'<eu:=by
    rcases Fs n' with h|h
    ·
     subst h;simp;exact e4
    ·
     exact Dm (asb _ h) e2
   have HGB:=ae hgB;have HG:=ae (ayr n' m' e2 e4 wr hTr);clear e1 e2 e3 e4 bnc bnb hTr hgB o1 o2;go_wp2_with fail;refine(aa L1).mono ?_
   rintro e w1 ⟨rfl,hw1⟩;obtain rfl:wr=w1:=hw1.symm;clear hw1;go_wp2_with fail;refine(aa L2).mono ?_
   rintro e w1 ⟨rfl,hw1⟩;obtain rfl:wr=w1:=hw1.symm;clear hw1;go_wp2_with fail;refine(aa HG).mono ?_
   rintro e w1 ⟨rfl,hw1⟩;obtain rfl:wr=w1:=hw1.symm;clear hw1;go_wp2_with fail;refine(akx _ (aa HGB) wr).mono ?_
   rintro e w2 ⟨A2,cap2,l2,rfl,hr,hb2⟩;go_wp2_with fail
   go_ret
   exact⟨A2,cap2,l2,rfl,by rw[← bxy.out];exact hr,hb.trans (hb2.mono hb.size)⟩
  ·
   have hc1:=h1.Aj;have hc2:=h1.cap2;have hc3:=h2.Aj;have hc4:=h2.cap2;have b1:(decide ((1:Int)<(l.length:Int))=true)∨(decide ((1:Int)<(l.length:Int))=false∧decide ((1:Int)<(l'.length:Int))=true):=by
    by_cases h:1<l.length
    ·
     exact .inl (dm om)
    ·
     exact .inr ⟨dw om,dm om⟩
   by_cases h0:l'.length=0
   ·
    have hz:((l'.length:Int)==0)=true:=Iw.2 om;have hm0:m'=0:=by rw[← h2.val,ari h0];rfl
    have hgn:n'=n.gcd m:=by rw[← bxy.out,hm0,asa]
    have HGN:=bg hgn;clear hgn hm0 h0 hone
    rcases b1 with b1|⟨b1,b2⟩
    all_goals
     go_wp2_with fail
     go_ret
     exact⟨A,c,l,rfl,by rw[← HGN.out];exact h1,hb⟩
   ·
    have hz:((l'.length:Int)==0)=false:=oo.2 om;have hm0:0<m':=by
     rw[← h2.val];exact avd (by rw[ja];omega) _ h2.norm (by intro h;rw[h]at h0;simp at h0)
    have HD:=ae (awr A A' c c' l l' n' m' wr h1 h2 hm0 (by have:=hl1.out;rw[Hy]at this;omega) (by have:=hl2.out;rw[Hy]at this;omega));have HM0:=ae hm0;clear hm0 h0 hone
    rcases b1 with b1|⟨b1,b2⟩
    all_goals
     go_wp2_with fail;refine(aa HD).mono ?_
     rintro e w1 ⟨A1,Aj,l1,A2,cap2,l2,rfl,hq,hr,hb1⟩;have hlt:n'%m'<m':=Bf _ (aa HM0);have qp:=ae hlt;have hlen:l2.length≤l'.length:=by
      apply aag
      intro h;have:=Bh zg l' l2 h2.lt hr.norm om;rw[h2.val,hr.val]at this;omega
     have HLEN:=ae hlen;clear hlt hlen;go_wp2_with fail
     go_roundg (n'%m')
     case measure=>have h1:=hmg.out;have h2:=qp.out;omega
     case rel=>exact⟨A',A2,c',cap2,l',l2,m',n'%m',rfl,rfl,h2.below hb1,hr,hl2,xy (aa HLEN) hl2.out,by show _=_;rw[← bxy.out,Ja m',← aex,Ja],gu _,hb.trans (hb1.mono hb.size)⟩

theorem addr_add (b off j:Nat):(⟨b,off,none⟩:Addr).add j=⟨b,off+j,none⟩:=by
 unfold Addr.add
 split
 ·
  rename_i h;subst h;rfl
 ·
  rfl

def Ca (k:IntKind) (l:List Nat):List Vq:=l.map fun(x:Nat)=>Value.int k (x:Int)
theorem bow {k:IntKind} {j:Nat} {v:Vq} (h:(Ca k l)[j]? = some v):j<l.length∧v = .int k ((ik l j:Nat):Int):=by
 simp only[Ca,aad,bbi]at h
 obtain⟨x,hx,rfl⟩:=h
 obtain⟨hl,rfl⟩:=agj.1 hx
 exact⟨hl,by simp[ik,List.getD,hl]⟩

theorem bcd (k:IntKind) (l:List Nat) (n:Nat) (hn:l.length≤n):(splice (Ca k (List.replicate n 0)) 0 (Ca k l)).toArray=Ba k (l++List.replicate (n-l.length) 0):=by
 simp[splice,Ca,Ba]

theorem azt (k:IntKind) (l:List Nat) : ∀ v∈Ca k l,v.oneCell'=true:=by
 intro v hv
 simp only[Ca,Nv]at hv
 obtain⟨x,_,rfl⟩:=hv
 rfl

theorem aoy (B:Nat) (l:List Nat) (n:Nat):bf B (l++List.replicate n 0)=bf B l:=by
 rw[Og,afw];simp

theorem bpu:(prog.info? 157).map (·.size)=some 1:=by kernel_rfl

theorem btg (A:Option Addr) (c:Nat) (l:List Nat) (wa:Wq) (B g:Nat) (hz:ZB .u64 wa g 157 (List.replicate (l.length+1) 0)) (hws:Ws .u64 wa B A l) :
  ∃ W',(Builtin.copy_ #[75,75] 3 #[.slice (some ⟨g,0,none⟩) (l.length+1) (l.length+1),.slice A l.length c]).run prog wa = .ok (goInt l.length) W'∧ZB .u64 W' g 157 (l++[0]) ∧ ∀ B',B'≤g→Below B' wa W':=by
 by_cases h0:l.length=0
 ·
  have hl:=ari h0;subst hl;exact⟨wa,run_copy_none wa 75 75 3 157 _ _ _ _ _ _ underlying75 bpu mi,hz,fun B' _=>df _ _⟩
 ·
  obtain⟨b,off,rfl,_,hc⟩:=hws om;have hlen:(Ca .u64 l).length=l.length:=by simp[Ca]
  have hsp:=bcd .u64 l (l.length+1) om;rw[show l.length+1-l.length=1 by omega]at hsp;have hrun:=run_copy_row (P:=prog) wa 75 75 3 157 g 0 (l.length+1) (l.length+1) ⟨b,off,none⟩ l.length c (Ba .u64 (List.replicate (l.length+1) 0)) 157 (Ca .u64 l) underlying75 bpu hz
   (by rw[hlen];exact(Ce om).symm) (fun j v hj=>by
    obtain⟨h1,rfl⟩:=bow hj;rw[addr_add];exact hc j h1) (by rw[hlen];simp[Ba]) (azt _ _)
  rw[hlen]at hrun;refine⟨_,hrun,?_,fun B' hB'=>below_setRow (df _ _) hB' _⟩
  have e:((Ba .u64 (List.replicate (l.length+1) 0)).toList.take 0++Ca .u64 l++(Ba .u64 (List.replicate (l.length+1) 0)).toList.drop (0+l.length)).toArray=Ba .u64 (l++[0]):=by
   rw[show[0]=List.replicate 1 0 from rfl,← hsp];simp[splice,Ba,Ca]
  rw[e];exact setRow_heap wa g _ _ 157 (0,0) hz

theorem bju (hB:1<B) {pl ql zr:List Nat} {m c:Nat} (h1:bf B zr+B^(pl++[0]).length*c=bf B (pl++[0])+bf B ql) (hp:bf B pl=n) (hq:bf B ql=m) (hn:n<B^pl.length) (hm:m<B^ql.length) (hl:ql.length≤pl.length) (hc:c≤1):bf B zr=n+m:=by
 have h2:bf B (pl++[0])=n:=by rw[show[0]=List.replicate 1 0 from rfl,aoy];exact hp
 rw[h2,hq]at h1
 have h5:B^ql.length≤B^pl.length:=Ho (Iz Uy hB) hl
 have h6:B^(pl++[0]).length=B^pl.length*B:=by rw[Bj,List.length_singleton,Be]
 have h7:2*B^pl.length≤B^pl.length*B:=by rw[og];exact Bo _ hB
 rw[h6]at h1
 generalize B^pl.length*B=Q at *
 generalize B^pl.length=P at *
 generalize B^ql.length=R at *
 rcases(show c=0∨c=1 by omega)with rfl|rfl<;>omega

theorem bjb (h : ∀ x∈l,x<eu) : ∀ x∈l++[0],x<eu:=by
 intro t ht
 rw[Ku]at ht
 rcases ht with h1|h1
 ·
  exact h t h1
 ·
  rw[Rj]at h1;subst h1;exact Iz Uy zg

theorem afv (Ax Ay:Option Addr) (cx cy:Nat) (xl yl:List Nat) (n m:Nat) (w:Wq) (hx:qf w Ax cx xl n) (hy:qf w Ay cy yl m) (hk:xl.length≤lim) (hk2:yl.length≤lim) :
  Calls prog 202 #[.slice Ax xl.length cx,.slice Ay yl.length cy] w fun e w'=>Qn w (n+m) e w':=by
 have hx1:=hx.Aj;have hx2:=hx.cap2;have hy1:=hy.Aj;have hy2:=hy.cap2
 have hkk:xl.length≤17592186044416:=by rw[← Hy];exact hk
 have cza:yl.length≤17592186044416:=by rw[← Hy];exact hk2
 by_cases hlt:xl.length<yl.length
 ·
  have b1:decide ((xl.length:Int)<(yl.length:Int))=true:=dm om;have b2:decide (xl.length<yl.length)=true:=dm om;have hmk:=Yy (yl.length+1) om;simp only[adg,art]at hmk;have hws:Ws .u64 (w.alloc (.cells (Ba .u64 (List.replicate (yl.length+1) 0)) 157)) w.heap.size Ay yl:=hy.ws.alloc (gu _) _;obtain⟨w1,hcopy,hz,hb0⟩:=btg Ay cy yl _ w.heap.size w.heap.size (heap_alloc_new w _) hws;have hb1:Below w.heap.size w w1:=((df _ _).alloc (gu _) _).trans (hb0 _ (gu _));clear hb0 hws
  go_enter func202,ntmps202
  go_wp2_with fail;have hx1:=hx.below hb1;have hadd:=aei w.heap.size 0 (yl.length+1) 157 (yl++[0]) (yl++[0]) xl Ax cx w.heap.size w1 hz mi (by rw[agk,Fb (gu _)]) mi om (hx.ws.below hb1) (gu _) hx.Aj hx.cap2 (by simp;omega) (bjb hy.lt) hx.lt;have e0:(yl++[0]).length=yl.length+1:=by simp
  rw[e0]at hadd;refine hadd.mono ?_
  rintro e w2 ⟨zr,c,rfl,hok,hz2,hg2⟩;have hl2:zr.length=yl.length+1:=by rw[hok.len];simp
  rw[win_zero _ _ (by rw[hok.len])]at hz2;have hval:bf eu zr=n+m:=by rw[asf];exact bju zg hok.eq hy.val hx.val hy.Za hx.Za om hok.c1
  have hb2:Below w.heap.size w w2:=hb1.grown hg2 hb1.size (fun g e=>by injection e with e;omega);have HL2:=bg hl2;have axe:=bg hval;have qp:=ae hok.lt;have htr:=Nc (some ⟨w.heap.size,0,none⟩) zr.length zr w2.heap.size w2 (hz2.Mk _ hz2.lt) (gu _) om;rw[hl2]at htr;have HTR:=ae htr;clear hl2 hval hok hadd htr;go_wp2_with fail;refine(aa HTR).mono ?_
  rintro e w3 ⟨⟨k,rfl,ht,hk3⟩,hw3⟩;obtain rfl:w2=w3:=hw3.symm;go_wp2_with fail
  go_ret
  have hk4:k=(zr.take k).length:=by have:=HL2.out;rw[uy];omega
  have h:=qf.Ij (cap:=yl.length+1) hz2 (aa qp) ht (by rw[HL2.out];exact hk3) (by rw[HL2.out];exact gu _) om;rw[axe.out]at h;exact⟨some ⟨w.heap.size,0,none⟩,yl.length+1,zr.take k,Mm hk4,h,hb2⟩
 ·
  have b1:decide ((xl.length:Int)<(yl.length:Int))=false:=dw om;have b2:decide (xl.length<yl.length)=false:=dw om;have hmk:=Yy (xl.length+1) om;simp only[adg,art]at hmk;have hws:Ws .u64 (w.alloc (.cells (Ba .u64 (List.replicate (xl.length+1) 0)) 157)) w.heap.size Ax xl:=hx.ws.alloc (gu _) _;obtain⟨w1,hcopy,hz,hb0⟩:=btg Ax cx xl _ w.heap.size w.heap.size (heap_alloc_new w _) hws;have hb1:Below w.heap.size w w1:=((df _ _).alloc (gu _) _).trans (hb0 _ (gu _));clear hb0 hws
  go_enter func202,ntmps202
  go_wp2_with fail;have hy1:=hy.below hb1;have hadd:=aei w.heap.size 0 (xl.length+1) 157 (xl++[0]) (xl++[0]) yl Ay cy w.heap.size w1 hz mi (by rw[agk,Fb (gu _)]) mi om (hy.ws.below hb1) (gu _) hy.Aj hy.cap2 (by simp;omega) (bjb hx.lt) hy.lt;have e0:(xl++[0]).length=xl.length+1:=by simp
  rw[e0]at hadd;refine hadd.mono ?_
  rintro e w2 ⟨zr,c,rfl,hok,hz2,hg2⟩;have hl2:zr.length=xl.length+1:=by rw[hok.len];simp
  rw[win_zero _ _ (by rw[hok.len])]at hz2;have hval:bf eu zr=n+m:=bju zg hok.eq hx.val hy.val hx.Za hy.Za om hok.c1;have hb2:Below w.heap.size w w2:=hb1.grown hg2 hb1.size (fun g e=>by injection e with e;omega);have HL2:=bg hl2;have axe:=bg hval;have qp:=ae hok.lt;have htr:=Nc (some ⟨w.heap.size,0,none⟩) zr.length zr w2.heap.size w2 (hz2.Mk _ hz2.lt) (gu _) om;rw[hl2]at htr;have HTR:=ae htr;clear hl2 hval hok hadd htr;go_wp2_with fail;refine(aa HTR).mono ?_
  rintro e w3 ⟨⟨k,rfl,ht,hk3⟩,hw3⟩;obtain rfl:w2=w3:=hw3.symm;go_wp2_with fail
  go_ret
  have hk4:k=(zr.take k).length:=by have:=HL2.out;rw[uy];omega
  have h:=qf.Ij (cap:=xl.length+1) hz2 (aa qp) ht (by rw[HL2.out];exact hk3) (by rw[HL2.out];exact gu _) om;rw[axe.out]at h;exact⟨some ⟨w.heap.size,0,none⟩,xl.length+1,zr.take k,Mm hk4,h,hb2⟩

theorem fq (hb:Below W.heap.size W w1):(∀ b o,b<W.heap.size→w1.cell? ⟨b,o,none⟩=W.cell? ⟨b,o,none⟩)∧(∀ b o,b<W.heap.size→w1.frozen? ⟨b,o,none⟩=W.frozen? ⟨b,o,none⟩) :=
 ⟨fun b o h=>hb.cell (p:=⟨b,o,none⟩) h,fun b o h=>hb.frozen (p:=⟨b,o,none⟩) h⟩

def We:Nat:=9223372036854775808
theorem Df:We=9223372036854775808:=rfl

structure iy (w:Wq) (s:Int) (neg:Bool) (A:Option Addr) (cap:Nat) (l:List Nat) (z:Int):Prop where
 nat : ∃ n,qf w A cap l n
 form:(l.length=0∧neg=false∧s=z∧z.natAbs<We)∨(0<l.length∧s=0∧neg=decide (z<0)∧bf eu l=z.natAbs∧We≤z.natAbs)

theorem iy.below {neg:Bool} (h:iy w s neg A cap l z) (hb:Below w.heap.size w w'):iy w' s neg A cap l z :=
 ⟨let ⟨n,hn⟩:=h.nat;⟨n,hn.below hb⟩,h.form⟩
theorem iy.small (hz:z.natAbs<We):iy w z false none 0 [] z:=⟨⟨0,qf.aeg _ _ om⟩,.inl ⟨rfl,rfl,rfl,hz⟩⟩

def Jy (w:Wq) (z:Int) (e:Ending) (w':Wq):Prop := ∃ s neg A cap l,e = .returned (.agg #[.int .i64 s,.bool neg,.slice A l.length cap])∧iy w' s neg A cap l z∧Below w.heap.size w w'

def aga (cs:Array Vq):Prop := ∀ (i:Nat) (n:Int),cs[i]? ≠ some (Value.int .u64 n)
theorem Bd (s:Int) (b:Bool) (A:Option Addr) (n c:Nat):aga #[.int .i64 s,.bool b,.slice A n c]:=by
 intro i n h
 match i,h with
 | 0,h=>simp at h
 | 1,h=>simp at h
 | 2,h=>simp at h
 | i+3,h=>simp at h

theorem Ws.upto (h:Ws .u64 w B A l) (hg:w.heap[g]? = some (.cells cs T (0,0))) (hn:aga cs) (hgr:w.grownBy w' (some g)) (hB:B≤w.heap.size):Ws .u64 w' B A l:=fun hl=>by
 obtain⟨b,off,rfl,hb,hc⟩:=h hl
 have hne:b≠g:=by
  rintro rfl;have:=hc 0 hl;simp only[World.cell?,hg,aeu,anb,if_false]at this;exact hn _ _ this
 exact⟨b,off,rfl,hb,fun j hj=>(Re (hgr.block b om (fun e=>hne (by injection e)))).trans (hc j hj)⟩
theorem qf.upto (h:qf w A cap l n) (hg:w.heap[g]? = some (.cells cs T (0,0))) (hn:aga cs) (hgr:w.grownBy w' (some g)):qf w' A cap l n :=
 ⟨(h.ws.upto hg hn hgr (gu _)).more hgr.size,h.Aj,h.cap2,h.lt,h.norm,h.val⟩
theorem iy.upto {neg:Bool} (h:iy w s neg A cap l z) (hg:w.heap[g]? = some (.cells cs T (0,0))) (hn:aga cs) (hgr:w.grownBy w' (some g)):iy w' s neg A cap l z :=
 ⟨let ⟨n,hn'⟩:=h.nat;⟨n,hn'.upto hg hn hgr⟩,h.form⟩

theorem jq (w:Wq) (g:Nat) (u0 u1 u2:Vq):w.grownBy (((w.setCell ⟨g,0,none⟩ u0).setCell ⟨g,1,none⟩ u1).setCell ⟨g,2,none⟩ u2) (some g) :=
 qy (qy (qy (wy _ _) _ _) _ _) _ _

theorem Aq (s:Int) (neg:Bool) (A:Option Addr) (cap n:Nat) (w:Wq) :
  Calls prog 188 #[.agg #[.int .i64 s,.bool neg,.slice A n cap]] w fun e w'=>e = .returned (.bool (decide (n=0)))∧w'=w.alloc (.cells #[.int .i64 s,.bool neg,.slice A n cap] 77):=by
 by_cases h:n=0
 ·
  subst h
  go_enter func188,ntmps188
  go_wp2
  go_ret
  exact⟨rfl,rfl⟩
 ·
  have hb:((n:Int)==0)=false:=oo.2 om;have hd:decide (n=0)=false:=dw h;rw[hd];clear hd
  go_enter func188,ntmps188
  go_wp2
  go_ret
  exact⟨rfl,rfl⟩

theorem Xa (s:Int) (hs1 : -9223372036854775808≤s) (hs2:s≤9223372036854775807) (w:Wq) :
  Calls prog 186 #[.int .i64 s] w fun e w'=>e = .returned (.int .u64 ((s.natAbs:Nat):Int))∧w'=w:=by
 by_cases h:s<0
 ·
  have e1:IntKind.u64.wrap (-(IntKind.u64.wrap s))=((s.natAbs:Nat):Int):=by
   rw[Ct,Ct];omega
  have HE:=bg e1;clear e1 hs1 hs2
  go_enter func186,ntmps186
  go_wp2
  go_ret
  exact⟨Ej (by first|exact HE.out|(rw[← HE.out];simp)),rfl⟩
 ·
  have e1:IntKind.u64.wrap s=((s.natAbs:Nat):Int):=by
   rw[Ct];omega
  have HE:=bg e1;clear e1 hs1 hs2
  go_enter func186,ntmps186
  go_wp2
  go_ret
  exact⟨Ej (by first|exact HE.out|(rw[← HE.out];simp)),rfl⟩

theorem agw (neg:Bool) (m:Nat) (hm:m<eu) (w:Wq) :
  Calls prog 185 #[.bool neg,.int .u64 ((m:Nat):Int)] w fun e w'=>Jy w (if neg then -(m:Int)else(m:Int)) e w':=by
 by_cases h:We≤m
 ·
  have b1:decide ((9223372036854775807:Int)<(m:Int))=true:=dm (by rw[Df]at h;omega);have hz:(if neg then -(m:Int)else(m:Int)).natAbs=m:=by cases neg<;>simp
  have hn:decide ((if neg then -(m:Int)else(m:Int))<0)=neg:=by rw[Df]at h;cases neg<;>simp<;>omega
  obtain⟨z,hzz⟩ : ∃ z,z=if neg then -(m:Int)else(m:Int):=⟨_,rfl⟩
  rw[← hzz]at hz hn ⊢;have HZ:=bg hz;have HN:=bg hn;have HM:=ae h;have HMB:=ae hm;clear hz hn hzz h hm
  go_enter func185,ntmps185
  go_wp2
  refine bodyPost_ret (v := .agg #[.int .i64 0,.bool neg,.slice (some ⟨w.heap.size+1,0,none⟩) 1 1]) (by simp[results,results185,go_sem]) rfl ⟨0,neg,some ⟨w.heap.size+1,0,none⟩,1,[m],rfl,?_,?_⟩
  ·
   have hz:ZB .u64 ((w.alloc (.cells #[.int .i64 0,.bool neg,.slice (some ⟨w.heap.size+1,0,none⟩) 1 1] 77)).alloc (.cells #[.int .u64 (m:Int)] 157)) (w.heap.size+1) 157 [m]:=by
    have:ZB .u64 ((w.alloc (.cells #[.int .i64 0,.bool neg,.slice (some ⟨w.heap.size+1,0,none⟩) 1 1] 77)).alloc (.cells #[.int .u64 (m:Int)] 157)) (w.alloc (.cells #[.int .i64 0,.bool neg,.slice (some ⟨w.heap.size+1,0,none⟩) 1 1] 77)).heap.size 157 [m]:=heap_alloc_new _ _;rwa[yw]at this
   have h63:=HM.out;rw[Df]at h63;exact⟨⟨m,hz.Mk _ hz.lt,by simp,by omega,by simpa using HMB.out,.inr (by simp;omega),by simp[bf]⟩,.inr ⟨by simp,rfl,HN.out.symm,by rw[HZ.out];simp[bf],by rw[HZ.out];exact HM.out⟩⟩
  ·
   exact((df _ _).alloc (gu _) _).alloc mi _
 ·
  have b1:decide ((9223372036854775807:Int)<(m:Int))=false:=dw (by rw[Df]at h;omega);have HM:=ae h
  cases neg
  ·
   have e1:IntKind.i64.wrap (m:Int)=(m:Int):=Es _ (by rw[Df]at h;omega);clear hm h
   go_enter func185,ntmps185
   go_wp2
   refine bodyPost_ret (v := .agg #[.int .i64 (m:Int),.bool false,.slice none 0 0]) (by simp[results,results185,go_sem]) rfl ⟨(m:Int),false,none,0,[],rfl,?_,?_⟩
   ·
    exact iy.small (by have:=HM.out;simpa using this)
   ·
    exact(df _ _).alloc (gu _) _
  ·
   have e1:IntKind.i64.wrap (m:Int)=(m:Int):=Es _ (by rw[Df]at h;omega);have e2:wrap64 (-(m:Int)) = -(m:Int):=Cs _ ⟨by rw[Df]at h;omega,by omega⟩;clear hm h
   go_enter func185,ntmps185
   go_wp2
   refine bodyPost_ret (v := .agg #[.int .i64 (-(m:Int)),.bool false,.slice none 0 0]) (by simp[results,results185,go_sem]) rfl ⟨-(m:Int),false,none,0,[],rfl,?_,?_⟩
   ·
    exact iy.small (by have:=HM.out;simpa using this)
   ·
    exact(df _ _).alloc (gu _) _

theorem Je (n:Int) (h1 : -9223372036854775808≤n) (h2:n≤9223372036854775807) (w:Wq) :
  Calls prog 137 #[.int .i64 n] w fun e w'=>Jy w n e w':=by
 have hs:=Xa n h1 h2
 have hw : ∀ W,Calls prog 185 #[.bool (decide (n<0)),.int .u64 ((n.natAbs:Nat):Int)] W fun e w'=>Jy W n e w':=fun W=>by
  have:=agw (decide (n<0)) n.natAbs (by rw[ja];omega) W;rwa[show(if decide (n<0)=true then -((n.natAbs:Nat):Int)else((n.natAbs:Nat):Int))=n by by_cases h:n<0<;>simp[h]<;>omega]at this
 have HS:=ae hs;have HW:=ae hw
 clear hs hw h1 h2
 by_cases hn:n<0
 all_goals
  have hd:decide (n<0)=decide (n<0):=rfl
  first
   | rw[dm hn]at HW
   | rw[dw hn]at HW
  clear hd
  go_enter func137,ntmps137
  go_wp2_with fail;refine((aa HS) _).mono ?_
  rintro e w1 ⟨rfl,rfl⟩;go_wp2_with fail;refine((aa HW) _).mono ?_
  rintro e w2 ⟨s,neg,A,cap,l,rfl,hf,hb⟩;obtain⟨hc,hfz⟩:=fq hb;have hsz:w.heap.size<w2.heap.size:=by have:=hb.size;simp at this;omega
  have hblk:w2.heap[w.heap.size]? = some (.cells #[.int .i64 0,.bool false,.slice none 0 0] 77 (0,0)):=(hb.block _ mi).trans (heap_alloc_new w _);have lu:=bg hblk;clear hblk;go_wp2_with fail;exact bodyPost_ret (v := .agg #[.int .i64 s,.bool neg,.slice A l.length cap]) (by simp[results,results137,go_sem,hc,hsz]) rfl
   ⟨s,neg,A,cap,l,rfl,hf.upto lu.out (Bd _ _ _ _ _) (jq _ _ _ _ _),(((df _ _).alloc (gu _) _).trans (hb.mono mi)).grown (jq _ _ _ _ _) om (fun k hk=>by injection hk with hk;omega)⟩

def zm (z:Int):Int:=if z<0 then -1 else if 0<z then 1 else 0

theorem bth (x y:Int) (w:Wq) :
  Calls prog 193 #[.int .i64 x,.int .i64 y] w fun e w'=>e = .returned (.int .i64 (zm (x-y)))∧w'=w:=by
 go_enter func193,ntmps193
 go_wp2
 ·
  have h:x<y:=by assumption
  go_ret
  exact⟨Ej (by unfold zm;rw[if_pos om]),rfl⟩
 ·
  have h:y<x:=by assumption
  go_ret
  exact⟨Ej (by unfold zm;rw[if_neg om,if_pos om]),rfl⟩
 ·
  have h1:y≤x:=by assumption
  have h2:x≤y:=by assumption
  go_ret
  exact⟨Ej (by unfold zm;rw[if_neg om,if_neg om]),rfl⟩

theorem iy.bounds {neg:Bool} (h:iy w s neg A cap l z) : -9223372036854775808≤s∧s≤9223372036854775807:=by
 rcases h.form with⟨_,_,rfl,h⟩|⟨_,rfl,_⟩
 ·
  rw[Df]at h;omega
 ·
  omega

theorem Oq (s:Int) (neg:Bool) (A:Option Addr) (cap:Nat) (l:List Nat) (z:Int) (w:Wq) (h:iy w s neg A cap l z) :
  Calls prog 191 #[.agg #[.int .i64 s,.bool neg,.slice A l.length cap]] w fun e w'=>Qn w z.natAbs e w':=by
 have hsm:=fun W=>Aq s neg A cap l.length W
 have Rb:=ae hsm
 clear hsm
 rcases h.form with⟨h1,h2,h3,h4⟩|⟨h1,h2,h3,h4,h5⟩
 ·
  rw[dm h1]at Rb;have hb:=h.bounds;have Cn:=ae (fun W=>Xa s hb.1 hb.2 W);have Qz:z.natAbs<eu:=by rw[Df]at h4;rw[ja];omega
  rw[h3]at Cn;obtain⟨a,ha⟩ : ∃ a,a=z.natAbs:=⟨_,rfl⟩
  rw[← ha]at Cn Qz ⊢;have HZB:=ae Qz;subst h3;clear hb Qz h1 h2 h4 h ha
  go_enter func191,ntmps191
  go_wp2_with fail;refine((aa Rb) _).mono ?_
  rintro e w1 ⟨rfl,rfl⟩;go_wp2_with fail;refine((aa Cn) _).mono ?_
  rintro e w1 ⟨rfl,rfl⟩;go_wp2_with fail;refine(akx _ (aa HZB) _).mono ?_
  rintro e w2 ⟨A',cap',l',rfl,hn,hb⟩;go_wp2_with fail
  go_ret
  exact⟨A',cap',l',rfl,hn,(((df _ _).alloc (gu _) _).alloc mi _).trans (hb.mono (by simp;omega))⟩
 ·
  rw[dw om]at Rb;obtain⟨n,hn⟩:=h.nat
  have hnz:n=z.natAbs:=by rw[← h4,hn.val]
  subst hnz;have HN:=ae hn;clear h1 h2 h3 h4 h5 h hn
  go_enter func191,ntmps191
  go_wp2_with fail;refine((aa Rb) _).mono ?_
  rintro e w1 ⟨rfl,rfl⟩;go_wp2_with fail
  go_ret
  exact⟨A,cap,l,rfl,(aa HN).below (((df _ _).alloc (gu _) _).alloc mi _),((df _ _).alloc (gu _) _).alloc mi _⟩

theorem Gt (s:Int) (neg:Bool) (A:Option Addr) (cap:Nat) (l:List Nat) (z:Int) (w:Wq) (h:iy w s neg A cap l z) :
  Calls prog 159 #[.agg #[.int .i64 s,.bool neg,.slice A l.length cap]] w fun e w'=>e = .returned (.int .i64 (zm z))∧Below w.heap.size w w':=by
 have Rb:=ae (fun W=>Aq s neg A cap l.length W)
 rcases h.form with⟨h1,h2,h3,h4⟩|⟨h1,h2,h3,h4,h5⟩
 ·
  rw[dm h1]at Rb;have HC:=ae (fun W=>bth z 0 W);rw[Int.sub_zero]at HC;subst h3;clear h1 h2 h4 h
  go_enter func159,ntmps159
  go_wp2_with fail;refine((aa Rb) _).mono ?_
  rintro e w1 ⟨rfl,rfl⟩;go_wp2_with fail;refine((aa HC) _).mono ?_
  rintro e w1 ⟨rfl,rfl⟩;go_wp2_with fail
  go_ret
  exact⟨rfl,((df _ _).alloc (gu _) _).alloc mi _⟩
 ·
  rw[dw om]at Rb;have hs:zm z=if neg=true then -1 else 1:=by
   unfold zm;rw[h3];rw[Df]at h5
   by_cases hz:z<0
   ·
    simp[hz]
   ·
    simp[hz];omega
  have HO:=ae (fun W=>adq neg W)
  cases neg
  all_goals
   simp only[anb,if_false,if_true]at hs HO;have HS:=bg hs;clear h1 h2 h3 h4 h5 h hs
   go_enter func159,ntmps159
   go_wp2_with fail;refine((aa Rb) _).mono ?_
   rintro e w1 ⟨rfl,rfl⟩;go_wp2_with fail;refine((aa HO) _).mono ?_
   rintro e w1 ⟨rfl,rfl⟩;go_wp2_with fail
   go_ret
   exact⟨Ej HS.out.symm,((df _ _).alloc (gu _) _).alloc mi _⟩

theorem ano (s:Int) (neg:Bool) (A:Option Addr) (cap:Nat) (l:List Nat) (z:Int) (w:Wq) (h:iy w s neg A cap l z) :
  Calls prog 160 #[.agg #[.int .i64 s,.bool neg,.slice A l.length cap]] w fun e w'=>Jy w (-z) e w':=by
 have Rb:=ae (fun W=>Aq s neg A cap l.length W)
 rcases h.form with⟨h1,h2,h3,h4⟩|⟨h1,h2,h3,h4,h5⟩
 ·
  rw[dm h1]at Rb;subst h3;have e1:wrap64 (-s) = -s:=Cs _ (by rw[Df]at h4;omega);have H4:=ae h4;clear h1 h2 h4 h
  go_enter func160,ntmps160
  go_wp2_with fail;refine((aa Rb) _).mono ?_
  rintro e w1 ⟨rfl,rfl⟩;go_wp2_with fail;refine bodyPost_ret (v := .agg #[.int .i64 (-s),.bool false,.slice none 0 0]) (by simp[results,results160,go_sem]) rfl ⟨-s,false,none,0,[],rfl,iy.small (by have:=aa H4;simpa using this),?_⟩
  exact(((df _ _).alloc (gu _) _).alloc mi _).alloc (by simp;omega) _
 ·
  rw[dw om]at Rb;have hf:iy w 0 (!neg) A cap l (-z):=by
   refine⟨h.nat,.inr ⟨h1,rfl,?_,by rw[h4];simp,by simpa using h5⟩⟩
   rw[h3];rw[Df]at h5
   by_cases hz:z<0
   ·
    simp[hz];omega
   ·
    simp[hz];omega
  have H:=ae hf;clear h1 h2 h3 h4 h5 h hf
  go_enter func160,ntmps160
  go_wp2_with fail;refine((aa Rb) _).mono ?_
  rintro e w1 ⟨rfl,rfl⟩;go_wp2_with fail;refine bodyPost_ret (v := .agg #[.int .i64 0,.bool (!neg),.slice A l.length cap]) (by simp[results,results160,go_sem]) rfl ⟨0,!neg,A,cap,l,rfl,?_,?_⟩
  ·
   exact(aa H).below ((((df _ _).alloc (gu _) _).alloc mi _).alloc (by simp;omega) _)
  ·
   exact(((df _ _).alloc (gu _) _).alloc mi _).alloc (by simp;omega) _

theorem Gi (s:Int) (neg:Bool) (A:Option Addr) (cap n:Nat) (w:Wq) :
  Calls prog 140 #[.agg #[.int .i64 s,.bool neg,.slice A n cap]] w fun e w'=>e = .returned (.tuple #[.int .i64 s,.bool (decide (n=0))])∧Below w.heap.size w w':=by
 have Rb:=ae (fun W=>Aq s neg A cap n W)
 go_enter func140,ntmps140
 go_wp2_with fail
 go_region_with (go_at_call 188;refine((aa Rb) _).mono ?_;rintro e w' ⟨rfl,rfl⟩)
 all_goals
  go_wp2_with fail
  go_ret2
  refine⟨rfl,?_⟩
  repeat (first|exact df _ _|refine ny ?_|(refine qz ?_ zx _))

theorem cz (h:Below w.heap.size w W) (hb:Below W.heap.size W w'):Below w.heap.size w w':=h.trans (hb.mono h.size)

theorem az (h:Below w.heap.size w W) (hb:Below W.heap.size W w'):Below w.heap.size w w':=h.trans (hb.mono h.size)

theorem bha (h:qf w A cap l n) (hl:1<l.length) (neg:Bool):iy w 0 neg A cap l (if neg then -(n:Int)else(n:Int)):=by
 have h1:=aar (B:=eu) l h.norm (by rintro rfl;simp at hl)
 have h2:eu^1≤eu^(l.length-1):=Ho (Iz Uy zg) om
 rw[h.val,]at h1
 rw[Rh]at h2
 have h3:We≤n∧0<n:=by
  have:We≤eu:=by rw[Df,ja];omega
  have:0<eu:=Iz Uy zg;omega
 refine⟨⟨n,h⟩,.inr ⟨by omega,rfl,?_,?_,?_⟩⟩
 ·
  cases neg<;>simp<;>omega
 ·
  rw[h.val];cases neg<;>simp
 ·
  cases neg<;>simp<;>exact h3.1

theorem Et (neg:Bool) (A:Option Addr) (cap:Nat) (l:List Nat) (n:Nat) (w:Wq) (h:qf w A cap l n) :
  Calls prog 190 #[.bool neg,.slice A l.length cap] w fun e w'=>Jy w (if neg then -(n:Int)else(n:Int)) e w':=by
 have hc1:=h.Aj;have hc2:=h.cap2
 by_cases hl:1<l.length
 ·
  have b1:decide ((1:Int)<(l.length:Int))=true:=dm om;have hf:=bha h hl neg;obtain⟨z,hz⟩ : ∃ z,z=if neg then -(n:Int)else(n:Int):=⟨_,rfl⟩
  rw[← hz]at hf ⊢;have HF:=ae hf;clear hf hz hl h
  go_enter func190,ntmps190
  go_wp2_with fail;exact bodyPost_ret (v := .agg #[.int .i64 0,.bool neg,.slice A l.length cap]) (by simp[results,results190,go_sem]) rfl ⟨0,neg,A,cap,l,rfl,(aa HF).below ((df _ _).alloc (gu _) _),(df _ _).alloc (gu _) _⟩
 ·
  have b1:decide ((1:Int)<(l.length:Int))=false:=dw om;obtain⟨e1,e2⟩:=awj h om;have hlim:=fun W (hW:Below w.heap.size w W)=>Xd A cap l W.heap.size 0 W (h.below hW).ws hc1 hc2 om
  rw[e1]at hlim;have HL:=ae hlim;have HW:=ae (fun W=>agw neg n e2 W);obtain⟨z,hz⟩ : ∃ z,z=if neg then -(n:Int)else(n:Int):=⟨_,rfl⟩
  rw[← hz]at HW ⊢;clear hz hl h e1 e2 hlim
  go_enter func190,ntmps190
  go_wp2_with fail;refine((aa HL) _ ((df _ _).alloc (gu _) _)).mono ?_
  rintro e w1 ⟨rfl,rfl⟩;go_wp2_with fail;refine((aa HW) _).mono ?_
  rintro e w2 ⟨s,yh,A',cap',l',rfl,hf,hb⟩;obtain⟨hc,hfz⟩:=fq hb;have hsz:w.heap.size<w2.heap.size:=by have:=hb.size;simp at this;omega
  have hblk:w2.heap[w.heap.size]? = some (.cells #[.int .i64 0,.bool false,.slice none 0 0] 77 (0,0)):=(hb.block _ mi).trans (heap_alloc_new w _);have lu:=bg hblk;clear hblk;go_wp2_with fail;exact bodyPost_ret (v := .agg #[.int .i64 s,.bool yh,.slice A' l'.length cap']) (by simp[results,results190,go_sem,hc,hsz]) rfl
   ⟨s,yh,A',cap',l',rfl,hf.upto lu.out (Bd _ _ _ _ _) (jq _ _ _ _ _),(((df _ _).alloc (gu _) _).trans (hb.mono mi)).grown (jq _ _ _ _ _) om (fun k hk=>by injection hk with hk;omega)⟩

theorem iy.Io {neg:Bool} (h:iy w s neg A cap l z) (hl:l.length=0):s=z∧neg=false∧z.natAbs<We:=by
 rcases h.form with⟨_,h1,h2,h3⟩|⟨h1,_⟩
 ·
  exact⟨h2,h1,h3⟩
 ·
  omega

theorem Ci (w:Wq) (o1 o2:Obj):((w.alloc o1).alloc o2).heap[w.heap.size]? = some o1∧((w.alloc o1).alloc o2).heap[w.heap.size+1]? = some o2∧((w.alloc o1).alloc o2).heap.size=w.heap.size+2∧Below w.heap.size w ((w.alloc o1).alloc o2):=by
 refine⟨(ags _ _ _ mi).trans (heap_alloc_new w o1),?_,by simp,((df _ _).alloc (gu _) _).alloc mi _⟩
 have:=heap_alloc_new (w.alloc o1) o2
 rwa[yw]at this
theorem wm (w:Wq) (o1 o2 o3:Obj):(((w.alloc o1).alloc o2).alloc o3).heap[w.heap.size]? = some o1∧(((w.alloc o1).alloc o2).alloc o3).heap[w.heap.size+1]? = some o2∧(((w.alloc o1).alloc o2).alloc o3).heap[w.heap.size+1+1]? = some o3∧(((w.alloc o1).alloc o2).alloc o3).heap.size=w.heap.size+3∧Below w.heap.size w (((w.alloc o1).alloc o2).alloc o3):=by
 obtain⟨h1,h2,h3,h4⟩:=Ci w o1 o2
 refine⟨(ags _ _ _ om).trans h1,(ags _ _ _ om).trans h2,?_,by simp,h4.alloc om _⟩
 have:=heap_alloc_new ((w.alloc o1).alloc o2) o3
 rwa[h3]at this
theorem ag {b:Nat} {fr:Nat×Nat} (h:w.heap[b]? = some (.cells cs T fr)) (i:Nat):w.cell? ⟨b,i,none⟩=cs[i]? := by
 simp[World.cell?,h]
theorem nk (a b c:Vq):#[a,b,c][0]? = some a:=rfl
theorem ni (a b c:Vq):#[a,b,c][1]? = some b:=rfl
theorem mq (a b c:Vq):#[a,b,c][2]? = some c:=rfl


theorem ah {b:Nat} (h:w.heap[b]? = some (.cells cs T (0,0))) (i:Nat):w.frozen? ⟨b,i,none⟩=false:=by
 simp[World.frozen?,h]

theorem tu {o:Obj} (h:Below w.heap.size w W) (e:w1=W.alloc o):Below w.heap.size w w1:=by subst e;exact h.alloc h.size _

theorem bci (z1 z2:Int):(if decide (zm z1*zm z2<0)=true then -((z1.natAbs*z2.natAbs:Nat):Int)else((z1.natAbs*z2.natAbs:Nat):Int))=z1*z2:=by
 rw[aaf]
 rcases amy z1 0 with a|a|a<;>rcases amy z2 0 with b|b|b
 all_goals
  first
   | (subst a;simp[zm])
   | (subst b;simp[zm])
   | skip
 all_goals
  simp only[zm,a,b,if_true,if_neg (Int.not_lt.2 (bao a)),if_neg (Int.not_lt.2 (bao b))]
 ·
  rw[bam om,bam om];simp[Int.neg_mul_neg]
 ·
  rw[bam om,ban om];simp[Int.neg_mul]
 ·
  rw[ban om,bam om];simp[Int.mul_neg]
 ·
  rw[ban om,ban om];simp

theorem iy.aik {neg:Bool} (h:iy w s neg A cap l z):z.natAbs<eu^(max 1 l.length):=by
 rcases h.form with⟨h1,_,_,h2⟩|⟨h1,_,_,h2,_⟩
 ·
  have:We<eu:=by rw[Df,ja];omega
  have h3:eu^1≤eu^(max 1 l.length):=Ho (Iz Uy zg) om;rw[Rh]at h3;omega
 ·
  obtain⟨n,hn⟩:=h.nat
  rw[← h2];have h3:=Bi (B:=eu) l hn.lt;have h4:eu^l.length≤eu^(max 1 l.length):=Ho (Iz Uy zg) om;omega


theorem iy.Ui {neg:Bool} {A':Option Addr} {cap':Nat} {l':List Nat} (h:iy w s neg A cap l z) (hl:l.length≤lim) (g:qf W A' cap' l' z.natAbs):l'.length≤lim∧l'.length+1≤35184372088832:=by
 have:=g.len h.aik
 rw[Hy]at hl ⊢
 omega

theorem qf.drew {w:Wq} {A:Option Addr} {cap:Nat} {l:List Nat} {n:Nat} (h:qf w A cap l n):qf w.drew A cap l n:=h.below ((df _ _).drew)

theorem jc (u0 u1 u2:Vq) (b o:Nat) (h:b≠g):(((w.setCell ⟨g,0,none⟩ u0).setCell ⟨g,1,none⟩ u1).setCell ⟨g,2,none⟩ u2).cell? ⟨b,o,none⟩=w.cell? ⟨b,o,none⟩:=by
 rw[ajj _ _ _ _ (by intro e;injection e with e1;exact h (by first|exact e1|exact e1.symm)),ajj _ _ _ _ (by intro e;injection e with e1;exact h (by first|exact e1|exact e1.symm)),ajj _ _ _ _ (by intro e;injection e with e1;exact h (by first|exact e1|exact e1.symm))]
theorem Ub (z:Int):zm z<0↔z<0:=by unfold zm;(repeat' split)<;>omega


theorem bxg (s1:Int) (ek:Bool) (A1:Option Addr) (c1:Nat) (l1:List Nat) (z1:Int) (s2:Int) (di:Bool) (A2:Option Addr) (c2:Nat) (l2:List Nat) (z2:Int) (w:Wq)
  (h1:iy w s1 ek A1 c1 l1 z1) (h2:iy w s2 di A2 c2 l2 z2) (hl1:l1.length≤lim) (hl2:l2.length≤lim) (hT:yg w) :
  Calls prog 164 #[.agg #[.int .i64 s1,.bool ek,.slice A1 l1.length c1],.agg #[.int .i64 s2,.bool di,.slice A2 l2.length c2]] w fun e w'=>Jy w ((z1.natAbs.gcd z2.natAbs:Nat):Int) e w':=by
 have zf:=ae (fun W=>Aq s1 ek A1 c1 l1.length W)
 have HS2:=ae (fun W=>Aq s2 di A2 c2 l2.length W)
 have LEN : ∀ (W:Wq) (A5:Option Addr) (c5:Nat) (l5:List Nat) (_:Unit),qf W A5 c5 l5 z1.natAbs→l5.length≤lim∧l5.length+1≤35184372088832:=fun _ _ _ _ _ g=>h1.Ui hl1 g
 have amk : ∀ (W:Wq) (A5:Option Addr) (c5:Nat) (l5:List Nat) (_:Unit),qf W A5 c5 l5 z2.natAbs→l5.length≤lim∧l5.length+1≤35184372088832:=fun _ _ _ _ _ g=>h2.Ui hl2 g
 have B1 : ∀ W0,Below w.heap.size w W0→Hid (∀ W,Below W0.heap.size W0 W→Calls prog 191 #[.agg #[.int .i64 s1,.bool ek,.slice A1 l1.length c1]] W fun e w'=>Qn W z1.natAbs e w'):=fun W0 h0 W hW=>Oq s1 ek A1 c1 l1 z1 W (iy.below h1 (az h0 hW))
 have B2 : ∀ W0,Below w.heap.size w W0→Hid (∀ W,Below W0.heap.size W0 W→Calls prog 191 #[.agg #[.int .i64 s2,.bool di,.slice A2 l2.length c2]] W fun e w'=>Qn W z2.natAbs e w'):=fun W0 h0 W hW=>Oq s2 di A2 c2 l2 z2 W (iy.below h2 (az h0 hW))
 have T0 : ∀ W0,Below w.heap.size w W0→Hid (∀ W,Below W0.heap.size W0 W→yg W):=fun W0 h0 W hW=>hT.below (az h0 hW)
 have ahz:=h1.bounds
 have ahy:=h2.bounds
 have hsz1:l1.length=0→s1.natAbs=z1.natAbs∧z1.natAbs<We:=fun h=>by obtain⟨e,_,e3⟩:=h1.Io h;rw[e];exact⟨rfl,e3⟩
 have hsz2:l2.length=0→s2.natAbs=z2.natAbs∧z2.natAbs<We:=fun h=>by obtain⟨e,_,e3⟩:=h2.Io h;rw[e];exact⟨rfl,e3⟩
 have Z1:=ae (fun W=>Xa s1 ahz.1 ahz.2 W)
 have Z2:=ae (fun W=>Xa s2 ahy.1 ahy.2 W)
 obtain⟨m1,hm1⟩ : ∃ o,o=z1.natAbs:=⟨_,rfl⟩
 obtain⟨m2,hm2⟩ : ∃ o,o=z2.natAbs:=⟨_,rfl⟩
 rw[← hm1]at B1 LEN hsz1 ⊢
 rw[← hm2]at B2 amk hsz2 ⊢
 have HB1:=ae B1;have HB2:=ae B2;have HLEN:=ae LEN;have Kb:=ae amk;have HTT:=ae T0
 clear hm1 hm2 B1 B2 h1 h2 ahz ahy LEN amk hl1 hl2 T0 hT
 by_cases hs:l1.length=0∧l2.length=0
 ·
  obtain⟨a1,a2⟩:=hs;rw[dm a1]at zf;rw[dm a2]at HS2;obtain⟨y1,y2⟩:=hsz1 a1;obtain⟨y3,y4⟩:=hsz2 a2;rw[y1]at Z1;rw[y3]at Z2;have hB1:m1<eu:=by have:=y2;rw[Df]at this;rw[ja];omega
  have hB2:m2<eu:=by have:=y4;rw[Df]at this;rw[ja];omega
  have HM:=ae (fun W=>ayr m1 m2 hB1 hB2 W);have hgB:m1.gcd m2<eu:=by
   rcases Fs m1 with h|h
   ·
    rw[h,Nat.gcd_zero_left];exact hB2
   ·
    exact Dm (asb _ h) hB1
  have HW:Hid (∀ W,Calls prog 185 #[.bool false,.int .u64 ((m1.gcd m2:Nat):Int)] W fun e w'=>Jy W ((m1.gcd m2:Nat):Int) e w'):=ae (fun W=>by
   have:=agw false (m1.gcd m2) hgB W;rw[if_neg agr]at this;exact this)
  clear hgB hB1 hB2 y1 y2 y3 y4 hsz1 hsz2 a1 a2;obtain⟨g,hg⟩ : ∃ g,g=m1.gcd m2:=⟨_,rfl⟩
  rw[← hg]at HM HW ⊢;clear hg
  go_enter func164,ntmps164
  go_wp2_with fail;obtain⟨n1,n2,n3,hsz,hw0⟩:=wm w (.cells #[.int .i64 s1,.bool ek,.slice A1 l1.length c1] 77) (.cells #[.int .i64 s2,.bool di,.slice A2 l2.length c2] 77) (.cells #[.int .i64 0,.bool false,.slice none 0 0] 77);generalize (((w.alloc (.cells #[.int .i64 s1,.bool ek,.slice A1 l1.length c1] 77)).alloc (.cells #[.int .i64 s2,.bool di,.slice A2 l2.length c2] 77)).alloc (.cells #[.int .i64 0,.bool false,.slice none 0 0] 77))=W0 at *;have k1:=ag n1 0;have k2:=ag n1 1;have k3:=ag n1 2;simp only[wh,nk,ni,mq]at k1 k2 k3;have k4:=ag n2 0;have k5:=ag n2 1;have k6:=ag n2 2;simp only[wh,nk,ni,mq]at k4 k5 k6;have q0:w.heap.size<W0.heap.size:=by omega
  have q1:w.heap.size+1<W0.heap.size:=by omega
  have q2:w.heap.size+1+1<W0.heap.size:=by omega
  have k7:=ag n3 0;have k8:=ag n3 1;have k9:=ag n3 2;simp only[wh,nk,ni,mq]at k7 k8 k9;have f7:=ah n3 0;have f8:=ah n3 1;have f9:=ah n3 2;have N3:=bg n3;clear n3;clear n1 n2;have B1:=(aa HB1) W0 hw0;have B2:=(aa HB2) W0 hw0;have TT:=(aa HTT) W0 hw0;refine((aa zf) _).mono ?_
  rintro e w1 ⟨rfl,hw1⟩;have Br:=tu (w:=W0) bem hw1;obtain⟨hc,hfz⟩:=fq Br;clear hw1;go_wp2_with fail;refine((aa HS2) _).mono ?_
  rintro e w2 ⟨rfl,hw2⟩;have hbw2:=tu (w:=W0) bem hw2;obtain⟨hc,hfz⟩:=fq hbw2;clear hw2;go_wp2_with fail
  go_region_held3 (fun w'=>w'.cell? ⟨w.heap.size,0,none⟩=some (.int .i64 s1)∧w'.cell? ⟨w.heap.size,1,none⟩=some (.bool ek)∧w'.cell? ⟨w.heap.size,2,none⟩=some (.slice A1 l1.length c1)∧w'.cell? ⟨w.heap.size+1,0,none⟩=some (.int .i64 s2)∧w'.cell? ⟨w.heap.size+1,1,none⟩=some (.bool di)∧w'.cell? ⟨w.heap.size+1,2,none⟩=some (.slice A2 l2.length c2)) ((first|with_reducible exact⟨(hc _ _ q0).trans k1,(hc _ _ q0).trans k2,(hc _ _ q0).trans k3,(hc _ _ q1).trans k4,(hc _ _ q1).trans k5,(hc _ _ q1).trans k6⟩|with_reducible exact⟨k1,k2,k3,k4,k5,k6⟩|with_reducible exact⟨(jc _ _ _ _ _ om).trans ((hc _ _ q0).trans k1),(jc _ _ _ _ _ om).trans ((hc _ _ q0).trans k2),(jc _ _ _ _ _ om).trans ((hc _ _ q0).trans k3),(jc _ _ _ _ _ om).trans ((hc _ _ q1).trans k4),(jc _ _ _ _ _ om).trans ((hc _ _ q1).trans k5),(jc _ _ _ _ _ om).trans ((hc _ _ q1).trans k6)⟩|exact⟨(hc _ _ q0).trans k1,(hc _ _ q0).trans k2,(hc _ _ q0).trans k3,(hc _ _ q1).trans k4,(hc _ _ q1).trans k5,(hc _ _ q1).trans k6⟩|exact⟨k1,k2,k3,k4,k5,k6⟩)) (first|(go_at_call_of 186 (Value.int .i64 s1);refine((aa Z1) _).mono ?_;rintro e w' ⟨rfl,Uj⟩;subst Uj)|(go_at_call_of 186 (Value.int .i64 s2);refine((aa Z2) _).mono ?_;rintro e w' ⟨rfl,Uj⟩;subst Uj)|(go_at_call 138;refine((aa HM) _ ((aa TT) _ bem)).mono ?_;rintro e w' ⟨rfl,Uj⟩;subst Uj)|(go_at_call 185;refine((aa HW) _).mono ?_;rintro e w' ⟨s,yh,A',cap',l',rfl,hf,hb⟩;have hbw:=cz (w:=W0) bem hb;obtain⟨hc,hfz⟩:=fq hbw))
  have hblk:w'.heap[w.heap.size+1+1]? = some (.cells #[.int .i64 0,.bool false,.slice none 0 0] 77 (0,0)):=(hbw.block _ q2).trans N3.out;have lu:=bg hblk;have lh:Below w.heap.size w w':=az hw0 hbw;clear hblk;go_wp2_with fail;exact bodyPost_ret (v := .agg #[.int .i64 s,.bool yh,.slice A' l'.length cap']) (by simp[results,results164,go_sem,hc,k7,k8,k9,q2]) rfl
   ⟨s,yh,A',cap',l',rfl,hf.upto lu.out (Bd _ _ _ _ _) (jq _ _ _ _ _),lh.grown (jq _ _ _ _ _) lh.size (fun k hk=>by injection hk with hk;omega)⟩
 ·
  by_cases a1:l1.length=0
  ·
   have a2 : ¬ l2.length=0:=fun h=>hs ⟨a1,h⟩
   rw[dm a1]at zf;rw[dw a2]at HS2;clear hsz1 hsz2 hs a1 a2
   go_enter func164,ntmps164
   go_wp2_with fail;obtain⟨n1,n2,n3,hsz,hw0⟩:=wm w (.cells #[.int .i64 s1,.bool ek,.slice A1 l1.length c1] 77) (.cells #[.int .i64 s2,.bool di,.slice A2 l2.length c2] 77) (.cells #[.int .i64 0,.bool false,.slice none 0 0] 77);generalize (((w.alloc (.cells #[.int .i64 s1,.bool ek,.slice A1 l1.length c1] 77)).alloc (.cells #[.int .i64 s2,.bool di,.slice A2 l2.length c2] 77)).alloc (.cells #[.int .i64 0,.bool false,.slice none 0 0] 77))=W0 at *;have k1:=ag n1 0;have k2:=ag n1 1;have k3:=ag n1 2;simp only[wh,nk,ni,mq]at k1 k2 k3;have k4:=ag n2 0;have k5:=ag n2 1;have k6:=ag n2 2;simp only[wh,nk,ni,mq]at k4 k5 k6;have q0:w.heap.size<W0.heap.size:=by omega
   have q1:w.heap.size+1<W0.heap.size:=by omega
   have q2:w.heap.size+1+1<W0.heap.size:=by omega
   have k7:=ag n3 0;have k8:=ag n3 1;have k9:=ag n3 2;simp only[wh,nk,ni,mq]at k7 k8 k9;have f7:=ah n3 0;have f8:=ah n3 1;have f9:=ah n3 2;have N3:=bg n3;clear n3;clear n1 n2;have B1:=(aa HB1) W0 hw0;have B2:=(aa HB2) W0 hw0;have TT:=(aa HTT) W0 hw0;refine((aa zf) _).mono ?_
   rintro e w1 ⟨rfl,hw1⟩;have Br:=tu (w:=W0) bem hw1;obtain⟨hc,hfz⟩:=fq Br;clear hw1;go_wp2_with fail;refine((aa HS2) _).mono ?_
   rintro e w2 ⟨rfl,hw2⟩;have hbw2:=tu (w:=W0) bem hw2;obtain⟨hc,hfz⟩:=fq hbw2;clear hw2;go_wp2_with fail
   go_region_held3 (fun w'=>w'.cell? ⟨w.heap.size,0,none⟩=some (.int .i64 s1)∧w'.cell? ⟨w.heap.size,1,none⟩=some (.bool ek)∧w'.cell? ⟨w.heap.size,2,none⟩=some (.slice A1 l1.length c1)∧w'.cell? ⟨w.heap.size+1,0,none⟩=some (.int .i64 s2)∧w'.cell? ⟨w.heap.size+1,1,none⟩=some (.bool di)∧w'.cell? ⟨w.heap.size+1,2,none⟩=some (.slice A2 l2.length c2)) ((first|with_reducible exact⟨(hc _ _ q0).trans k1,(hc _ _ q0).trans k2,(hc _ _ q0).trans k3,(hc _ _ q1).trans k4,(hc _ _ q1).trans k5,(hc _ _ q1).trans k6⟩|with_reducible exact⟨k1,k2,k3,k4,k5,k6⟩|with_reducible exact⟨(jc _ _ _ _ _ om).trans ((hc _ _ q0).trans k1),(jc _ _ _ _ _ om).trans ((hc _ _ q0).trans k2),(jc _ _ _ _ _ om).trans ((hc _ _ q0).trans k3),(jc _ _ _ _ _ om).trans ((hc _ _ q1).trans k4),(jc _ _ _ _ _ om).trans ((hc _ _ q1).trans k5),(jc _ _ _ _ _ om).trans ((hc _ _ q1).trans k6)⟩|exact⟨(hc _ _ q0).trans k1,(hc _ _ q0).trans k2,(hc _ _ q0).trans k3,(hc _ _ q1).trans k4,(hc _ _ q1).trans k5,(hc _ _ q1).trans k6⟩|exact⟨k1,k2,k3,k4,k5,k6⟩)) (first|(go_at_call_of 191 (Value.agg #[.int .i64 s1,.bool ek,.slice A1 l1.length c1]);refine((aa B1) _ bem).mono ?_;rintro e w' ⟨A5,cap5,l5,rfl,Dv,hb⟩;have hbw:=cz (w:=W0) bem hb;obtain⟨hc,hfz⟩:=fq hbw)|(go_at_call_of 191 (Value.agg #[.int .i64 s2,.bool di,.slice A2 l2.length c2]);refine((aa B2) _ bem).mono ?_;rintro e w' ⟨A6,cap6,l6,rfl,uu,hb⟩;have oz:=Dv.below hb;have hbw:=cz (w:=W0) bem hb;obtain⟨hc,hfz⟩:=fq hbw)|(go_at_call 200;refine(bdd A5 A6 cap5 cap6 l5 l6 m1 m2 _ (by exact oz) (by exact uu) ((aa TT) _ bem) ((aa HLEN) _ _ _ _ () oz).1 ((aa Kb) _ _ _ _ () uu).1).mono ?_;rintro e w' ⟨A7,Dw,l7,rfl,Du,hb⟩;have hbw:=cz (w:=W0) bem hb;obtain⟨hc,hfz⟩:=fq hbw)|(go_at_call 190;refine(Et false A7 Dw l7 (m1.gcd m2) _ (by exact Du)).mono ?_;rw[if_neg agr];rintro e w' ⟨s,yh,A',cap',l',rfl,hf,hb⟩;have hbw:=cz (w:=W0) bem hb;obtain⟨hc,hfz⟩:=fq hbw))
   have hblk:w'.heap[w.heap.size+1+1]? = some (.cells #[.int .i64 0,.bool false,.slice none 0 0] 77 (0,0)):=(hbw.block _ q2).trans N3.out;have lu:=bg hblk;have lh:Below w.heap.size w w':=az hw0 hbw;clear hblk;go_wp2_with fail;exact bodyPost_ret (v := .agg #[.int .i64 s,.bool yh,.slice A' l'.length cap']) (by simp[results,results164,go_sem,hc,k7,k8,k9,q2]) rfl
    ⟨s,yh,A',cap',l',rfl,hf.upto lu.out (Bd _ _ _ _ _) (jq _ _ _ _ _),lh.grown (jq _ _ _ _ _) lh.size (fun k hk=>by injection hk with hk;omega)⟩
  ·
   skip
   rw[dw a1]at zf;clear hsz1 hsz2 hs a1
   go_enter func164,ntmps164
   go_wp2_with fail;obtain⟨n1,n2,n3,hsz,hw0⟩:=wm w (.cells #[.int .i64 s1,.bool ek,.slice A1 l1.length c1] 77) (.cells #[.int .i64 s2,.bool di,.slice A2 l2.length c2] 77) (.cells #[.int .i64 0,.bool false,.slice none 0 0] 77);generalize (((w.alloc (.cells #[.int .i64 s1,.bool ek,.slice A1 l1.length c1] 77)).alloc (.cells #[.int .i64 s2,.bool di,.slice A2 l2.length c2] 77)).alloc (.cells #[.int .i64 0,.bool false,.slice none 0 0] 77))=W0 at *;have k1:=ag n1 0;have k2:=ag n1 1;have k3:=ag n1 2;simp only[wh,nk,ni,mq]at k1 k2 k3;have k4:=ag n2 0;have k5:=ag n2 1;have k6:=ag n2 2;simp only[wh,nk,ni,mq]at k4 k5 k6;have q0:w.heap.size<W0.heap.size:=by omega
   have q1:w.heap.size+1<W0.heap.size:=by omega
   have q2:w.heap.size+1+1<W0.heap.size:=by omega
   have k7:=ag n3 0;have k8:=ag n3 1;have k9:=ag n3 2;simp only[wh,nk,ni,mq]at k7 k8 k9;have f7:=ah n3 0;have f8:=ah n3 1;have f9:=ah n3 2;have N3:=bg n3;clear n3;clear n1 n2;have B1:=(aa HB1) W0 hw0;have B2:=(aa HB2) W0 hw0;have TT:=(aa HTT) W0 hw0;refine((aa zf) _).mono ?_
   rintro e w1 ⟨rfl,hw1⟩;have Br:=tu (w:=W0) bem hw1;obtain⟨hc,hfz⟩:=fq Br;clear hw1;go_wp2_with fail
   go_region_held3 (fun w'=>w'.cell? ⟨w.heap.size,0,none⟩=some (.int .i64 s1)∧w'.cell? ⟨w.heap.size,1,none⟩=some (.bool ek)∧w'.cell? ⟨w.heap.size,2,none⟩=some (.slice A1 l1.length c1)∧w'.cell? ⟨w.heap.size+1,0,none⟩=some (.int .i64 s2)∧w'.cell? ⟨w.heap.size+1,1,none⟩=some (.bool di)∧w'.cell? ⟨w.heap.size+1,2,none⟩=some (.slice A2 l2.length c2)) ((first|with_reducible exact⟨(hc _ _ q0).trans k1,(hc _ _ q0).trans k2,(hc _ _ q0).trans k3,(hc _ _ q1).trans k4,(hc _ _ q1).trans k5,(hc _ _ q1).trans k6⟩|with_reducible exact⟨k1,k2,k3,k4,k5,k6⟩|with_reducible exact⟨(jc _ _ _ _ _ om).trans ((hc _ _ q0).trans k1),(jc _ _ _ _ _ om).trans ((hc _ _ q0).trans k2),(jc _ _ _ _ _ om).trans ((hc _ _ q0).trans k3),(jc _ _ _ _ _ om).trans ((hc _ _ q1).trans k4),(jc _ _ _ _ _ om).trans ((hc _ _ q1).trans k5),(jc _ _ _ _ _ om).trans ((hc _ _ q1).trans k6)⟩|exact⟨(hc _ _ q0).trans k1,(hc _ _ q0).trans k2,(hc _ _ q0).trans k3,(hc _ _ q1).trans k4,(hc _ _ q1).trans k5,(hc _ _ q1).trans k6⟩|exact⟨k1,k2,k3,k4,k5,k6⟩)) (first|(go_at_call_of 191 (Value.agg #[.int .i64 s1,.bool ek,.slice A1 l1.length c1]);refine((aa B1) _ bem).mono ?_;rintro e w' ⟨A5,cap5,l5,rfl,Dv,hb⟩;have hbw:=cz (w:=W0) bem hb;obtain⟨hc,hfz⟩:=fq hbw)|(go_at_call_of 191 (Value.agg #[.int .i64 s2,.bool di,.slice A2 l2.length c2]);refine((aa B2) _ bem).mono ?_;rintro e w' ⟨A6,cap6,l6,rfl,uu,hb⟩;have oz:=Dv.below hb;have hbw:=cz (w:=W0) bem hb;obtain⟨hc,hfz⟩:=fq hbw)|(go_at_call 200;refine(bdd A5 A6 cap5 cap6 l5 l6 m1 m2 _ (by exact oz) (by exact uu) ((aa TT) _ bem) ((aa HLEN) _ _ _ _ () oz).1 ((aa Kb) _ _ _ _ () uu).1).mono ?_;rintro e w' ⟨A7,Dw,l7,rfl,Du,hb⟩;have hbw:=cz (w:=W0) bem hb;obtain⟨hc,hfz⟩:=fq hbw)|(go_at_call 190;refine(Et false A7 Dw l7 (m1.gcd m2) _ (by exact Du)).mono ?_;rw[if_neg agr];rintro e w' ⟨s,yh,A',cap',l',rfl,hf,hb⟩;have hbw:=cz (w:=W0) bem hb;obtain⟨hc,hfz⟩:=fq hbw))
   have hblk:w'.heap[w.heap.size+1+1]? = some (.cells #[.int .i64 0,.bool false,.slice none 0 0] 77 (0,0)):=(hbw.block _ q2).trans N3.out;have lu:=bg hblk;have lh:Below w.heap.size w w':=az hw0 hbw;clear hblk;go_wp2_with fail;exact bodyPost_ret (v := .agg #[.int .i64 s,.bool yh,.slice A' l'.length cap']) (by simp[results,results164,go_sem,hc,k7,k8,k9,q2]) rfl
    ⟨s,yh,A',cap',l',rfl,hf.upto lu.out (Bd _ _ _ _ _) (jq _ _ _ _ _),lh.grown (jq _ _ _ _ _) lh.size (fun k hk=>by injection hk with hk;omega)⟩


theorem bhc (z1 z2:Int):(if decide (zm z1*zm z2<0)=true then -((z1.natAbs/z2.natAbs:Nat):Int)else((z1.natAbs/z2.natAbs:Nat):Int))=z1.tdiv z2:=by
 rcases amy z1 0 with a|a|a<;>rcases amy z2 0 with b|b|b
 all_goals
  first
   | (subst a;simp[zm])
   | (subst b;simp[zm])
   | skip
 all_goals
  simp only[zm,a,b,if_true,if_neg (Int.not_lt.2 (bao a)),if_neg (Int.not_lt.2 (bao b))]
 ·
  obtain⟨x,hx⟩ : ∃ x:Nat,z1 = -(x:Int):=⟨z1.natAbs,by omega⟩
  obtain⟨y,hy⟩ : ∃ y:Nat,z2 = -(y:Int):=⟨z2.natAbs,by omega⟩
  subst hx;subst hy;rw[adh,adh,Fq,Fq,Int.neg_tdiv,Int.tdiv_neg,Int.neg_neg];simp[Pb]
 ·
  obtain⟨x,hx⟩ : ∃ x:Nat,z1 = -(x:Int):=⟨z1.natAbs,by omega⟩
  obtain⟨y,hy⟩ : ∃ y:Nat,z2=(y:Int):=⟨z2.natAbs,by omega⟩
  subst hx;subst hy;rw[adh,Fq,Fq,Int.neg_tdiv];simp[Pb]
 ·
  obtain⟨x,hx⟩ : ∃ x:Nat,z1=(x:Int):=⟨z1.natAbs,by omega⟩
  obtain⟨y,hy⟩ : ∃ y:Nat,z2 = -(y:Int):=⟨z2.natAbs,by omega⟩
  subst hx;subst hy;rw[adh,Fq,Fq,Int.tdiv_neg];simp[Pb]
 ·
  obtain⟨x,hx⟩ : ∃ x:Nat,z1=(x:Int):=⟨z1.natAbs,by omega⟩
  obtain⟨y,hy⟩ : ∃ y:Nat,z2=(y:Int):=⟨z2.natAbs,by omega⟩
  subst hx;subst hy;rw[Fq,Fq];simp[Pb]

theorem bxd (s1:Int) (ek:Bool) (A1:Option Addr) (c1:Nat) (l1:List Nat) (z1:Int) (s2:Int) (di:Bool) (A2:Option Addr) (c2:Nat) (l2:List Nat) (z2:Int) (w:Wq)
  (h1:iy w s1 ek A1 c1 l1 z1) (h2:iy w s2 di A2 c2 l2 z2) (hl1:l1.length≤lim) (hl2:l2.length≤lim) (hz0:z2≠0) :
  Calls prog 165 #[.agg #[.int .i64 s1,.bool ek,.slice A1 l1.length c1],.agg #[.int .i64 s2,.bool di,.slice A2 l2.length c2]] w fun e w'=>Jy w (z1.tdiv z2) e w':=by
 have zf:=ae (fun W=>Aq s1 ek A1 c1 l1.length W)
 have HS2:=ae (fun W=>Aq s2 di A2 c2 l2.length W)
 have hz:=bhc z1 z2
 have LEN : ∀ (W:Wq) (A5:Option Addr) (c5:Nat) (l5:List Nat) (_:Unit),qf W A5 c5 l5 z1.natAbs→l5.length≤lim∧l5.length+1≤35184372088832:=fun _ _ _ _ _ g=>h1.Ui hl1 g
 have amk : ∀ (W:Wq) (A5:Option Addr) (c5:Nat) (l5:List Nat) (_:Unit),qf W A5 c5 l5 z2.natAbs→l5.length≤lim∧l5.length+1≤35184372088832:=fun _ _ _ _ _ g=>h2.Ui hl2 g
 have G1 : ∀ W0,Below w.heap.size w W0→Hid (∀ W,Below W0.heap.size W0 W→Calls prog 159 #[.agg #[.int .i64 s1,.bool ek,.slice A1 l1.length c1]] W fun e w'=>e = .returned (.int .i64 (zm z1))∧Below W.heap.size W w'):=fun W0 h0 W hW=>Gt s1 ek A1 c1 l1 z1 W (iy.below h1 (az h0 hW))
 have G2 : ∀ W0,Below w.heap.size w W0→Hid (∀ W,Below W0.heap.size W0 W→Calls prog 159 #[.agg #[.int .i64 s2,.bool di,.slice A2 l2.length c2]] W fun e w'=>e = .returned (.int .i64 (zm z2))∧Below W.heap.size W w'):=fun W0 h0 W hW=>Gt s2 di A2 c2 l2 z2 W (iy.below h2 (az h0 hW))
 have B1 : ∀ W0,Below w.heap.size w W0→Hid (∀ W,Below W0.heap.size W0 W→Calls prog 191 #[.agg #[.int .i64 s1,.bool ek,.slice A1 l1.length c1]] W fun e w'=>Qn W z1.natAbs e w'):=fun W0 h0 W hW=>Oq s1 ek A1 c1 l1 z1 W (iy.below h1 (az h0 hW))
 have B2 : ∀ W0,Below w.heap.size w W0→Hid (∀ W,Below W0.heap.size W0 W→Calls prog 191 #[.agg #[.int .i64 s2,.bool di,.slice A2 l2.length c2]] W fun e w'=>Qn W z2.natAbs e w'):=fun W0 h0 W hW=>Oq s2 di A2 c2 l2 z2 W (iy.below h2 (az h0 hW))
 have ho1 : -1≤zm z1*zm z2∧zm z1*zm z2≤1:=by unfold zm;(repeat' split)<;>omega
 have hsz1:l1.length=0→s1=z1∧z1.natAbs<We:=fun h=>by obtain⟨e,_,e3⟩:=h1.Io h;exact⟨e,e3⟩
 have hsz2:l2.length=0→s2=z2∧z2.natAbs<We:=fun h=>by obtain⟨e,_,e3⟩:=h2.Io h;exact⟨e,e3⟩
 have bna:0<z2.natAbs:=by omega
 by_cases hs:l1.length=0∧l2.length=0
 ·
  obtain⟨a1,a2⟩:=hs;rw[dm a1]at zf;rw[dm a2]at HS2;obtain⟨y1,y2⟩:=hsz1 a1;obtain⟨y3,y4⟩:=hsz2 a2;subst y1;subst y3;have hq:(s1.tdiv s2).natAbs<We:=by rw[Int.natAbs_tdiv];exact Dm (Yg _ _) y2
  have eq:IntKind.i64.wrap (s1.tdiv s2)=s1.tdiv s2:=Es _ (by rw[Df]at hq;omega);have eq':wrap64 (s1.tdiv s2)=s1.tdiv s2:=Cs _ (by rw[Df]at hq;omega);have HQ:=ae hq;have b0:(s2==0)=false:=oo.2 hz0;clear hz LEN amk G1 G2 B1 B2 ho1 hsz1 hsz2 bna h1 h2 hl1 hl2 a1 a2 y2 y4 hq
  go_enter func165,ntmps165
  go_wp2_with fail;obtain⟨n1,n2,n3,hsz,hw0⟩:=wm w (.cells #[.int .i64 s1,.bool ek,.slice A1 l1.length c1] 77) (.cells #[.int .i64 s2,.bool di,.slice A2 l2.length c2] 77) (.cells #[.int .i64 0,.bool false,.slice none 0 0] 77);generalize (((w.alloc (.cells #[.int .i64 s1,.bool ek,.slice A1 l1.length c1] 77)).alloc (.cells #[.int .i64 s2,.bool di,.slice A2 l2.length c2] 77)).alloc (.cells #[.int .i64 0,.bool false,.slice none 0 0] 77))=W0 at *;have k1:=ag n1 0;have k2:=ag n1 1;have k3:=ag n1 2;simp only[wh,nk,ni,mq]at k1 k2 k3;have k4:=ag n2 0;have k5:=ag n2 1;have k6:=ag n2 2;simp only[wh,nk,ni,mq]at k4 k5 k6;have q0:w.heap.size<W0.heap.size:=by omega
  have q1:w.heap.size+1<W0.heap.size:=by omega
  have q2:w.heap.size+1+1<W0.heap.size:=by omega
  have k7:=ag n3 0;have k8:=ag n3 1;have k9:=ag n3 2;simp only[wh,nk,ni,mq]at k7 k8 k9;have f7:=ah n3 0;have f8:=ah n3 1;have f9:=ah n3 2;have N3:=bg n3;clear n3;clear n1 n2;refine((aa zf) _).mono ?_
  rintro e w1 ⟨rfl,hw1⟩;have Br:=tu (w:=W0) bem hw1;obtain⟨hc,hfz⟩:=fq Br;clear hw1;go_wp2_with fail;refine((aa HS2) _).mono ?_
  rintro e w2 ⟨rfl,hw2⟩;have hbw2:=tu (w:=W0) bem hw2;obtain⟨hc,hfz⟩:=fq hbw2;clear hw2;go_wp2_with fail;refine bodyPost_ret (v := .agg #[.int .i64 (s1.tdiv s2),.bool false,.slice none 0 0]) (by simp[results,results165,go_sem,hc,k7,k8,k9,q2]) rfl ⟨s1.tdiv s2,false,none,0,[],rfl,iy.small (aa HQ),?_⟩
  have lh:Below w.heap.size w w2:=az hw0 hbw2;exact lh.grown (jq _ _ _ _ _) lh.size (fun k hk=>by injection hk with hk;omega)
 ·
  
  obtain⟨m1,hm1⟩ : ∃ o,o=z1.natAbs:=⟨_,rfl⟩
  obtain⟨m2,hm2⟩ : ∃ o,o=z2.natAbs:=⟨_,rfl⟩
  obtain⟨o1,beh⟩ : ∃ o,o=zm z1:=⟨_,rfl⟩
  obtain⟨o2,beg⟩ : ∃ o,o=zm z2:=⟨_,rfl⟩
  rw[← hm1]at B1 LEN hz;rw[← hm2]at B2 amk hz bna;rw[← beh]at G1 hz ho1;rw[← beg]at G2 hz ho1;obtain⟨op,hop⟩ : ∃ o,o=o1*o2:=⟨_,rfl⟩
  have e1:IntKind.i64.wrap (o1*o2)=op:=by rw[hop];exact Es _ om
  have e1':wrap64 (o1*o2)=op:=by rw[hop];exact Cs _ om
  rw[← hop]at hz;obtain⟨ng,hng⟩ : ∃ b,b=decide (op<0):=⟨_,rfl⟩
  rw[← hng]at hz;obtain⟨Z,hZ⟩ : ∃ o,o=z1.tdiv z2:=⟨_,rfl⟩
  rw[← hZ]at hz ⊢;have HZ:=bg hz.symm;have Ki:=ae G1;have HG2:=ae G2;have HB1:=ae B1;have HB2:=ae B2;have HLEN:=ae LEN;have Kb:=ae amk;have ngE:=hng.symm;clear hm1 hm2 beh beg ho1 hop hng hz hZ G1 G2 B1 B2 h1 h2 LEN amk hl1 hl2 hz0
  by_cases a1:l1.length=0
  ·
   have a2 : ¬ l2.length=0:=fun h=>hs ⟨a1,h⟩
   rw[dm a1]at zf;rw[dw a2]at HS2;clear hsz1 hsz2 hs a1 a2
   go_enter func165,ntmps165
   go_wp2_with fail;obtain⟨n1,n2,n3,hsz,hw0⟩:=wm w (.cells #[.int .i64 s1,.bool ek,.slice A1 l1.length c1] 77) (.cells #[.int .i64 s2,.bool di,.slice A2 l2.length c2] 77) (.cells #[.int .i64 0,.bool false,.slice none 0 0] 77);generalize (((w.alloc (.cells #[.int .i64 s1,.bool ek,.slice A1 l1.length c1] 77)).alloc (.cells #[.int .i64 s2,.bool di,.slice A2 l2.length c2] 77)).alloc (.cells #[.int .i64 0,.bool false,.slice none 0 0] 77))=W0 at *;have k1:=ag n1 0;have k2:=ag n1 1;have k3:=ag n1 2;simp only[wh,nk,ni,mq]at k1 k2 k3;have k4:=ag n2 0;have k5:=ag n2 1;have k6:=ag n2 2;simp only[wh,nk,ni,mq]at k4 k5 k6;have q0:w.heap.size<W0.heap.size:=by omega
   have q1:w.heap.size+1<W0.heap.size:=by omega
   have q2:w.heap.size+1+1<W0.heap.size:=by omega
   have k7:=ag n3 0;have k8:=ag n3 1;have k9:=ag n3 2;simp only[wh,nk,ni,mq]at k7 k8 k9;have f7:=ah n3 0;have f8:=ah n3 1;have f9:=ah n3 2;have N3:=bg n3;clear n3;clear n1 n2;have G1:=(aa Ki) W0 hw0;have G2:=(aa HG2) W0 hw0;have B1:=(aa HB1) W0 hw0;have B2:=(aa HB2) W0 hw0;refine((aa zf) _).mono ?_
   rintro e w1 ⟨rfl,hw1⟩;have Br:=tu (w:=W0) bem hw1;obtain⟨hc,hfz⟩:=fq Br;clear hw1;go_wp2_with fail;refine((aa HS2) _).mono ?_
   rintro e w2 ⟨rfl,hw2⟩;have hbw2:=tu (w:=W0) bem hw2;obtain⟨hc,hfz⟩:=fq hbw2;clear hw2;go_wp2_with fail
   go_region_with (first|(go_at_call_of 191 (Value.agg #[.int .i64 s1,.bool ek,.slice A1 l1.length c1]);refine((aa B1) _ bem).mono ?_;rintro e w' ⟨A5,cap5,l5,rfl,Dv,hb⟩;have hbw:=cz (w:=W0) bem hb;obtain⟨hc,hfz⟩:=fq hbw)|(go_at_call_of 191 (Value.agg #[.int .i64 s2,.bool di,.slice A2 l2.length c2]);refine((aa B2) _ bem).mono ?_;rintro e w' ⟨A6,cap6,l6,rfl,uu,hb⟩;have oz:=Dv.below hb;have hbw:=cz (w:=W0) bem hb;obtain⟨hc,hfz⟩:=fq hbw)|(go_at_call 201;refine(awr A5 A6 cap5 cap6 l5 l6 m1 m2 _ (by exact oz) (by exact uu) bna ((aa HLEN) _ _ _ _ () oz).2 ((aa Kb) _ _ _ _ () uu).2).mono ?_;rintro e w' ⟨A7,Dw,l7,A8,csp,l8,rfl,Du,hn8,hb⟩;have hbw:=cz (w:=W0) bem hb;obtain⟨hc,hfz⟩:=fq hbw))
   all_goals
    go_wp2_with fail
    go_region_with (first|(go_at_call_of 159 (Value.agg #[.int .i64 s1,.bool ek,.slice A1 l1.length c1]);refine((aa G1) _ bem).mono ?_;rintro e w' ⟨rfl,hb⟩;have Du:qf w' A7 Dw l7 (m1/m2):=(by first|exact Du.below hb|exact qf.below (qf.drew Du) hb|exact qf.below (w:=World.drew _) Du hb);have hbw:=cz (w:=W0) bem hb;obtain⟨hc,hfz⟩:=fq hbw)|(go_at_call_of 159 (Value.agg #[.int .i64 s2,.bool di,.slice A2 l2.length c2]);refine((aa G2) _ bem).mono ?_;rintro e w' ⟨rfl,hb⟩;have Du:qf w' A7 Dw l7 (m1/m2):=(by first|exact Du.below hb|exact qf.below (qf.drew Du) hb|exact qf.below (w:=World.drew _) Du hb);have hbw:=cz (w:=W0) bem hb;obtain⟨hc,hfz⟩:=fq hbw)|(go_at_call 190;refine(Et ng A7 Dw l7 (m1/m2) _ (by exact Du)).mono ?_;rw[← HZ.out];rintro e w' ⟨s,yh,A',cap',l',rfl,hf,hb⟩;have hbw:=cz (w:=W0) bem hb;obtain⟨hc,hfz⟩:=fq hbw))
    all_goals
     have hblk:w'.heap[w.heap.size+1+1]? = some (.cells #[.int .i64 0,.bool false,.slice none 0 0] 77 (0,0)):=(hbw.block _ q2).trans N3.out;have lu:=bg hblk;have lh:Below w.heap.size w w':=az hw0 hbw;clear hblk;go_wp2_with fail;exact bodyPost_ret (v := .agg #[.int .i64 s,.bool yh,.slice A' l'.length cap']) (by simp[results,results165,go_sem,hc,k7,k8,k9,q2]) rfl
      ⟨s,yh,A',cap',l',rfl,hf.upto lu.out (Bd _ _ _ _ _) (jq _ _ _ _ _),lh.grown (jq _ _ _ _ _) lh.size (fun k hk=>by injection hk with hk;omega)⟩
  ·
   skip
   rw[dw a1]at zf;clear hsz1 hsz2 hs a1
   go_enter func165,ntmps165
   go_wp2_with fail;obtain⟨n1,n2,n3,hsz,hw0⟩:=wm w (.cells #[.int .i64 s1,.bool ek,.slice A1 l1.length c1] 77) (.cells #[.int .i64 s2,.bool di,.slice A2 l2.length c2] 77) (.cells #[.int .i64 0,.bool false,.slice none 0 0] 77);generalize (((w.alloc (.cells #[.int .i64 s1,.bool ek,.slice A1 l1.length c1] 77)).alloc (.cells #[.int .i64 s2,.bool di,.slice A2 l2.length c2] 77)).alloc (.cells #[.int .i64 0,.bool false,.slice none 0 0] 77))=W0 at *;have k1:=ag n1 0;have k2:=ag n1 1;have k3:=ag n1 2;simp only[wh,nk,ni,mq]at k1 k2 k3;have k4:=ag n2 0;have k5:=ag n2 1;have k6:=ag n2 2;simp only[wh,nk,ni,mq]at k4 k5 k6;have q0:w.heap.size<W0.heap.size:=by omega
   have q1:w.heap.size+1<W0.heap.size:=by omega
   have q2:w.heap.size+1+1<W0.heap.size:=by omega
   have k7:=ag n3 0;have k8:=ag n3 1;have k9:=ag n3 2;simp only[wh,nk,ni,mq]at k7 k8 k9;have f7:=ah n3 0;have f8:=ah n3 1;have f9:=ah n3 2;have N3:=bg n3;clear n3;clear n1 n2;have G1:=(aa Ki) W0 hw0;have G2:=(aa HG2) W0 hw0;have B1:=(aa HB1) W0 hw0;have B2:=(aa HB2) W0 hw0;refine((aa zf) _).mono ?_
   rintro e w1 ⟨rfl,hw1⟩;have Br:=tu (w:=W0) bem hw1;obtain⟨hc,hfz⟩:=fq Br;clear hw1;go_wp2_with fail
   go_region_with (first|(go_at_call_of 191 (Value.agg #[.int .i64 s1,.bool ek,.slice A1 l1.length c1]);refine((aa B1) _ bem).mono ?_;rintro e w' ⟨A5,cap5,l5,rfl,Dv,hb⟩;have hbw:=cz (w:=W0) bem hb;obtain⟨hc,hfz⟩:=fq hbw)|(go_at_call_of 191 (Value.agg #[.int .i64 s2,.bool di,.slice A2 l2.length c2]);refine((aa B2) _ bem).mono ?_;rintro e w' ⟨A6,cap6,l6,rfl,uu,hb⟩;have oz:=Dv.below hb;have hbw:=cz (w:=W0) bem hb;obtain⟨hc,hfz⟩:=fq hbw)|(go_at_call 201;refine(awr A5 A6 cap5 cap6 l5 l6 m1 m2 _ (by exact oz) (by exact uu) bna ((aa HLEN) _ _ _ _ () oz).2 ((aa Kb) _ _ _ _ () uu).2).mono ?_;rintro e w' ⟨A7,Dw,l7,A8,csp,l8,rfl,Du,hn8,hb⟩;have hbw:=cz (w:=W0) bem hb;obtain⟨hc,hfz⟩:=fq hbw))
   all_goals
    go_wp2_with fail
    go_region_with (first|(go_at_call_of 159 (Value.agg #[.int .i64 s1,.bool ek,.slice A1 l1.length c1]);refine((aa G1) _ bem).mono ?_;rintro e w' ⟨rfl,hb⟩;have Du:qf w' A7 Dw l7 (m1/m2):=(by first|exact Du.below hb|exact qf.below (qf.drew Du) hb|exact qf.below (w:=World.drew _) Du hb);have hbw:=cz (w:=W0) bem hb;obtain⟨hc,hfz⟩:=fq hbw)|(go_at_call_of 159 (Value.agg #[.int .i64 s2,.bool di,.slice A2 l2.length c2]);refine((aa G2) _ bem).mono ?_;rintro e w' ⟨rfl,hb⟩;have Du:qf w' A7 Dw l7 (m1/m2):=(by first|exact Du.below hb|exact qf.below (qf.drew Du) hb|exact qf.below (w:=World.drew _) Du hb);have hbw:=cz (w:=W0) bem hb;obtain⟨hc,hfz⟩:=fq hbw)|(go_at_call 190;refine(Et ng A7 Dw l7 (m1/m2) _ (by exact Du)).mono ?_;rw[← HZ.out];rintro e w' ⟨s,yh,A',cap',l',rfl,hf,hb⟩;have hbw:=cz (w:=W0) bem hb;obtain⟨hc,hfz⟩:=fq hbw))
    all_goals
     have hblk:w'.heap[w.heap.size+1+1]? = some (.cells #[.int .i64 0,.bool false,.slice none 0 0] 77 (0,0)):=(hbw.block _ q2).trans N3.out;have lu:=bg hblk;have lh:Below w.heap.size w w':=az hw0 hbw;clear hblk;go_wp2_with fail;exact bodyPost_ret (v := .agg #[.int .i64 s,.bool yh,.slice A' l'.length cap']) (by simp[results,results165,go_sem,hc,k7,k8,k9,q2]) rfl
      ⟨s,yh,A',cap',l',rfl,hf.upto lu.out (Bd _ _ _ _ _) (jq _ _ _ _ _),lh.grown (jq _ _ _ _ _) lh.size (fun k hk=>by injection hk with hk;omega)⟩


theorem bmt (s1:Int) (ek:Bool) (A1:Option Addr) (c1:Nat) (l1:List Nat) (z1:Int) (s2:Int) (di:Bool) (A2:Option Addr) (c2:Nat) (l2:List Nat) (z2:Int) (w:Wq)
  (h1:iy w s1 ek A1 c1 l1 z1) (h2:iy w s2 di A2 c2 l2 z2) (hl1:l1.length≤lim) (hl2:l2.length≤lim) (a1:l1.length=0) (a2:l2.length=0) (hz:(z1+z2).natAbs<We) :
  Calls prog 166 #[.agg #[.int .i64 s1,.bool ek,.slice A1 l1.length c1],.agg #[.int .i64 s2,.bool di,.slice A2 l2.length c2]] w fun e w'=>Jy w (z1+z2) e w':=by
 have zf:=ae (fun W=>Aq s1 ek A1 c1 l1.length W)
 have HS2:=ae (fun W=>Aq s2 di A2 c2 l2.length W)
 rw[dm a1]at zf
 rw[dm a2]at HS2
 obtain⟨e1,en1,b1⟩:=h1.Io a1
 obtain⟨e2,en2,b2⟩:=h2.Io a2
 clear en1 en2
 subst e1 e2
 obtain⟨Z,hZ⟩ : ∃ o,o=s1+s2:=⟨_,rfl⟩
 rw[← hZ]at hz ⊢
 rw[Df]at b1 b2
 have hz':=hz
 rw[Df]at hz'
 have w1:IntKind.i64.wrap (s1+s2)=Z:=by rw[hZ];exact Es _ om
 have w2:wrap64 (s1+s2)=Z:=by rw[hZ];exact Cs _ om
 have n1:(Z == -9223372036854775808)=false:=oo.2 om
 have n2:(Z != -9223372036854775808)=true:=by simp[bne,n1]
 have HZ:=ae hz
 by_cases hp:0<s2
 ·
  have d1:decide (s1<Z)=true:=dm om;have d2:decide (0<s2)=true:=dm hp;clear h1 h2 hl1 hl2 a1 a2 hz hz' hZ b1 b2 hp
  go_enter func166,ntmps166
  go_wp2_with fail;obtain⟨n1,n2,n3,hsz,hw0⟩:=wm w (.cells #[.int .i64 s1,.bool ek,.slice A1 l1.length c1] 77) (.cells #[.int .i64 s2,.bool di,.slice A2 l2.length c2] 77) (.cells #[.int .i64 0,.bool false,.slice none 0 0] 77);generalize (((w.alloc (.cells #[.int .i64 s1,.bool ek,.slice A1 l1.length c1] 77)).alloc (.cells #[.int .i64 s2,.bool di,.slice A2 l2.length c2] 77)).alloc (.cells #[.int .i64 0,.bool false,.slice none 0 0] 77))=W0 at *;have k1:=ag n1 0;have k2:=ag n1 1;have k3:=ag n1 2;simp only[wh,nk,ni,mq]at k1 k2 k3;have k4:=ag n2 0;have k5:=ag n2 1;have k6:=ag n2 2;simp only[wh,nk,ni,mq]at k4 k5 k6;have q0:w.heap.size<W0.heap.size:=by omega
  have q1:w.heap.size+1<W0.heap.size:=by omega
  have q2:w.heap.size+1+1<W0.heap.size:=by omega
  have k7:=ag n3 0;have k8:=ag n3 1;have k9:=ag n3 2;simp only[wh,nk,ni,mq]at k7 k8 k9;have f7:=ah n3 0;have f8:=ah n3 1;have f9:=ah n3 2;have N3:=bg n3;clear n3;clear n1 n2;refine((aa zf) _).mono ?_
  rintro e w1 ⟨rfl,hw1⟩;have Br:=tu (w:=W0) bem hw1;obtain⟨hc,hfz⟩:=fq Br;clear hw1;go_wp2_with fail;refine((aa HS2) _).mono ?_
  rintro e w2 ⟨rfl,hw2⟩;have hbw2:=tu (w:=W0) bem hw2;obtain⟨hc,hfz⟩:=fq hbw2;clear hw2;go_wp2_with fail;have hbw:Below W0.heap.size W0 w2:=by(first|assumption|(repeat (first|exact df _ _|assumption|refine ny ?_|(refine qz ?_ zx _))))
  have hblk:w2.heap[w.heap.size+1+1]? = some (.cells #[.int .i64 0,.bool false,.slice none 0 0] 77 (0,0)):=(hbw.block _ q2).trans N3.out;have lh:Below w.heap.size w w2:=az hw0 hbw;exact bodyPost_ret (v := .agg #[.int .i64 Z,.bool false,.slice none 0 0]) (by simp[results,results166,go_sem,hc,k7,k8,k9,q2]) rfl
   ⟨Z,false,none,0,[],rfl,iy.small (aa HZ),lh.grown (jq _ _ _ _ _) lh.size (fun k hk=>by injection hk with hk;omega)⟩
 ·
  have d1:decide (s1<Z)=false:=dw om;have d2:decide (0<s2)=false:=dw hp;clear h1 h2 hl1 hl2 a1 a2 hz hz' hZ b1 b2 hp
  go_enter func166,ntmps166
  go_wp2_with fail;obtain⟨n1,n2,n3,hsz,hw0⟩:=wm w (.cells #[.int .i64 s1,.bool ek,.slice A1 l1.length c1] 77) (.cells #[.int .i64 s2,.bool di,.slice A2 l2.length c2] 77) (.cells #[.int .i64 0,.bool false,.slice none 0 0] 77);generalize (((w.alloc (.cells #[.int .i64 s1,.bool ek,.slice A1 l1.length c1] 77)).alloc (.cells #[.int .i64 s2,.bool di,.slice A2 l2.length c2] 77)).alloc (.cells #[.int .i64 0,.bool false,.slice none 0 0] 77))=W0 at *;have k1:=ag n1 0;have k2:=ag n1 1;have k3:=ag n1 2;simp only[wh,nk,ni,mq]at k1 k2 k3;have k4:=ag n2 0;have k5:=ag n2 1;have k6:=ag n2 2;simp only[wh,nk,ni,mq]at k4 k5 k6;have q0:w.heap.size<W0.heap.size:=by omega
  have q1:w.heap.size+1<W0.heap.size:=by omega
  have q2:w.heap.size+1+1<W0.heap.size:=by omega
  have k7:=ag n3 0;have k8:=ag n3 1;have k9:=ag n3 2;simp only[wh,nk,ni,mq]at k7 k8 k9;have f7:=ah n3 0;have f8:=ah n3 1;have f9:=ah n3 2;have N3:=bg n3;clear n3;clear n1 n2;refine((aa zf) _).mono ?_
  rintro e w1 ⟨rfl,hw1⟩;have Br:=tu (w:=W0) bem hw1;obtain⟨hc,hfz⟩:=fq Br;clear hw1;go_wp2_with fail;refine((aa HS2) _).mono ?_
  rintro e w2 ⟨rfl,hw2⟩;have hbw2:=tu (w:=W0) bem hw2;obtain⟨hc,hfz⟩:=fq hbw2;clear hw2;go_wp2_with fail;have hbw:Below W0.heap.size W0 w2:=by(first|assumption|(repeat (first|exact df _ _|assumption|refine ny ?_|(refine qz ?_ zx _))))
  have hblk:w2.heap[w.heap.size+1+1]? = some (.cells #[.int .i64 0,.bool false,.slice none 0 0] 77 (0,0)):=(hbw.block _ q2).trans N3.out;have lh:Below w.heap.size w w2:=az hw0 hbw;exact bodyPost_ret (v := .agg #[.int .i64 Z,.bool false,.slice none 0 0]) (by simp[results,results166,go_sem,hc,k7,k8,k9,q2]) rfl
   ⟨Z,false,none,0,[],rfl,iy.small (aa HZ),lh.grown (jq _ _ _ _ _) lh.size (fun k hk=>by injection hk with hk;omega)⟩


theorem bsh (s1:Int) (ek:Bool) (A1:Option Addr) (c1:Nat) (l1:List Nat) (z1:Int) (s2:Int) (di:Bool) (A2:Option Addr) (c2:Nat) (l2:List Nat) (z2:Int) (w:Wq)
  (h1:iy w s1 ek A1 c1 l1 z1) (h2:iy w s2 di A2 c2 l2 z2) (hl1:l1.length≤lim) (hl2:l2.length≤lim) (a1:l1.length=0) (a2:l2.length=0) (hz:We≤(z1+z2).natAbs) :
  Calls prog 166 #[.agg #[.int .i64 s1,.bool ek,.slice A1 l1.length c1],.agg #[.int .i64 s2,.bool di,.slice A2 l2.length c2]] w fun e w'=>Jy w (z1+z2) e w':=by
 have HLEN:=ae (fun(W:Wq) (A5:Option Addr) (c5:Nat) (l5:List Nat) (_:Unit) (g:qf W A5 c5 l5 z1.natAbs)=>h1.Ui hl1 g)
 have Kb:=ae (fun(W:Wq) (A5:Option Addr) (c5:Nat) (l5:List Nat) (_:Unit) (g:qf W A5 c5 l5 z2.natAbs)=>h2.Ui hl2 g)
 have G1 : ∀ W0,Below w.heap.size w W0→Hid (∀ W,Below W0.heap.size W0 W→Calls prog 159 #[.agg #[.int .i64 s1,.bool ek,.slice A1 l1.length c1]] W fun e w'=>e = .returned (.int .i64 (zm z1))∧Below W.heap.size W w'):=fun W0 h0 W hW=>Gt s1 ek A1 c1 l1 z1 W (iy.below h1 (az h0 hW))
 have G2 : ∀ W0,Below w.heap.size w W0→Hid (∀ W,Below W0.heap.size W0 W→Calls prog 159 #[.agg #[.int .i64 s2,.bool di,.slice A2 l2.length c2]] W fun e w'=>e = .returned (.int .i64 (zm z2))∧Below W.heap.size W w'):=fun W0 h0 W hW=>Gt s2 di A2 c2 l2 z2 W (iy.below h2 (az h0 hW))
 have B1 : ∀ W0,Below w.heap.size w W0→Hid (∀ W,Below W0.heap.size W0 W→Calls prog 191 #[.agg #[.int .i64 s1,.bool ek,.slice A1 l1.length c1]] W fun e w'=>Qn W z1.natAbs e w'):=fun W0 h0 W hW=>Oq s1 ek A1 c1 l1 z1 W (iy.below h1 (az h0 hW))
 have B2 : ∀ W0,Below w.heap.size w W0→Hid (∀ W,Below W0.heap.size W0 W→Calls prog 191 #[.agg #[.int .i64 s2,.bool di,.slice A2 l2.length c2]] W fun e w'=>Qn W z2.natAbs e w'):=fun W0 h0 W hW=>Oq s2 di A2 c2 l2 z2 W (iy.below h2 (az h0 hW))
 obtain⟨m1,hm1⟩ : ∃ o,o=z1.natAbs:=⟨_,rfl⟩
 obtain⟨m2,hm2⟩ : ∃ o,o=z2.natAbs:=⟨_,rfl⟩
 obtain⟨o1,ho1⟩ : ∃ o,o=zm z1:=⟨_,rfl⟩
 obtain⟨o2,ho2⟩ : ∃ o,o=zm z2:=⟨_,rfl⟩
 obtain⟨Z,hZ⟩ : ∃ o,o=z1+z2:=⟨_,rfl⟩
 have hs1:(o1<0)↔z1<0:=by rw[ho1];exact Ub z1
 have hs2:(o2<0)↔z2<0:=by rw[ho2];exact Ub z2
 have zf:=ae (fun W=>Aq s1 ek A1 c1 l1.length W)
 have HS2:=ae (fun W=>Aq s2 di A2 c2 l2.length W)
 rw[← ho1]at G1
 rw[← ho2]at G2
 rw[← hm1]at B1 HLEN
 rw[← hm2]at B2 Kb
 rw[← hZ]
 have Ki:=ae G1;have HG2:=ae G2;have HB1:=ae B1;have HB2:=ae B2
 clear G1 G2 B1 B2
 rw[dm a1]at zf
 rw[dm a2]at HS2
 obtain⟨e1,en1,b1⟩:=h1.Io a1
 obtain⟨e2,en2,b2⟩:=h2.Io a2
 clear en1 en2
 subst e1 e2
 rw[Df]at b1 b2 hz
 obtain⟨T,hT⟩ : ∃ o,o=wrap64 (s1+s2):=⟨_,rfl⟩
 have w2:wrap64 (s1+s2)=T:=hT.symm
 have w1:IntKind.i64.wrap (s1+s2)=T:=by rw[hT];exact bai _
 have hT2:T=(s1+s2+9223372036854775808)%18446744073709551616-9223372036854775808:=by rw[hT,← bai];exact IntKind.wrap_i64 _
 by_cases hp:0<s2
 ·
  have d1:decide (s1<T)=false:=dw (by rw[hT2];omega);have d2:decide (0<s2)=true:=dm hp;have D1:decide (o1<0)=false:=dw (by rw[hs1];omega);have D2:decide (o2<0)=false:=dw (by rw[hs2];omega);have Sc:=ae (fun(W:Wq) (A:Option Addr) (c:Nat) (l:List Nat) (g:qf W A c l (m1+m2))=>(show Calls prog 190 #[.bool (false),.slice A l.length c] W fun e w'=>Jy W Z e w' by
   have:=Et (false) A c l (m1+m2) W g;rw[show(if (false)=true then -(((m1+m2):Nat):Int)else(((m1+m2):Nat):Int))=Z by rw[if_neg agr,hZ,hm1,hm2];omega]at this;exact this))
  clear h1 h2 hl1 hl2 a1 a2 hz hZ b1 b2 hp hm1 hm2 ho1 ho2 hs1 hs2 hT hT2
  go_enter func166,ntmps166
  go_wp2_with fail;obtain⟨n1,n2,n3,hsz,hw0⟩:=wm w (.cells #[.int .i64 s1,.bool ek,.slice A1 l1.length c1] 77) (.cells #[.int .i64 s2,.bool di,.slice A2 l2.length c2] 77) (.cells #[.int .i64 0,.bool false,.slice none 0 0] 77);generalize (((w.alloc (.cells #[.int .i64 s1,.bool ek,.slice A1 l1.length c1] 77)).alloc (.cells #[.int .i64 s2,.bool di,.slice A2 l2.length c2] 77)).alloc (.cells #[.int .i64 0,.bool false,.slice none 0 0] 77))=W0 at *;have k1:=ag n1 0;have k2:=ag n1 1;have k3:=ag n1 2;simp only[wh,nk,ni,mq]at k1 k2 k3;have k4:=ag n2 0;have k5:=ag n2 1;have k6:=ag n2 2;simp only[wh,nk,ni,mq]at k4 k5 k6;have q0:w.heap.size<W0.heap.size:=by omega
  have q1:w.heap.size+1<W0.heap.size:=by omega
  have q2:w.heap.size+1+1<W0.heap.size:=by omega
  have k7:=ag n3 0;have k8:=ag n3 1;have k9:=ag n3 2;simp only[wh,nk,ni,mq]at k7 k8 k9;have f7:=ah n3 0;have f8:=ah n3 1;have f9:=ah n3 2;have N3:=bg n3;clear n3;clear n1 n2;refine((aa zf) _).mono ?_
  rintro e w1 ⟨rfl,hw1⟩;have Br:=tu (w:=W0) bem hw1;obtain⟨hc,hfz⟩:=fq Br;clear hw1;go_wp2_with fail;refine((aa HS2) _).mono ?_
  rintro e w2 ⟨rfl,hw2⟩;have hbw2:=tu (w:=W0) bem hw2;obtain⟨hc,hfz⟩:=fq hbw2;clear hw2;go_wp2_with fail;have B1:=(aa HB1) W0 hw0;have B2:=(aa HB2) W0 hw0;have G1:=(aa Ki) W0 hw0;have G2:=(aa HG2) W0 hw0
  go_region_held3 (fun w'=>w'.cell? ⟨w.heap.size,0,none⟩=some (.int .i64 s1)∧w'.cell? ⟨w.heap.size,1,none⟩=some (.bool ek)∧w'.cell? ⟨w.heap.size,2,none⟩=some (.slice A1 l1.length c1)∧w'.cell? ⟨w.heap.size+1,0,none⟩=some (.int .i64 s2)∧w'.cell? ⟨w.heap.size+1,1,none⟩=some (.bool di)∧w'.cell? ⟨w.heap.size+1,2,none⟩=some (.slice A2 l2.length c2)) ((first|with_reducible exact⟨(hc _ _ q0).trans k1,(hc _ _ q0).trans k2,(hc _ _ q0).trans k3,(hc _ _ q1).trans k4,(hc _ _ q1).trans k5,(hc _ _ q1).trans k6⟩|with_reducible exact⟨k1,k2,k3,k4,k5,k6⟩|with_reducible exact⟨(jc _ _ _ _ _ om).trans ((hc _ _ q0).trans k1),(jc _ _ _ _ _ om).trans ((hc _ _ q0).trans k2),(jc _ _ _ _ _ om).trans ((hc _ _ q0).trans k3),(jc _ _ _ _ _ om).trans ((hc _ _ q1).trans k4),(jc _ _ _ _ _ om).trans ((hc _ _ q1).trans k5),(jc _ _ _ _ _ om).trans ((hc _ _ q1).trans k6)⟩|exact⟨(hc _ _ q0).trans k1,(hc _ _ q0).trans k2,(hc _ _ q0).trans k3,(hc _ _ q1).trans k4,(hc _ _ q1).trans k5,(hc _ _ q1).trans k6⟩|exact⟨k1,k2,k3,k4,k5,k6⟩)) (first|(go_at_call_of 191 (Value.agg #[.int .i64 s1,.bool ek,.slice A1 l1.length c1]);refine((aa B1) _ bem).mono ?_;rintro e w' ⟨A5,cap5,l5,rfl,Dv,hb⟩;have hbw:=cz (w:=W0) bem hb;obtain⟨hc,hfz⟩:=fq hbw)|(go_at_call_of 191 (Value.agg #[.int .i64 s2,.bool di,.slice A2 l2.length c2]);refine((aa B2) _ bem).mono ?_;rintro e w' ⟨A6,cap6,l6,rfl,uu,hb⟩;have oz:=Dv.below hb;have hbw:=cz (w:=W0) bem hb;obtain⟨hc,hfz⟩:=fq hbw))
  go_wp2_with fail;refine((aa G1) _ bem).mono ?_
  rintro e w6 ⟨rfl,hb⟩;replace oz:=oz.below hb;replace uu:=uu.below hb;have hbw:=cz (w:=W0) bem hb;obtain⟨hc,hfz⟩:=fq hbw;go_wp2_with fail;refine((aa G2) _ bem).mono ?_
  rintro e w7 ⟨rfl,hb⟩;replace oz:=oz.below hb;replace uu:=uu.below hb;have hbw:=cz (w:=W0) bem hb;obtain⟨hc,hfz⟩:=fq hbw;go_wp2_with fail;refine(afv A5 A6 cap5 cap6 l5 l6 m1 m2 _ (by exact oz) (by exact uu) ((aa HLEN) _ _ _ _ () oz).1 ((aa Kb) _ _ _ _ () uu).1).mono ?_
  rintro e w8 ⟨A7,Dw,l7,rfl,Du,hb⟩;have hbw:=cz (w:=W0) bem hb;obtain⟨hc,hfz⟩:=fq hbw;go_wp2_with fail;refine((aa Sc) _ A7 Dw l7 Du).mono ?_
  rintro e w' ⟨s,yh,A',cap',l',rfl,hf,hb⟩;have hbw:=cz (w:=W0) bem hb;obtain⟨hc,hfz⟩:=fq hbw;have hblk:w'.heap[w.heap.size+1+1]? = some (.cells #[.int .i64 0,.bool false,.slice none 0 0] 77 (0,0)):=(hbw.block _ q2).trans N3.out;have lu:=bg hblk;have lh:Below w.heap.size w w':=az hw0 hbw;clear hblk;go_wp2_with fail;exact bodyPost_ret (v := .agg #[.int .i64 s,.bool yh,.slice A' l'.length cap']) (by simp[results,results166,go_sem,hc,k7,k8,k9,q2]) rfl
   ⟨s,yh,A',cap',l',rfl,hf.upto lu.out (Bd _ _ _ _ _) (jq _ _ _ _ _),lh.grown (jq _ _ _ _ _) lh.size (fun k hk=>by injection hk with hk;omega)⟩
 ·
  have d2:decide (0<s2)=false:=dw hp;have D1:decide (o1<0)=true:=dm (by rw[hs1];omega);have D2:decide (o2<0)=true:=dm (by rw[hs2];omega);have Sc:=ae (fun(W:Wq) (A:Option Addr) (c:Nat) (l:List Nat) (g:qf W A c l (m1+m2))=>(show Calls prog 190 #[.bool (true),.slice A l.length c] W fun e w'=>Jy W Z e w' by
   have:=Et (true) A c l (m1+m2) W g;rw[show(if (true)=true then -(((m1+m2):Nat):Int)else(((m1+m2):Nat):Int))=Z by rw[if_pos rfl,hZ,hm1,hm2];omega]at this;exact this))
  by_cases hq:s1<T
  ·
   have d1:decide (s1<T)=true:=dm hq;clear h1 h2 hl1 hl2 a1 a2 hz hZ b1 b2 hp hq hm1 hm2 ho1 ho2 hs1 hs2 hT hT2
   go_enter func166,ntmps166
   go_wp2_with fail;obtain⟨n1,n2,n3,hsz,hw0⟩:=wm w (.cells #[.int .i64 s1,.bool ek,.slice A1 l1.length c1] 77) (.cells #[.int .i64 s2,.bool di,.slice A2 l2.length c2] 77) (.cells #[.int .i64 0,.bool false,.slice none 0 0] 77);generalize (((w.alloc (.cells #[.int .i64 s1,.bool ek,.slice A1 l1.length c1] 77)).alloc (.cells #[.int .i64 s2,.bool di,.slice A2 l2.length c2] 77)).alloc (.cells #[.int .i64 0,.bool false,.slice none 0 0] 77))=W0 at *;have k1:=ag n1 0;have k2:=ag n1 1;have k3:=ag n1 2;simp only[wh,nk,ni,mq]at k1 k2 k3;have k4:=ag n2 0;have k5:=ag n2 1;have k6:=ag n2 2;simp only[wh,nk,ni,mq]at k4 k5 k6;have q0:w.heap.size<W0.heap.size:=by omega
   have q1:w.heap.size+1<W0.heap.size:=by omega
   have q2:w.heap.size+1+1<W0.heap.size:=by omega
   have k7:=ag n3 0;have k8:=ag n3 1;have k9:=ag n3 2;simp only[wh,nk,ni,mq]at k7 k8 k9;have f7:=ah n3 0;have f8:=ah n3 1;have f9:=ah n3 2;have N3:=bg n3;clear n3;clear n1 n2;refine((aa zf) _).mono ?_
   rintro e w1 ⟨rfl,hw1⟩;have Br:=tu (w:=W0) bem hw1;obtain⟨hc,hfz⟩:=fq Br;clear hw1;go_wp2_with fail;refine((aa HS2) _).mono ?_
   rintro e w2 ⟨rfl,hw2⟩;have hbw2:=tu (w:=W0) bem hw2;obtain⟨hc,hfz⟩:=fq hbw2;clear hw2;go_wp2_with fail;have B1:=(aa HB1) W0 hw0;have B2:=(aa HB2) W0 hw0;have G1:=(aa Ki) W0 hw0;have G2:=(aa HG2) W0 hw0
   go_region_held3 (fun w'=>w'.cell? ⟨w.heap.size,0,none⟩=some (.int .i64 s1)∧w'.cell? ⟨w.heap.size,1,none⟩=some (.bool ek)∧w'.cell? ⟨w.heap.size,2,none⟩=some (.slice A1 l1.length c1)∧w'.cell? ⟨w.heap.size+1,0,none⟩=some (.int .i64 s2)∧w'.cell? ⟨w.heap.size+1,1,none⟩=some (.bool di)∧w'.cell? ⟨w.heap.size+1,2,none⟩=some (.slice A2 l2.length c2)) ((first|with_reducible exact⟨(hc _ _ q0).trans k1,(hc _ _ q0).trans k2,(hc _ _ q0).trans k3,(hc _ _ q1).trans k4,(hc _ _ q1).trans k5,(hc _ _ q1).trans k6⟩|with_reducible exact⟨k1,k2,k3,k4,k5,k6⟩|with_reducible exact⟨(jc _ _ _ _ _ om).trans ((hc _ _ q0).trans k1),(jc _ _ _ _ _ om).trans ((hc _ _ q0).trans k2),(jc _ _ _ _ _ om).trans ((hc _ _ q0).trans k3),(jc _ _ _ _ _ om).trans ((hc _ _ q1).trans k4),(jc _ _ _ _ _ om).trans ((hc _ _ q1).trans k5),(jc _ _ _ _ _ om).trans ((hc _ _ q1).trans k6)⟩|exact⟨(hc _ _ q0).trans k1,(hc _ _ q0).trans k2,(hc _ _ q0).trans k3,(hc _ _ q1).trans k4,(hc _ _ q1).trans k5,(hc _ _ q1).trans k6⟩|exact⟨k1,k2,k3,k4,k5,k6⟩)) (first|(go_at_call_of 191 (Value.agg #[.int .i64 s1,.bool ek,.slice A1 l1.length c1]);refine((aa B1) _ bem).mono ?_;rintro e w' ⟨A5,cap5,l5,rfl,Dv,hb⟩;have hbw:=cz (w:=W0) bem hb;obtain⟨hc,hfz⟩:=fq hbw)|(go_at_call_of 191 (Value.agg #[.int .i64 s2,.bool di,.slice A2 l2.length c2]);refine((aa B2) _ bem).mono ?_;rintro e w' ⟨A6,cap6,l6,rfl,uu,hb⟩;have oz:=Dv.below hb;have hbw:=cz (w:=W0) bem hb;obtain⟨hc,hfz⟩:=fq hbw))
   go_wp2_with fail;refine((aa G1) _ bem).mono ?_
   rintro e w6 ⟨rfl,hb⟩;replace oz:=oz.below hb;replace uu:=uu.below hb;have hbw:=cz (w:=W0) bem hb;obtain⟨hc,hfz⟩:=fq hbw;go_wp2_with fail;refine((aa G2) _ bem).mono ?_
   rintro e w7 ⟨rfl,hb⟩;replace oz:=oz.below hb;replace uu:=uu.below hb;have hbw:=cz (w:=W0) bem hb;obtain⟨hc,hfz⟩:=fq hbw;go_wp2_with fail;refine(afv A5 A6 cap5 cap6 l5 l6 m1 m2 _ (by exact oz) (by exact uu) ((aa HLEN) _ _ _ _ () oz).1 ((aa Kb) _ _ _ _ () uu).1).mono ?_
   rintro e w8 ⟨A7,Dw,l7,rfl,Du,hb⟩;have hbw:=cz (w:=W0) bem hb;obtain⟨hc,hfz⟩:=fq hbw;go_wp2_with fail;refine((aa Sc) _ A7 Dw l7 Du).mono ?_
   rintro e w' ⟨s,yh,A',cap',l',rfl,hf,hb⟩;have hbw:=cz (w:=W0) bem hb;obtain⟨hc,hfz⟩:=fq hbw;have hblk:w'.heap[w.heap.size+1+1]? = some (.cells #[.int .i64 0,.bool false,.slice none 0 0] 77 (0,0)):=(hbw.block _ q2).trans N3.out;have lu:=bg hblk;have lh:Below w.heap.size w w':=az hw0 hbw;clear hblk;go_wp2_with fail;exact bodyPost_ret (v := .agg #[.int .i64 s,.bool yh,.slice A' l'.length cap']) (by simp[results,results166,go_sem,hc,k7,k8,k9,q2]) rfl
    ⟨s,yh,A',cap',l',rfl,hf.upto lu.out (Bd _ _ _ _ _) (jq _ _ _ _ _),lh.grown (jq _ _ _ _ _) lh.size (fun k hk=>by injection hk with hk;omega)⟩
  ·
   have d1:decide (s1<T)=false:=dw hq;have n1:(T == -9223372036854775808)=true:=Iw.2 (by rw[hT2]at hq ⊢;omega);have n2:(T != -9223372036854775808)=false:=by simp[bne,n1]
   clear h1 h2 hl1 hl2 a1 a2 hz hZ b1 b2 hp hq hm1 hm2 ho1 ho2 hs1 hs2 hT hT2
   go_enter func166,ntmps166
   go_wp2_with fail;obtain⟨n1,n2,n3,hsz,hw0⟩:=wm w (.cells #[.int .i64 s1,.bool ek,.slice A1 l1.length c1] 77) (.cells #[.int .i64 s2,.bool di,.slice A2 l2.length c2] 77) (.cells #[.int .i64 0,.bool false,.slice none 0 0] 77);generalize (((w.alloc (.cells #[.int .i64 s1,.bool ek,.slice A1 l1.length c1] 77)).alloc (.cells #[.int .i64 s2,.bool di,.slice A2 l2.length c2] 77)).alloc (.cells #[.int .i64 0,.bool false,.slice none 0 0] 77))=W0 at *;have k1:=ag n1 0;have k2:=ag n1 1;have k3:=ag n1 2;simp only[wh,nk,ni,mq]at k1 k2 k3;have k4:=ag n2 0;have k5:=ag n2 1;have k6:=ag n2 2;simp only[wh,nk,ni,mq]at k4 k5 k6;have q0:w.heap.size<W0.heap.size:=by omega
   have q1:w.heap.size+1<W0.heap.size:=by omega
   have q2:w.heap.size+1+1<W0.heap.size:=by omega
   have k7:=ag n3 0;have k8:=ag n3 1;have k9:=ag n3 2;simp only[wh,nk,ni,mq]at k7 k8 k9;have f7:=ah n3 0;have f8:=ah n3 1;have f9:=ah n3 2;have N3:=bg n3;clear n3;clear n1 n2;refine((aa zf) _).mono ?_
   rintro e w1 ⟨rfl,hw1⟩;have Br:=tu (w:=W0) bem hw1;obtain⟨hc,hfz⟩:=fq Br;clear hw1;go_wp2_with fail;refine((aa HS2) _).mono ?_
   rintro e w2 ⟨rfl,hw2⟩;have hbw2:=tu (w:=W0) bem hw2;obtain⟨hc,hfz⟩:=fq hbw2;clear hw2;go_wp2_with fail;have B1:=(aa HB1) W0 hw0;have B2:=(aa HB2) W0 hw0;have G1:=(aa Ki) W0 hw0;have G2:=(aa HG2) W0 hw0
   go_region_held3 (fun w'=>w'.cell? ⟨w.heap.size,0,none⟩=some (.int .i64 s1)∧w'.cell? ⟨w.heap.size,1,none⟩=some (.bool ek)∧w'.cell? ⟨w.heap.size,2,none⟩=some (.slice A1 l1.length c1)∧w'.cell? ⟨w.heap.size+1,0,none⟩=some (.int .i64 s2)∧w'.cell? ⟨w.heap.size+1,1,none⟩=some (.bool di)∧w'.cell? ⟨w.heap.size+1,2,none⟩=some (.slice A2 l2.length c2)) ((first|with_reducible exact⟨(hc _ _ q0).trans k1,(hc _ _ q0).trans k2,(hc _ _ q0).trans k3,(hc _ _ q1).trans k4,(hc _ _ q1).trans k5,(hc _ _ q1).trans k6⟩|with_reducible exact⟨k1,k2,k3,k4,k5,k6⟩|with_reducible exact⟨(jc _ _ _ _ _ om).trans ((hc _ _ q0).trans k1),(jc _ _ _ _ _ om).trans ((hc _ _ q0).trans k2),(jc _ _ _ _ _ om).trans ((hc _ _ q0).trans k3),(jc _ _ _ _ _ om).trans ((hc _ _ q1).trans k4),(jc _ _ _ _ _ om).trans ((hc _ _ q1).trans k5),(jc _ _ _ _ _ om).trans ((hc _ _ q1).trans k6)⟩|exact⟨(hc _ _ q0).trans k1,(hc _ _ q0).trans k2,(hc _ _ q0).trans k3,(hc _ _ q1).trans k4,(hc _ _ q1).trans k5,(hc _ _ q1).trans k6⟩|exact⟨k1,k2,k3,k4,k5,k6⟩)) (first|(go_at_call_of 191 (Value.agg #[.int .i64 s1,.bool ek,.slice A1 l1.length c1]);refine((aa B1) _ bem).mono ?_;rintro e w' ⟨A5,cap5,l5,rfl,Dv,hb⟩;have hbw:=cz (w:=W0) bem hb;obtain⟨hc,hfz⟩:=fq hbw)|(go_at_call_of 191 (Value.agg #[.int .i64 s2,.bool di,.slice A2 l2.length c2]);refine((aa B2) _ bem).mono ?_;rintro e w' ⟨A6,cap6,l6,rfl,uu,hb⟩;have oz:=Dv.below hb;have hbw:=cz (w:=W0) bem hb;obtain⟨hc,hfz⟩:=fq hbw))
   go_wp2_with fail;refine((aa G1) _ bem).mono ?_
   rintro e w6 ⟨rfl,hb⟩;replace oz:=oz.below hb;replace uu:=uu.below hb;have hbw:=cz (w:=W0) bem hb;obtain⟨hc,hfz⟩:=fq hbw;go_wp2_with fail;refine((aa G2) _ bem).mono ?_
   rintro e w7 ⟨rfl,hb⟩;replace oz:=oz.below hb;replace uu:=uu.below hb;have hbw:=cz (w:=W0) bem hb;obtain⟨hc,hfz⟩:=fq hbw;go_wp2_with fail;refine(afv A5 A6 cap5 cap6 l5 l6 m1 m2 _ (by exact oz) (by exact uu) ((aa HLEN) _ _ _ _ () oz).1 ((aa Kb) _ _ _ _ () uu).1).mono ?_
   rintro e w8 ⟨A7,Dw,l7,rfl,Du,hb⟩;have hbw:=cz (w:=W0) bem hb;obtain⟨hc,hfz⟩:=fq hbw;go_wp2_with fail;refine((aa Sc) _ A7 Dw l7 Du).mono ?_
   rintro e w' ⟨s,yh,A',cap',l',rfl,hf,hb⟩;have hbw:=cz (w:=W0) bem hb;obtain⟨hc,hfz⟩:=fq hbw;have hblk:w'.heap[w.heap.size+1+1]? = some (.cells #[.int .i64 0,.bool false,.slice none 0 0] 77 (0,0)):=(hbw.block _ q2).trans N3.out;have lu:=bg hblk;have lh:Below w.heap.size w w':=az hw0 hbw;clear hblk;go_wp2_with fail;exact bodyPost_ret (v := .agg #[.int .i64 s,.bool yh,.slice A' l'.length cap']) (by simp[results,results166,go_sem,hc,k7,k8,k9,q2]) rfl
    ⟨s,yh,A',cap',l',rfl,hf.upto lu.out (Bd _ _ _ _ _) (jq _ _ _ _ _),lh.grown (jq _ _ _ _ _) lh.size (fun k hk=>by injection hk with hk;omega)⟩


theorem bxh (s1:Int) (ek:Bool) (A1:Option Addr) (c1:Nat) (l1:List Nat) (z1:Int) (s2:Int) (di:Bool) (A2:Option Addr) (c2:Nat) (l2:List Nat) (z2:Int) (w:Wq)
  (h1:iy w s1 ek A1 c1 l1 z1) (h2:iy w s2 di A2 c2 l2 z2) (hl1:l1.length≤lim) (hl2:l2.length≤lim) (a : ¬ (l1.length=0∧l2.length=0)) :
  Calls prog 166 #[.agg #[.int .i64 s1,.bool ek,.slice A1 l1.length c1],.agg #[.int .i64 s2,.bool di,.slice A2 l2.length c2]] w fun e w'=>Jy w (z1+z2) e w':=by
 have HLEN:=ae (fun(W:Wq) (A5:Option Addr) (c5:Nat) (l5:List Nat) (_:Unit) (g:qf W A5 c5 l5 z1.natAbs)=>h1.Ui hl1 g)
 have Kb:=ae (fun(W:Wq) (A5:Option Addr) (c5:Nat) (l5:List Nat) (_:Unit) (g:qf W A5 c5 l5 z2.natAbs)=>h2.Ui hl2 g)
 have G1 : ∀ W0,Below w.heap.size w W0→Hid (∀ W,Below W0.heap.size W0 W→Calls prog 159 #[.agg #[.int .i64 s1,.bool ek,.slice A1 l1.length c1]] W fun e w'=>e = .returned (.int .i64 (zm z1))∧Below W.heap.size W w'):=fun W0 h0 W hW=>Gt s1 ek A1 c1 l1 z1 W (iy.below h1 (az h0 hW))
 have G2 : ∀ W0,Below w.heap.size w W0→Hid (∀ W,Below W0.heap.size W0 W→Calls prog 159 #[.agg #[.int .i64 s2,.bool di,.slice A2 l2.length c2]] W fun e w'=>e = .returned (.int .i64 (zm z2))∧Below W.heap.size W w'):=fun W0 h0 W hW=>Gt s2 di A2 c2 l2 z2 W (iy.below h2 (az h0 hW))
 have B1 : ∀ W0,Below w.heap.size w W0→Hid (∀ W,Below W0.heap.size W0 W→Calls prog 191 #[.agg #[.int .i64 s1,.bool ek,.slice A1 l1.length c1]] W fun e w'=>Qn W z1.natAbs e w'):=fun W0 h0 W hW=>Oq s1 ek A1 c1 l1 z1 W (iy.below h1 (az h0 hW))
 have B2 : ∀ W0,Below w.heap.size w W0→Hid (∀ W,Below W0.heap.size W0 W→Calls prog 191 #[.agg #[.int .i64 s2,.bool di,.slice A2 l2.length c2]] W fun e w'=>Qn W z2.natAbs e w'):=fun W0 h0 W hW=>Oq s2 di A2 c2 l2 z2 W (iy.below h2 (az h0 hW))
 obtain⟨m1,hm1⟩ : ∃ o,o=z1.natAbs:=⟨_,rfl⟩
 obtain⟨m2,hm2⟩ : ∃ o,o=z2.natAbs:=⟨_,rfl⟩
 obtain⟨o1,ho1⟩ : ∃ o,o=zm z1:=⟨_,rfl⟩
 obtain⟨o2,ho2⟩ : ∃ o,o=zm z2:=⟨_,rfl⟩
 obtain⟨Z,hZ⟩ : ∃ o,o=z1+z2:=⟨_,rfl⟩
 have hs1:(o1<0)↔z1<0:=by rw[ho1];exact Ub z1
 have hs2:(o2<0)↔z2<0:=by rw[ho2];exact Ub z2
 have zf:=ae (fun W=>Aq s1 ek A1 c1 l1.length W)
 have HS2:=ae (fun W=>Aq s2 di A2 c2 l2.length W)
 rw[← ho1]at G1
 rw[← ho2]at G2
 rw[← hm1]at B1 HLEN
 rw[← hm2]at B2 Kb
 rw[← hZ]
 have Ki:=ae G1;have HG2:=ae G2;have HB1:=ae B1;have HB2:=ae B2
 clear G1 G2 B1 B2
 obtain⟨n1,hn1⟩ : ∃ b,b=decide (o1<0):=⟨_,rfl⟩
 obtain⟨n2,hn2⟩ : ∃ b,b=decide (o2<0):=⟨_,rfl⟩
 have D1:=hn1.symm
 have D2:=hn2.symm
 have q1:n1=true↔z1<0:=by rw[hn1,decide_eq_true_iff,hs1]
 have q2:n2=true↔z2<0:=by rw[hn2,decide_eq_true_iff,hs2]
 obtain⟨od,hod⟩ : ∃ o,o=Dh m1 m2:=⟨_,rfl⟩
 have HOD:=bg hod
 have hcase:(l1.length=0 ∧ ¬ l2.length=0) ∨ ¬ l1.length=0:=by omega
 clear hs1 hs2 ho1 ho2 hn1 hn2 h1 h2 hl1 hl2
 by_cases he:n1=n2
 ·
  have EQ:(n1==n2)=true:=Iw.2 he;have Sc:=ae (fun(W:Wq) (A:Option Addr) (c:Nat) (l:List Nat) (g:qf W A c l (m1+m2))=>(show Calls prog 190 #[.bool (n1),.slice A l.length c] W fun e w'=>Jy W Z e w' by
   have:=Et (n1) A c l (m1+m2) W g;rw[show(if (n1)=true then -(((m1+m2):Nat):Int)else(((m1+m2):Nat):Int))=Z by cases n1<;>cases n2<;>simp at he q1 q2 ⊢ <;> omega]at this;exact this))
  clear hod he q1 q2 hZ hm1 hm2
  rcases hcase with⟨a1,a2⟩|a1
  ·
   rw[dm a1]at zf;rw[dw a2]at HS2;clear a a1 a2
   go_enter func166,ntmps166
   go_wp2_with fail;obtain⟨n1,n2,n3,hsz,hw0⟩:=wm w (.cells #[.int .i64 s1,.bool ek,.slice A1 l1.length c1] 77) (.cells #[.int .i64 s2,.bool di,.slice A2 l2.length c2] 77) (.cells #[.int .i64 0,.bool false,.slice none 0 0] 77);generalize (((w.alloc (.cells #[.int .i64 s1,.bool ek,.slice A1 l1.length c1] 77)).alloc (.cells #[.int .i64 s2,.bool di,.slice A2 l2.length c2] 77)).alloc (.cells #[.int .i64 0,.bool false,.slice none 0 0] 77))=W0 at *;have k1:=ag n1 0;have k2:=ag n1 1;have k3:=ag n1 2;simp only[wh,nk,ni,mq]at k1 k2 k3;have k4:=ag n2 0;have k5:=ag n2 1;have k6:=ag n2 2;simp only[wh,nk,ni,mq]at k4 k5 k6;have q0:w.heap.size<W0.heap.size:=by omega
   have q1:w.heap.size+1<W0.heap.size:=by omega
   have q2:w.heap.size+1+1<W0.heap.size:=by omega
   have k7:=ag n3 0;have k8:=ag n3 1;have k9:=ag n3 2;simp only[wh,nk,ni,mq]at k7 k8 k9;have f7:=ah n3 0;have f8:=ah n3 1;have f9:=ah n3 2;have N3:=bg n3;clear n3;clear n1 n2;refine((aa zf) _).mono ?_
   rintro e w1 ⟨rfl,hw1⟩;have Br:=tu (w:=W0) bem hw1;obtain⟨hc,hfz⟩:=fq Br;clear hw1;go_wp2_with fail;refine((aa HS2) _).mono ?_
   rintro e w2 ⟨rfl,hw2⟩;have hbw2:=tu (w:=W0) bem hw2;obtain⟨hc,hfz⟩:=fq hbw2;clear hw2;go_wp2_with fail;have B1:=(aa HB1) W0 hw0;have B2:=(aa HB2) W0 hw0;have G1:=(aa Ki) W0 hw0;have G2:=(aa HG2) W0 hw0
   go_region_held3 (fun w'=>w'.cell? ⟨w.heap.size,0,none⟩=some (.int .i64 s1)∧w'.cell? ⟨w.heap.size,1,none⟩=some (.bool ek)∧w'.cell? ⟨w.heap.size,2,none⟩=some (.slice A1 l1.length c1)∧w'.cell? ⟨w.heap.size+1,0,none⟩=some (.int .i64 s2)∧w'.cell? ⟨w.heap.size+1,1,none⟩=some (.bool di)∧w'.cell? ⟨w.heap.size+1,2,none⟩=some (.slice A2 l2.length c2)) ((first|with_reducible exact⟨(hc _ _ q0).trans k1,(hc _ _ q0).trans k2,(hc _ _ q0).trans k3,(hc _ _ q1).trans k4,(hc _ _ q1).trans k5,(hc _ _ q1).trans k6⟩|with_reducible exact⟨k1,k2,k3,k4,k5,k6⟩|with_reducible exact⟨(jc _ _ _ _ _ om).trans ((hc _ _ q0).trans k1),(jc _ _ _ _ _ om).trans ((hc _ _ q0).trans k2),(jc _ _ _ _ _ om).trans ((hc _ _ q0).trans k3),(jc _ _ _ _ _ om).trans ((hc _ _ q1).trans k4),(jc _ _ _ _ _ om).trans ((hc _ _ q1).trans k5),(jc _ _ _ _ _ om).trans ((hc _ _ q1).trans k6)⟩|exact⟨(hc _ _ q0).trans k1,(hc _ _ q0).trans k2,(hc _ _ q0).trans k3,(hc _ _ q1).trans k4,(hc _ _ q1).trans k5,(hc _ _ q1).trans k6⟩|exact⟨k1,k2,k3,k4,k5,k6⟩)) (first|(go_at_call_of 191 (Value.agg #[.int .i64 s1,.bool ek,.slice A1 l1.length c1]);refine((aa B1) _ bem).mono ?_;rintro e w' ⟨A5,cap5,l5,rfl,Dv,hb⟩;have hbw:=cz (w:=W0) bem hb;obtain⟨hc,hfz⟩:=fq hbw)|(go_at_call_of 191 (Value.agg #[.int .i64 s2,.bool di,.slice A2 l2.length c2]);refine((aa B2) _ bem).mono ?_;rintro e w' ⟨A6,cap6,l6,rfl,uu,hb⟩;have oz:=Dv.below hb;have hbw:=cz (w:=W0) bem hb;obtain⟨hc,hfz⟩:=fq hbw))
   go_wp2_with fail;refine((aa G1) _ bem).mono ?_
   rintro e w6 ⟨rfl,hb⟩;replace oz:=oz.below hb;replace uu:=uu.below hb;have hbw:=cz (w:=W0) bem hb;obtain⟨hc,hfz⟩:=fq hbw;go_wp2_with fail;refine((aa G2) _ bem).mono ?_
   rintro e w7 ⟨rfl,hb⟩;replace oz:=oz.below hb;replace uu:=uu.below hb;have hbw:=cz (w:=W0) bem hb;obtain⟨hc,hfz⟩:=fq hbw;go_wp2_with fail;refine(afv A5 A6 cap5 cap6 l5 l6 m1 m2 _ (by exact oz) (by exact uu) ((aa HLEN) _ _ _ _ () oz).1 ((aa Kb) _ _ _ _ () uu).1).mono ?_
   rintro e w8 ⟨A7,Dw,l7,rfl,Du,hb⟩;have hbw:=cz (w:=W0) bem hb;obtain⟨hc,hfz⟩:=fq hbw;go_wp2_with fail;refine((aa Sc) _ A7 Dw l7 Du).mono ?_
   rintro e w' ⟨s,yh,A',cap',l',rfl,hf,hb⟩;have hbw:=cz (w:=W0) bem hb;obtain⟨hc,hfz⟩:=fq hbw;have hblk:w'.heap[w.heap.size+1+1]? = some (.cells #[.int .i64 0,.bool false,.slice none 0 0] 77 (0,0)):=(hbw.block _ q2).trans N3.out;have lu:=bg hblk;have lh:Below w.heap.size w w':=az hw0 hbw;clear hblk;go_wp2_with fail;exact bodyPost_ret (v := .agg #[.int .i64 s,.bool yh,.slice A' l'.length cap']) (by simp[results,results166,go_sem,hc,k7,k8,k9,q2]) rfl
    ⟨s,yh,A',cap',l',rfl,hf.upto lu.out (Bd _ _ _ _ _) (jq _ _ _ _ _),lh.grown (jq _ _ _ _ _) lh.size (fun k hk=>by injection hk with hk;omega)⟩
  ·
   rw[dw a1]at zf;clear a a1
   go_enter func166,ntmps166
   go_wp2_with fail;obtain⟨n1,n2,n3,hsz,hw0⟩:=wm w (.cells #[.int .i64 s1,.bool ek,.slice A1 l1.length c1] 77) (.cells #[.int .i64 s2,.bool di,.slice A2 l2.length c2] 77) (.cells #[.int .i64 0,.bool false,.slice none 0 0] 77);generalize (((w.alloc (.cells #[.int .i64 s1,.bool ek,.slice A1 l1.length c1] 77)).alloc (.cells #[.int .i64 s2,.bool di,.slice A2 l2.length c2] 77)).alloc (.cells #[.int .i64 0,.bool false,.slice none 0 0] 77))=W0 at *;have k1:=ag n1 0;have k2:=ag n1 1;have k3:=ag n1 2;simp only[wh,nk,ni,mq]at k1 k2 k3;have k4:=ag n2 0;have k5:=ag n2 1;have k6:=ag n2 2;simp only[wh,nk,ni,mq]at k4 k5 k6;have q0:w.heap.size<W0.heap.size:=by omega
   have q1:w.heap.size+1<W0.heap.size:=by omega
   have q2:w.heap.size+1+1<W0.heap.size:=by omega
   have k7:=ag n3 0;have k8:=ag n3 1;have k9:=ag n3 2;simp only[wh,nk,ni,mq]at k7 k8 k9;have f7:=ah n3 0;have f8:=ah n3 1;have f9:=ah n3 2;have N3:=bg n3;clear n3;clear n1 n2;refine((aa zf) _).mono ?_
   rintro e w1 ⟨rfl,hw1⟩;have Br:=tu (w:=W0) bem hw1;obtain⟨hc,hfz⟩:=fq Br;clear hw1;go_wp2_with fail;have B1:=(aa HB1) W0 hw0;have B2:=(aa HB2) W0 hw0;have G1:=(aa Ki) W0 hw0;have G2:=(aa HG2) W0 hw0
   go_region_held3 (fun w'=>w'.cell? ⟨w.heap.size,0,none⟩=some (.int .i64 s1)∧w'.cell? ⟨w.heap.size,1,none⟩=some (.bool ek)∧w'.cell? ⟨w.heap.size,2,none⟩=some (.slice A1 l1.length c1)∧w'.cell? ⟨w.heap.size+1,0,none⟩=some (.int .i64 s2)∧w'.cell? ⟨w.heap.size+1,1,none⟩=some (.bool di)∧w'.cell? ⟨w.heap.size+1,2,none⟩=some (.slice A2 l2.length c2)) ((first|with_reducible exact⟨(hc _ _ q0).trans k1,(hc _ _ q0).trans k2,(hc _ _ q0).trans k3,(hc _ _ q1).trans k4,(hc _ _ q1).trans k5,(hc _ _ q1).trans k6⟩|with_reducible exact⟨k1,k2,k3,k4,k5,k6⟩|with_reducible exact⟨(jc _ _ _ _ _ om).trans ((hc _ _ q0).trans k1),(jc _ _ _ _ _ om).trans ((hc _ _ q0).trans k2),(jc _ _ _ _ _ om).trans ((hc _ _ q0).trans k3),(jc _ _ _ _ _ om).trans ((hc _ _ q1).trans k4),(jc _ _ _ _ _ om).trans ((hc _ _ q1).trans k5),(jc _ _ _ _ _ om).trans ((hc _ _ q1).trans k6)⟩|exact⟨(hc _ _ q0).trans k1,(hc _ _ q0).trans k2,(hc _ _ q0).trans k3,(hc _ _ q1).trans k4,(hc _ _ q1).trans k5,(hc _ _ q1).trans k6⟩|exact⟨k1,k2,k3,k4,k5,k6⟩)) (first|(go_at_call_of 191 (Value.agg #[.int .i64 s1,.bool ek,.slice A1 l1.length c1]);refine((aa B1) _ bem).mono ?_;rintro e w' ⟨A5,cap5,l5,rfl,Dv,hb⟩;have hbw:=cz (w:=W0) bem hb;obtain⟨hc,hfz⟩:=fq hbw)|(go_at_call_of 191 (Value.agg #[.int .i64 s2,.bool di,.slice A2 l2.length c2]);refine((aa B2) _ bem).mono ?_;rintro e w' ⟨A6,cap6,l6,rfl,uu,hb⟩;have oz:=Dv.below hb;have hbw:=cz (w:=W0) bem hb;obtain⟨hc,hfz⟩:=fq hbw))
   go_wp2_with fail;refine((aa G1) _ bem).mono ?_
   rintro e w6 ⟨rfl,hb⟩;replace oz:=oz.below hb;replace uu:=uu.below hb;have hbw:=cz (w:=W0) bem hb;obtain⟨hc,hfz⟩:=fq hbw;go_wp2_with fail;refine((aa G2) _ bem).mono ?_
   rintro e w7 ⟨rfl,hb⟩;replace oz:=oz.below hb;replace uu:=uu.below hb;have hbw:=cz (w:=W0) bem hb;obtain⟨hc,hfz⟩:=fq hbw;go_wp2_with fail;refine(afv A5 A6 cap5 cap6 l5 l6 m1 m2 _ (by exact oz) (by exact uu) ((aa HLEN) _ _ _ _ () oz).1 ((aa Kb) _ _ _ _ () uu).1).mono ?_
   rintro e w8 ⟨A7,Dw,l7,rfl,Du,hb⟩;have hbw:=cz (w:=W0) bem hb;obtain⟨hc,hfz⟩:=fq hbw;go_wp2_with fail;refine((aa Sc) _ A7 Dw l7 Du).mono ?_
   rintro e w' ⟨s,yh,A',cap',l',rfl,hf,hb⟩;have hbw:=cz (w:=W0) bem hb;obtain⟨hc,hfz⟩:=fq hbw;have hblk:w'.heap[w.heap.size+1+1]? = some (.cells #[.int .i64 0,.bool false,.slice none 0 0] 77 (0,0)):=(hbw.block _ q2).trans N3.out;have lu:=bg hblk;have lh:Below w.heap.size w w':=az hw0 hbw;clear hblk;go_wp2_with fail;exact bodyPost_ret (v := .agg #[.int .i64 s,.bool yh,.slice A' l'.length cap']) (by simp[results,results166,go_sem,hc,k7,k8,k9,q2]) rfl
    ⟨s,yh,A',cap',l',rfl,hf.upto lu.out (Bd _ _ _ _ _) (jq _ _ _ _ _),lh.grown (jq _ _ _ _ _) lh.size (fun k hk=>by injection hk with hk;omega)⟩
 ·
  have EQ:(n1==n2)=false:=oo.2 he
  by_cases hlt:m1<m2
  ·
   have d9:decide (od<0)=true:=dm (by rw[hod];unfold Dh;rw[if_pos hlt];omega);have HLE:=ae (Lt hlt);have Sc:=ae (fun(W:Wq) (A:Option Addr) (c:Nat) (l:List Nat) (g:qf W A c l (m2-m1))=>(show Calls prog 190 #[.bool (!n1),.slice A l.length c] W fun e w'=>Jy W Z e w' by
    have:=Et (!n1) A c l (m2-m1) W g;rw[show(if (!n1)=true then -(((m2-m1):Nat):Int)else(((m2-m1):Nat):Int))=Z by cases n1<;>cases n2<;>simp at he q1 q2 ⊢ <;> omega]at this;exact this))
   clear hod he q1 q2 hZ hm1 hm2 hlt
   rcases hcase with⟨a1,a2⟩|a1
   ·
    rw[dm a1]at zf;rw[dw a2]at HS2;clear a a1 a2
    go_enter func166,ntmps166
    go_wp2_with fail;obtain⟨n1,n2,n3,hsz,hw0⟩:=wm w (.cells #[.int .i64 s1,.bool ek,.slice A1 l1.length c1] 77) (.cells #[.int .i64 s2,.bool di,.slice A2 l2.length c2] 77) (.cells #[.int .i64 0,.bool false,.slice none 0 0] 77);generalize (((w.alloc (.cells #[.int .i64 s1,.bool ek,.slice A1 l1.length c1] 77)).alloc (.cells #[.int .i64 s2,.bool di,.slice A2 l2.length c2] 77)).alloc (.cells #[.int .i64 0,.bool false,.slice none 0 0] 77))=W0 at *;have k1:=ag n1 0;have k2:=ag n1 1;have k3:=ag n1 2;simp only[wh,nk,ni,mq]at k1 k2 k3;have k4:=ag n2 0;have k5:=ag n2 1;have k6:=ag n2 2;simp only[wh,nk,ni,mq]at k4 k5 k6;have q0:w.heap.size<W0.heap.size:=by omega
    have q1:w.heap.size+1<W0.heap.size:=by omega
    have q2:w.heap.size+1+1<W0.heap.size:=by omega
    have k7:=ag n3 0;have k8:=ag n3 1;have k9:=ag n3 2;simp only[wh,nk,ni,mq]at k7 k8 k9;have f7:=ah n3 0;have f8:=ah n3 1;have f9:=ah n3 2;have N3:=bg n3;clear n3;clear n1 n2;refine((aa zf) _).mono ?_
    rintro e w1 ⟨rfl,hw1⟩;have Br:=tu (w:=W0) bem hw1;obtain⟨hc,hfz⟩:=fq Br;clear hw1;go_wp2_with fail;refine((aa HS2) _).mono ?_
    rintro e w2 ⟨rfl,hw2⟩;have hbw2:=tu (w:=W0) bem hw2;obtain⟨hc,hfz⟩:=fq hbw2;clear hw2;go_wp2_with fail;have B1:=(aa HB1) W0 hw0;have B2:=(aa HB2) W0 hw0;have G1:=(aa Ki) W0 hw0;have G2:=(aa HG2) W0 hw0
    go_region_held3 (fun w'=>w'.cell? ⟨w.heap.size,0,none⟩=some (.int .i64 s1)∧w'.cell? ⟨w.heap.size,1,none⟩=some (.bool ek)∧w'.cell? ⟨w.heap.size,2,none⟩=some (.slice A1 l1.length c1)∧w'.cell? ⟨w.heap.size+1,0,none⟩=some (.int .i64 s2)∧w'.cell? ⟨w.heap.size+1,1,none⟩=some (.bool di)∧w'.cell? ⟨w.heap.size+1,2,none⟩=some (.slice A2 l2.length c2)) ((first|with_reducible exact⟨(hc _ _ q0).trans k1,(hc _ _ q0).trans k2,(hc _ _ q0).trans k3,(hc _ _ q1).trans k4,(hc _ _ q1).trans k5,(hc _ _ q1).trans k6⟩|with_reducible exact⟨k1,k2,k3,k4,k5,k6⟩|with_reducible exact⟨(jc _ _ _ _ _ om).trans ((hc _ _ q0).trans k1),(jc _ _ _ _ _ om).trans ((hc _ _ q0).trans k2),(jc _ _ _ _ _ om).trans ((hc _ _ q0).trans k3),(jc _ _ _ _ _ om).trans ((hc _ _ q1).trans k4),(jc _ _ _ _ _ om).trans ((hc _ _ q1).trans k5),(jc _ _ _ _ _ om).trans ((hc _ _ q1).trans k6)⟩|exact⟨(hc _ _ q0).trans k1,(hc _ _ q0).trans k2,(hc _ _ q0).trans k3,(hc _ _ q1).trans k4,(hc _ _ q1).trans k5,(hc _ _ q1).trans k6⟩|exact⟨k1,k2,k3,k4,k5,k6⟩)) (first|(go_at_call_of 191 (Value.agg #[.int .i64 s1,.bool ek,.slice A1 l1.length c1]);refine((aa B1) _ bem).mono ?_;rintro e w' ⟨A5,cap5,l5,rfl,Dv,hb⟩;have hbw:=cz (w:=W0) bem hb;obtain⟨hc,hfz⟩:=fq hbw)|(go_at_call_of 191 (Value.agg #[.int .i64 s2,.bool di,.slice A2 l2.length c2]);refine((aa B2) _ bem).mono ?_;rintro e w' ⟨A6,cap6,l6,rfl,uu,hb⟩;have oz:=Dv.below hb;have hbw:=cz (w:=W0) bem hb;obtain⟨hc,hfz⟩:=fq hbw))
    go_wp2_with fail;refine((aa G1) _ bem).mono ?_
    rintro e w6 ⟨rfl,hb⟩;replace oz:=oz.below hb;replace uu:=uu.below hb;have hbw:=cz (w:=W0) bem hb;obtain⟨hc,hfz⟩:=fq hbw;go_wp2_with fail;refine((aa G2) _ bem).mono ?_
    rintro e w7 ⟨rfl,hb⟩;replace oz:=oz.below hb;replace uu:=uu.below hb;have hbw:=cz (w:=W0) bem hb;obtain⟨hc,hfz⟩:=fq hbw;go_wp2_with fail;refine(afr A5 A6 cap5 cap6 l5 l6 m1 m2 _ (by exact oz) (by exact uu)).mono ?_
    rintro e w8 ⟨rfl,kd,hw8⟩;subst hw8;rw[← HOD.out];replace oz:=oz.below (ky (df _ _) kd);replace uu:=uu.below (ky (df _ _) kd);have hbw:=ky hbw kd;obtain⟨hc,hfz⟩:=fq hbw;go_wp2_with fail;refine(ang A6 A5 cap6 cap5 l6 l5 m2 m1 _ (by exact uu) (by exact oz) ((aa HLE)) (xy (Nat.le_succ _) ((aa Kb) _ _ _ _ () uu).2)).mono ?_
    rintro e w9 ⟨A7,Dw,l7,rfl,Du,hb⟩;have hbw:=cz (w:=W0) bem hb;obtain⟨hc,hfz⟩:=fq hbw;go_wp2_with fail;refine((aa Sc) _ A7 Dw l7 Du).mono ?_
    rintro e w' ⟨s,yh,A',cap',l',rfl,hf,hb⟩;have hbw:=cz (w:=W0) bem hb;obtain⟨hc,hfz⟩:=fq hbw;have hblk:w'.heap[w.heap.size+1+1]? = some (.cells #[.int .i64 0,.bool false,.slice none 0 0] 77 (0,0)):=(hbw.block _ q2).trans N3.out;have lu:=bg hblk;have lh:Below w.heap.size w w':=az hw0 hbw;clear hblk;go_wp2_with fail;exact bodyPost_ret (v := .agg #[.int .i64 s,.bool yh,.slice A' l'.length cap']) (by simp[results,results166,go_sem,hc,k7,k8,k9,q2]) rfl
     ⟨s,yh,A',cap',l',rfl,hf.upto lu.out (Bd _ _ _ _ _) (jq _ _ _ _ _),lh.grown (jq _ _ _ _ _) lh.size (fun k hk=>by injection hk with hk;omega)⟩
   ·
    rw[dw a1]at zf;clear a a1
    go_enter func166,ntmps166
    go_wp2_with fail;obtain⟨n1,n2,n3,hsz,hw0⟩:=wm w (.cells #[.int .i64 s1,.bool ek,.slice A1 l1.length c1] 77) (.cells #[.int .i64 s2,.bool di,.slice A2 l2.length c2] 77) (.cells #[.int .i64 0,.bool false,.slice none 0 0] 77);generalize (((w.alloc (.cells #[.int .i64 s1,.bool ek,.slice A1 l1.length c1] 77)).alloc (.cells #[.int .i64 s2,.bool di,.slice A2 l2.length c2] 77)).alloc (.cells #[.int .i64 0,.bool false,.slice none 0 0] 77))=W0 at *;have k1:=ag n1 0;have k2:=ag n1 1;have k3:=ag n1 2;simp only[wh,nk,ni,mq]at k1 k2 k3;have k4:=ag n2 0;have k5:=ag n2 1;have k6:=ag n2 2;simp only[wh,nk,ni,mq]at k4 k5 k6;have q0:w.heap.size<W0.heap.size:=by omega
    have q1:w.heap.size+1<W0.heap.size:=by omega
    have q2:w.heap.size+1+1<W0.heap.size:=by omega
    have k7:=ag n3 0;have k8:=ag n3 1;have k9:=ag n3 2;simp only[wh,nk,ni,mq]at k7 k8 k9;have f7:=ah n3 0;have f8:=ah n3 1;have f9:=ah n3 2;have N3:=bg n3;clear n3;clear n1 n2;refine((aa zf) _).mono ?_
    rintro e w1 ⟨rfl,hw1⟩;have Br:=tu (w:=W0) bem hw1;obtain⟨hc,hfz⟩:=fq Br;clear hw1;go_wp2_with fail;have B1:=(aa HB1) W0 hw0;have B2:=(aa HB2) W0 hw0;have G1:=(aa Ki) W0 hw0;have G2:=(aa HG2) W0 hw0
    go_region_held3 (fun w'=>w'.cell? ⟨w.heap.size,0,none⟩=some (.int .i64 s1)∧w'.cell? ⟨w.heap.size,1,none⟩=some (.bool ek)∧w'.cell? ⟨w.heap.size,2,none⟩=some (.slice A1 l1.length c1)∧w'.cell? ⟨w.heap.size+1,0,none⟩=some (.int .i64 s2)∧w'.cell? ⟨w.heap.size+1,1,none⟩=some (.bool di)∧w'.cell? ⟨w.heap.size+1,2,none⟩=some (.slice A2 l2.length c2)) ((first|with_reducible exact⟨(hc _ _ q0).trans k1,(hc _ _ q0).trans k2,(hc _ _ q0).trans k3,(hc _ _ q1).trans k4,(hc _ _ q1).trans k5,(hc _ _ q1).trans k6⟩|with_reducible exact⟨k1,k2,k3,k4,k5,k6⟩|with_reducible exact⟨(jc _ _ _ _ _ om).trans ((hc _ _ q0).trans k1),(jc _ _ _ _ _ om).trans ((hc _ _ q0).trans k2),(jc _ _ _ _ _ om).trans ((hc _ _ q0).trans k3),(jc _ _ _ _ _ om).trans ((hc _ _ q1).trans k4),(jc _ _ _ _ _ om).trans ((hc _ _ q1).trans k5),(jc _ _ _ _ _ om).trans ((hc _ _ q1).trans k6)⟩|exact⟨(hc _ _ q0).trans k1,(hc _ _ q0).trans k2,(hc _ _ q0).trans k3,(hc _ _ q1).trans k4,(hc _ _ q1).trans k5,(hc _ _ q1).trans k6⟩|exact⟨k1,k2,k3,k4,k5,k6⟩)) (first|(go_at_call_of 191 (Value.agg #[.int .i64 s1,.bool ek,.slice A1 l1.length c1]);refine((aa B1) _ bem).mono ?_;rintro e w' ⟨A5,cap5,l5,rfl,Dv,hb⟩;have hbw:=cz (w:=W0) bem hb;obtain⟨hc,hfz⟩:=fq hbw)|(go_at_call_of 191 (Value.agg #[.int .i64 s2,.bool di,.slice A2 l2.length c2]);refine((aa B2) _ bem).mono ?_;rintro e w' ⟨A6,cap6,l6,rfl,uu,hb⟩;have oz:=Dv.below hb;have hbw:=cz (w:=W0) bem hb;obtain⟨hc,hfz⟩:=fq hbw))
    go_wp2_with fail;refine((aa G1) _ bem).mono ?_
    rintro e w6 ⟨rfl,hb⟩;replace oz:=oz.below hb;replace uu:=uu.below hb;have hbw:=cz (w:=W0) bem hb;obtain⟨hc,hfz⟩:=fq hbw;go_wp2_with fail;refine((aa G2) _ bem).mono ?_
    rintro e w7 ⟨rfl,hb⟩;replace oz:=oz.below hb;replace uu:=uu.below hb;have hbw:=cz (w:=W0) bem hb;obtain⟨hc,hfz⟩:=fq hbw;go_wp2_with fail;refine(afr A5 A6 cap5 cap6 l5 l6 m1 m2 _ (by exact oz) (by exact uu)).mono ?_
    rintro e w8 ⟨rfl,kd,hw8⟩;subst hw8;rw[← HOD.out];replace oz:=oz.below (ky (df _ _) kd);replace uu:=uu.below (ky (df _ _) kd);have hbw:=ky hbw kd;obtain⟨hc,hfz⟩:=fq hbw;go_wp2_with fail;refine(ang A6 A5 cap6 cap5 l6 l5 m2 m1 _ (by exact uu) (by exact oz) ((aa HLE)) (xy (Nat.le_succ _) ((aa Kb) _ _ _ _ () uu).2)).mono ?_
    rintro e w9 ⟨A7,Dw,l7,rfl,Du,hb⟩;have hbw:=cz (w:=W0) bem hb;obtain⟨hc,hfz⟩:=fq hbw;go_wp2_with fail;refine((aa Sc) _ A7 Dw l7 Du).mono ?_
    rintro e w' ⟨s,yh,A',cap',l',rfl,hf,hb⟩;have hbw:=cz (w:=W0) bem hb;obtain⟨hc,hfz⟩:=fq hbw;have hblk:w'.heap[w.heap.size+1+1]? = some (.cells #[.int .i64 0,.bool false,.slice none 0 0] 77 (0,0)):=(hbw.block _ q2).trans N3.out;have lu:=bg hblk;have lh:Below w.heap.size w w':=az hw0 hbw;clear hblk;go_wp2_with fail;exact bodyPost_ret (v := .agg #[.int .i64 s,.bool yh,.slice A' l'.length cap']) (by simp[results,results166,go_sem,hc,k7,k8,k9,q2]) rfl
     ⟨s,yh,A',cap',l',rfl,hf.upto lu.out (Bd _ _ _ _ _) (jq _ _ _ _ _),lh.grown (jq _ _ _ _ _) lh.size (fun k hk=>by injection hk with hk;omega)⟩
  ·
   have d9:decide (od<0)=false:=dw (by rw[hod];unfold Dh;rw[if_neg hlt];split<;>omega);have HLE:=ae (Nat.le_of_not_lt hlt);have Sc:=ae (fun(W:Wq) (A:Option Addr) (c:Nat) (l:List Nat) (g:qf W A c l (m1-m2))=>(show Calls prog 190 #[.bool (n1),.slice A l.length c] W fun e w'=>Jy W Z e w' by
    have:=Et (n1) A c l (m1-m2) W g;rw[show(if (n1)=true then -(((m1-m2):Nat):Int)else(((m1-m2):Nat):Int))=Z by cases n1<;>cases n2<;>simp at he q1 q2 ⊢ <;> omega]at this;exact this))
   clear hod he q1 q2 hZ hm1 hm2 hlt
   rcases hcase with⟨a1,a2⟩|a1
   ·
    rw[dm a1]at zf;rw[dw a2]at HS2;clear a a1 a2
    go_enter func166,ntmps166
    go_wp2_with fail;obtain⟨n1,n2,n3,hsz,hw0⟩:=wm w (.cells #[.int .i64 s1,.bool ek,.slice A1 l1.length c1] 77) (.cells #[.int .i64 s2,.bool di,.slice A2 l2.length c2] 77) (.cells #[.int .i64 0,.bool false,.slice none 0 0] 77);generalize (((w.alloc (.cells #[.int .i64 s1,.bool ek,.slice A1 l1.length c1] 77)).alloc (.cells #[.int .i64 s2,.bool di,.slice A2 l2.length c2] 77)).alloc (.cells #[.int .i64 0,.bool false,.slice none 0 0] 77))=W0 at *;have k1:=ag n1 0;have k2:=ag n1 1;have k3:=ag n1 2;simp only[wh,nk,ni,mq]at k1 k2 k3;have k4:=ag n2 0;have k5:=ag n2 1;have k6:=ag n2 2;simp only[wh,nk,ni,mq]at k4 k5 k6;have q0:w.heap.size<W0.heap.size:=by omega
    have q1:w.heap.size+1<W0.heap.size:=by omega
    have q2:w.heap.size+1+1<W0.heap.size:=by omega
    have k7:=ag n3 0;have k8:=ag n3 1;have k9:=ag n3 2;simp only[wh,nk,ni,mq]at k7 k8 k9;have f7:=ah n3 0;have f8:=ah n3 1;have f9:=ah n3 2;have N3:=bg n3;clear n3;clear n1 n2;refine((aa zf) _).mono ?_
    rintro e w1 ⟨rfl,hw1⟩;have Br:=tu (w:=W0) bem hw1;obtain⟨hc,hfz⟩:=fq Br;clear hw1;go_wp2_with fail;refine((aa HS2) _).mono ?_
    rintro e w2 ⟨rfl,hw2⟩;have hbw2:=tu (w:=W0) bem hw2;obtain⟨hc,hfz⟩:=fq hbw2;clear hw2;go_wp2_with fail;have B1:=(aa HB1) W0 hw0;have B2:=(aa HB2) W0 hw0;have G1:=(aa Ki) W0 hw0;have G2:=(aa HG2) W0 hw0
    go_region_held3 (fun w'=>w'.cell? ⟨w.heap.size,0,none⟩=some (.int .i64 s1)∧w'.cell? ⟨w.heap.size,1,none⟩=some (.bool ek)∧w'.cell? ⟨w.heap.size,2,none⟩=some (.slice A1 l1.length c1)∧w'.cell? ⟨w.heap.size+1,0,none⟩=some (.int .i64 s2)∧w'.cell? ⟨w.heap.size+1,1,none⟩=some (.bool di)∧w'.cell? ⟨w.heap.size+1,2,none⟩=some (.slice A2 l2.length c2)) ((first|with_reducible exact⟨(hc _ _ q0).trans k1,(hc _ _ q0).trans k2,(hc _ _ q0).trans k3,(hc _ _ q1).trans k4,(hc _ _ q1).trans k5,(hc _ _ q1).trans k6⟩|with_reducible exact⟨k1,k2,k3,k4,k5,k6⟩|with_reducible exact⟨(jc _ _ _ _ _ om).trans ((hc _ _ q0).trans k1),(jc _ _ _ _ _ om).trans ((hc _ _ q0).trans k2),(jc _ _ _ _ _ om).trans ((hc _ _ q0).trans k3),(jc _ _ _ _ _ om).trans ((hc _ _ q1).trans k4),(jc _ _ _ _ _ om).trans ((hc _ _ q1).trans k5),(jc _ _ _ _ _ om).trans ((hc _ _ q1).trans k6)⟩|exact⟨(hc _ _ q0).trans k1,(hc _ _ q0).trans k2,(hc _ _ q0).trans k3,(hc _ _ q1).trans k4,(hc _ _ q1).trans k5,(hc _ _ q1).trans k6⟩|exact⟨k1,k2,k3,k4,k5,k6⟩)) (first|(go_at_call_of 191 (Value.agg #[.int .i64 s1,.bool ek,.slice A1 l1.length c1]);refine((aa B1) _ bem).mono ?_;rintro e w' ⟨A5,cap5,l5,rfl,Dv,hb⟩;have hbw:=cz (w:=W0) bem hb;obtain⟨hc,hfz⟩:=fq hbw)|(go_at_call_of 191 (Value.agg #[.int .i64 s2,.bool di,.slice A2 l2.length c2]);refine((aa B2) _ bem).mono ?_;rintro e w' ⟨A6,cap6,l6,rfl,uu,hb⟩;have oz:=Dv.below hb;have hbw:=cz (w:=W0) bem hb;obtain⟨hc,hfz⟩:=fq hbw))
    go_wp2_with fail;refine((aa G1) _ bem).mono ?_
    rintro e w6 ⟨rfl,hb⟩;replace oz:=oz.below hb;replace uu:=uu.below hb;have hbw:=cz (w:=W0) bem hb;obtain⟨hc,hfz⟩:=fq hbw;go_wp2_with fail;refine((aa G2) _ bem).mono ?_
    rintro e w7 ⟨rfl,hb⟩;replace oz:=oz.below hb;replace uu:=uu.below hb;have hbw:=cz (w:=W0) bem hb;obtain⟨hc,hfz⟩:=fq hbw;go_wp2_with fail;refine(afr A5 A6 cap5 cap6 l5 l6 m1 m2 _ (by exact oz) (by exact uu)).mono ?_
    rintro e w8 ⟨rfl,kd,hw8⟩;subst hw8;rw[← HOD.out];replace oz:=oz.below (ky (df _ _) kd);replace uu:=uu.below (ky (df _ _) kd);have hbw:=ky hbw kd;obtain⟨hc,hfz⟩:=fq hbw;go_wp2_with fail;refine(ang A5 A6 cap5 cap6 l5 l6 m1 m2 _ (by exact oz) (by exact uu) ((aa HLE)) (xy (Nat.le_succ _) ((aa HLEN) _ _ _ _ () oz).2)).mono ?_
    rintro e w9 ⟨A7,Dw,l7,rfl,Du,hb⟩;have hbw:=cz (w:=W0) bem hb;obtain⟨hc,hfz⟩:=fq hbw;go_wp2_with fail;refine((aa Sc) _ A7 Dw l7 Du).mono ?_
    rintro e w' ⟨s,yh,A',cap',l',rfl,hf,hb⟩;have hbw:=cz (w:=W0) bem hb;obtain⟨hc,hfz⟩:=fq hbw;have hblk:w'.heap[w.heap.size+1+1]? = some (.cells #[.int .i64 0,.bool false,.slice none 0 0] 77 (0,0)):=(hbw.block _ q2).trans N3.out;have lu:=bg hblk;have lh:Below w.heap.size w w':=az hw0 hbw;clear hblk;go_wp2_with fail;exact bodyPost_ret (v := .agg #[.int .i64 s,.bool yh,.slice A' l'.length cap']) (by simp[results,results166,go_sem,hc,k7,k8,k9,q2]) rfl
     ⟨s,yh,A',cap',l',rfl,hf.upto lu.out (Bd _ _ _ _ _) (jq _ _ _ _ _),lh.grown (jq _ _ _ _ _) lh.size (fun k hk=>by injection hk with hk;omega)⟩
   ·
    rw[dw a1]at zf;clear a a1
    go_enter func166,ntmps166
    go_wp2_with fail;obtain⟨n1,n2,n3,hsz,hw0⟩:=wm w (.cells #[.int .i64 s1,.bool ek,.slice A1 l1.length c1] 77) (.cells #[.int .i64 s2,.bool di,.slice A2 l2.length c2] 77) (.cells #[.int .i64 0,.bool false,.slice none 0 0] 77);generalize (((w.alloc (.cells #[.int .i64 s1,.bool ek,.slice A1 l1.length c1] 77)).alloc (.cells #[.int .i64 s2,.bool di,.slice A2 l2.length c2] 77)).alloc (.cells #[.int .i64 0,.bool false,.slice none 0 0] 77))=W0 at *;have k1:=ag n1 0;have k2:=ag n1 1;have k3:=ag n1 2;simp only[wh,nk,ni,mq]at k1 k2 k3;have k4:=ag n2 0;have k5:=ag n2 1;have k6:=ag n2 2;simp only[wh,nk,ni,mq]at k4 k5 k6;have q0:w.heap.size<W0.heap.size:=by omega
    have q1:w.heap.size+1<W0.heap.size:=by omega
    have q2:w.heap.size+1+1<W0.heap.size:=by omega
    have k7:=ag n3 0;have k8:=ag n3 1;have k9:=ag n3 2;simp only[wh,nk,ni,mq]at k7 k8 k9;have f7:=ah n3 0;have f8:=ah n3 1;have f9:=ah n3 2;have N3:=bg n3;clear n3;clear n1 n2;refine((aa zf) _).mono ?_
    rintro e w1 ⟨rfl,hw1⟩;have Br:=tu (w:=W0) bem hw1;obtain⟨hc,hfz⟩:=fq Br;clear hw1;go_wp2_with fail;have B1:=(aa HB1) W0 hw0;have B2:=(aa HB2) W0 hw0;have G1:=(aa Ki) W0 hw0;have G2:=(aa HG2) W0 hw0
    go_region_held3 (fun w'=>w'.cell? ⟨w.heap.size,0,none⟩=some (.int .i64 s1)∧w'.cell? ⟨w.heap.size,1,none⟩=some (.bool ek)∧w'.cell? ⟨w.heap.size,2,none⟩=some (.slice A1 l1.length c1)∧w'.cell? ⟨w.heap.size+1,0,none⟩=some (.int .i64 s2)∧w'.cell? ⟨w.heap.size+1,1,none⟩=some (.bool di)∧w'.cell? ⟨w.heap.size+1,2,none⟩=some (.slice A2 l2.length c2)) ((first|with_reducible exact⟨(hc _ _ q0).trans k1,(hc _ _ q0).trans k2,(hc _ _ q0).trans k3,(hc _ _ q1).trans k4,(hc _ _ q1).trans k5,(hc _ _ q1).trans k6⟩|with_reducible exact⟨k1,k2,k3,k4,k5,k6⟩|with_reducible exact⟨(jc _ _ _ _ _ om).trans ((hc _ _ q0).trans k1),(jc _ _ _ _ _ om).trans ((hc _ _ q0).trans k2),(jc _ _ _ _ _ om).trans ((hc _ _ q0).trans k3),(jc _ _ _ _ _ om).trans ((hc _ _ q1).trans k4),(jc _ _ _ _ _ om).trans ((hc _ _ q1).trans k5),(jc _ _ _ _ _ om).trans ((hc _ _ q1).trans k6)⟩|exact⟨(hc _ _ q0).trans k1,(hc _ _ q0).trans k2,(hc _ _ q0).trans k3,(hc _ _ q1).trans k4,(hc _ _ q1).trans k5,(hc _ _ q1).trans k6⟩|exact⟨k1,k2,k3,k4,k5,k6⟩)) (first|(go_at_call_of 191 (Value.agg #[.int .i64 s1,.bool ek,.slice A1 l1.length c1]);refine((aa B1) _ bem).mono ?_;rintro e w' ⟨A5,cap5,l5,rfl,Dv,hb⟩;have hbw:=cz (w:=W0) bem hb;obtain⟨hc,hfz⟩:=fq hbw)|(go_at_call_of 191 (Value.agg #[.int .i64 s2,.bool di,.slice A2 l2.length c2]);refine((aa B2) _ bem).mono ?_;rintro e w' ⟨A6,cap6,l6,rfl,uu,hb⟩;have oz:=Dv.below hb;have hbw:=cz (w:=W0) bem hb;obtain⟨hc,hfz⟩:=fq hbw))
    go_wp2_with fail;refine((aa G1) _ bem).mono ?_
    rintro e w6 ⟨rfl,hb⟩;replace oz:=oz.below hb;replace uu:=uu.below hb;have hbw:=cz (w:=W0) bem hb;obtain⟨hc,hfz⟩:=fq hbw;go_wp2_with fail;refine((aa G2) _ bem).mono ?_
    rintro e w7 ⟨rfl,hb⟩;replace oz:=oz.below hb;replace uu:=uu.below hb;have hbw:=cz (w:=W0) bem hb;obtain⟨hc,hfz⟩:=fq hbw;go_wp2_with fail;refine(afr A5 A6 cap5 cap6 l5 l6 m1 m2 _ (by exact oz) (by exact uu)).mono ?_
    rintro e w8 ⟨rfl,kd,hw8⟩;subst hw8;rw[← HOD.out];replace oz:=oz.below (ky (df _ _) kd);replace uu:=uu.below (ky (df _ _) kd);have hbw:=ky hbw kd;obtain⟨hc,hfz⟩:=fq hbw;go_wp2_with fail;refine(ang A5 A6 cap5 cap6 l5 l6 m1 m2 _ (by exact oz) (by exact uu) ((aa HLE)) (xy (Nat.le_succ _) ((aa HLEN) _ _ _ _ () oz).2)).mono ?_
    rintro e w9 ⟨A7,Dw,l7,rfl,Du,hb⟩;have hbw:=cz (w:=W0) bem hb;obtain⟨hc,hfz⟩:=fq hbw;go_wp2_with fail;refine((aa Sc) _ A7 Dw l7 Du).mono ?_
    rintro e w' ⟨s,yh,A',cap',l',rfl,hf,hb⟩;have hbw:=cz (w:=W0) bem hb;obtain⟨hc,hfz⟩:=fq hbw;have hblk:w'.heap[w.heap.size+1+1]? = some (.cells #[.int .i64 0,.bool false,.slice none 0 0] 77 (0,0)):=(hbw.block _ q2).trans N3.out;have lu:=bg hblk;have lh:Below w.heap.size w w':=az hw0 hbw;clear hblk;go_wp2_with fail;exact bodyPost_ret (v := .agg #[.int .i64 s,.bool yh,.slice A' l'.length cap']) (by simp[results,results166,go_sem,hc,k7,k8,k9,q2]) rfl
     ⟨s,yh,A',cap',l',rfl,hf.upto lu.out (Bd _ _ _ _ _) (jq _ _ _ _ _),lh.grown (jq _ _ _ _ _) lh.size (fun k hk=>by injection hk with hk;omega)⟩


theorem bdw (s1:Int) (ek:Bool) (A1:Option Addr) (c1:Nat) (l1:List Nat) (z1:Int) (s2:Int) (di:Bool) (A2:Option Addr) (c2:Nat) (l2:List Nat) (z2:Int) (w:Wq)
  (h1:iy w s1 ek A1 c1 l1 z1) (h2:iy w s2 di A2 c2 l2 z2) (hl1:l1.length≤lim) (hl2:l2.length≤lim) :
  Calls prog 166 #[.agg #[.int .i64 s1,.bool ek,.slice A1 l1.length c1],.agg #[.int .i64 s2,.bool di,.slice A2 l2.length c2]] w fun e w'=>Jy w (z1+z2) e w':=by
 by_cases a:l1.length=0∧l2.length=0
 ·
  by_cases hz:(z1+z2).natAbs<We
  ·
   exact bmt s1 ek A1 c1 l1 z1 s2 di A2 c2 l2 z2 w h1 h2 hl1 hl2 a.1 a.2 hz
  ·
   exact bsh s1 ek A1 c1 l1 z1 s2 di A2 c2 l2 z2 w h1 h2 hl1 hl2 a.1 a.2 (Nat.le_of_not_lt hz)
 ·
  exact bxh s1 ek A1 c1 l1 z1 s2 di A2 c2 l2 z2 w h1 h2 hl1 hl2 a

end Go.Proofs.YtfgeaakhlcaibaaGreatDoor
namespace Go.Proofs.YtfgeaakhlcaibaaGreatDoor
open Go.Proofs.Tryz
open Go renaming World → Wq
open Go renaming Value → Vq
variable {w w' W w1:Wq} {l:List Nat} {B K cap g n L:Nat} {A:Option Addr} {z a s b d:Int} {T:TypeId} {cs:Array Vq} {q:Rat}

def bod:Nat:=1000000000000
theorem Qj:bod=1000000000000:=rfl

def qi (n d:Int):Prop:=1≤d∧d≤1000000000000 ∧ -1000000000000≤n∧n≤1000000000000∧n.natAbs.gcd d.natAbs=1
instance (n d:Int):Decidable (qi n d):=by unfold qi;infer_instance

def jw (n d:Int):Rat:=Rat.divInt n d

theorem Tu {n:Int} (h:qi n d):(jw n d).num=n∧((jw n d).den:Int)=d:=by
 obtain⟨h1,h2,h3,h4,h5⟩:=h
 have hd:(d.natAbs:Int)=d:=by omega
 have e:jw n d=Rat.mk' n d.natAbs om h5:=by
  rw[Rat.mk_eq_divInt,hd];rfl
 rw[e];exact⟨rfl,hd⟩
theorem avb (q:Rat):jw q.num q.den=q:=by
 unfold jw;exact Uw q
theorem bnw {n:Int} (h:qi n d):jw n d=0↔n=0:=by
 constructor
 ·
  intro e;have:=(Tu h).1;rw[e]at this;exact this.symm
 ·
  rintro rfl;unfold jw;exact Rat.zero_divInt d

def uw (q:Rat):Prop:=q.num.natAbs≤bod∧q.den≤bod
instance (q:Rat):Decidable (uw q):=by unfold uw;infer_instance
theorem avf (h:uw q):qi q.num q.den:=by
 obtain⟨h1,h2⟩:=h
 rw[Qj]at h1 h2
 have h3:=q.den_pos
 exact⟨by omega,by omega,by omega,by omega,by rw[Fq];exact q.reduced⟩
theorem boa {n:Int} (h:qi n d):uw (jw n d):=by
 obtain⟨e1,e2⟩:=Tu h
 obtain⟨h1,h2,h3,h4,h5⟩:=h
 unfold uw;rw[Qj,e1]
 exact⟨by omega,by omega⟩

structure Uq where
 n:Int
 d:Int
 e:Int
def jf (q:Rat):Uq:=if uw q then⟨q.num,q.den,0⟩else⟨0,0,3⟩
theorem btq (q:Rat):(jf q).e=0↔uw q:=by
 unfold jf
 by_cases h:uw q
 ·
  rw[if_pos h];exact⟨fun _=>h,fun _=>rfl⟩
 ·
  rw[if_neg h];exact⟨fun e=>by simp at e,fun e=>absurd e h⟩
theorem bnv (h:(jf q).e=0):qi (jf q).n (jf q).d∧jw (jf q).n (jf q).d=q:=by
 have hf:=(btq q).1 h
 unfold jf;rw[if_pos hf]
 exact⟨avf hf,avb q⟩
theorem Sq {n:Int} (h:qi n d):jf (jw n d)=⟨n,d,0⟩:=by
 unfold jf;rw[if_pos (boa h)]
 obtain⟨e1,e2⟩:=Tu h
 rw[e1,e2]

def cwx (f:Rat→Rat→Rat) (a b c d:Int):Uq:=if qi a b∧qi c d then jf (f (jw a b) (jw c d))else⟨0,0,1⟩

def je (B K:Nat) (z:Int):Prop:=z.natAbs<B^K

theorem je.mono (hB:1<B) (h:je B K z) (hk:K≤L):je B L z:=zh h (Ho om hk)
theorem je.mul (ha:je B K a) (hb:je B L b):je B (K+L) (a*b):=by
 unfold je at *;rw[Uu,Hq]
 exact Nat.mul_lt_mul_of_lt_of_le ha (Lt hb) om
theorem je.add (hB:1<B) (ha:je B K a) (hb:je B K b):je B (K+1) (a+b):=by
 unfold je at *
 have h1:=Int.natAbs_add_le a b
 have h2:2*B^K≤B^(K+1):=by rw[Be,og];exact Bo _ hB
 omega
theorem je.neg (ha:je B K a):je B K (-a):=by unfold je at *;rwa[adh]
theorem je.le (ha:je B K a) (h:b.natAbs≤a.natAbs):je B K b:=Dm h ha
theorem je.tdiv (ha:je B K a) (b:Int):je B K (a.tdiv b):=ha.le (by rw[Int.natAbs_tdiv];exact Yg _ _)
theorem je.gcd_left (ha:je B K a) (h0:a≠0):je B K ((a.natAbs.gcd b.natAbs:Nat):Int):=ha.le (by rw[Fq];exact asb _ om)
theorem je.gcd_right (hb:je B K b) (h0:b≠0):je B K ((a.natAbs.gcd b.natAbs:Nat):Int):=hb.le (by rw[Fq];exact Nat.gcd_le_right _ om)
theorem je.gcd (ha:je B K a) (hb:je B K b):je B K ((a.natAbs.gcd b.natAbs:Nat):Int):=by
 by_cases h0:a=0
 ·
  subst h0;refine hb.le ?_
  simp
 ·
  exact ha.gcd_left h0
theorem je.of_le (h:z.natAbs<B) (hB:1<B) (hK:1≤K):je B K z:=by
 have:je B 1 z:=by unfold je;rwa[Rh]
 exact this.mono hB hK

theorem aqs (x y:Rat) (ik h:Nat) (n:Int) (hg:ik=x.den.gcd y.den) (hn:n=x.num*(y.den:Int).tdiv ik+y.num*(x.den:Int).tdiv ik) (hh:h=ik.gcd n.natAbs) :
  (x+y).num=n.tdiv h∧((x+y).den:Int)=(x.den:Int).tdiv ik*(y.den:Int).tdiv h:=by
 have e1:(y.den:Int).tdiv ik=((y.den/ik:Nat):Int):=(Pb _ _).symm
 have e2:(x.den:Int).tdiv ik=((x.den/ik:Nat):Int):=(Pb _ _).symm
 have e3:(y.den:Int).tdiv h=((y.den/h:Nat):Int):=(Pb _ _).symm
 rw[e1,e2]at hn
 have:=bfz x y ik h n hg hn hh
 rw[this.1,this.2,e2,e3,aaf]
 exact⟨rfl,rfl⟩
theorem aqp (x y:Rat) (ik h:Nat) (hg:ik=x.num.natAbs.gcd y.den) (hh:h=y.num.natAbs.gcd x.den) :
  (x*y).num=x.num.tdiv ik*y.num.tdiv h∧((x*y).den:Int)=(x.den:Int).tdiv h*(y.den:Int).tdiv ik:=by
 have e1:(y.den:Int).tdiv ik=((y.den/ik:Nat):Int):=(Pb _ _).symm
 have e2:(x.den:Int).tdiv h=((x.den/h:Nat):Int):=(Pb _ _).symm
 have:=bfw x y ik h hg hh
 rw[this.1,this.2,e1,e2,aaf]
 exact⟨rfl,rfl⟩
theorem acy (q:Rat) (h:q.num≠0):(q.num<0→(q⁻¹).num = -(q.den:Int)∧((q⁻¹).den:Int) = -q.num)∧(¬ q.num<0→(q⁻¹).num=(q.den:Int)∧((q⁻¹).den:Int)=q.num):=by
 rw[Rat.num_inv,Rat.den_inv,if_neg h]
 constructor
 ·
  intro hn;rw[baj hn];omega
 ·
  intro hn;rw[amv om];omega
end Go.Proofs.YtfgeaakhlcaibaaGreatDoor
namespace Go.Proofs.YtfgeaakhlcaibaaGreatDoor
open Go.RowKit
open Go.Proofs.Tryz
open Go renaming World → Wq
open Go renaming Value → Vq
variable {w w' W w1:Wq} {l:List Nat} {B K cap g n L:Nat} {A:Option Addr} {z a s b d:Int} {T:TypeId} {cs:Array Vq} {q:Rat}

def Sy (w:Wq) (a b:Int) (e:Ending) (w':Wq):Prop := ∃ s1 ek A1 c1 l1 s2 di A2 c2 l2,
 e = .returned (.agg #[.int .i64 s1,.bool ek,.slice A1 (List.length l1) c1,.int .i64 s2,.bool di,.slice A2 (List.length l2) c2])∧iy w' s1 ek A1 c1 l1 a∧iy w' s2 di A2 c2 l2 b∧Below w.heap.size w w'

theorem Dl (s s':Int) (b b':Bool) (A A':Option Addr) (n c n' c':Nat):aga #[.int .i64 s,.bool b,.slice A n c,.int .i64 s',.bool b',.slice A' n' c']:=by
 intro i n h
 match i,h with
 | 0,h=>simp at h
 | 1,h=>simp at h
 | 2,h=>simp at h
 | 3,h=>simp at h
 | 4,h=>simp at h
 | 5,h=>simp at h
 | i+6,h=>simp at h
theorem qg (w:Wq) (g:Nat) (u0 u1 u2 u3 u4 u5:Vq):w.grownBy ((((((w.setCell ⟨g,0,none⟩ u0).setCell ⟨g,1,none⟩ u1).setCell ⟨g,2,none⟩ u2).setCell ⟨g,3,none⟩ u3).setCell ⟨g,4,none⟩ u4).setCell ⟨g,5,none⟩ u5) (some g) :=
 qy (qy (qy (qy (qy (qy (wy _ _) _ _) _ _) _ _) _ _) _ _) _ _
theorem qa (w:Wq) (g:Nat) (u0 u1:Vq):w.grownBy ((w.setCell ⟨g,0,none⟩ u0).setCell ⟨g,1,none⟩ u1) (some g) :=
 qy (qy (wy _ _) _ _) _ _
theorem Gj (i:Nat) (u:Vq) (b o:Nat) (h:b≠g):(w.setCell ⟨g,i,none⟩ u).cell? ⟨b,o,none⟩=w.cell? ⟨b,o,none⟩ :=
 ajj _ _ _ _ (by intro e;injection e with e1;exact h (by first|exact e1|exact e1.symm))
theorem mg (u0 u1 u2 u3 u4 u5:Vq) (b o:Nat) (h:b≠g):((((((w.setCell ⟨g,0,none⟩ u0).setCell ⟨g,1,none⟩ u1).setCell ⟨g,2,none⟩ u2).setCell ⟨g,3,none⟩ u3).setCell ⟨g,4,none⟩ u4).setCell ⟨g,5,none⟩ u5).cell? ⟨b,o,none⟩=w.cell? ⟨b,o,none⟩:=by
 rw[Gj _ _ _ _ h,Gj _ _ _ _ h,Gj _ _ _ _ h,Gj _ _ _ _ h,Gj _ _ _ _ h,Gj _ _ _ _ h]
theorem Cz (u0 u1:Vq) (b o:Nat) (h:b≠g):((w.setCell ⟨g,0,none⟩ u0).setCell ⟨g,1,none⟩ u1).cell? ⟨b,o,none⟩=w.cell? ⟨b,o,none⟩:=by
 rw[Gj _ _ _ _ h,Gj _ _ _ _ h]

theorem Ii (w:Wq) (o1:Obj):(w.alloc o1).heap[w.heap.size]? = some o1∧(w.alloc o1).heap.size=w.heap.size+1∧Below w.heap.size w (w.alloc o1) :=
 ⟨heap_alloc_new w o1,by simp,(df _ _).alloc (gu _) _⟩

theorem iy.fit {neg:Bool} (h:iy w s neg A cap l z) (hz:je eu K z) (hK:K≤lim):l.length≤lim:=by
 rcases h.form with⟨h1,_⟩|⟨h1,_,_,h2,_⟩
 ·
  omega
 ·
  obtain⟨n,hn⟩:=h.nat
  have hv:n=z.natAbs:=by rw[← h2,hn.val]
  have:=hn.len (k:=K) (by rw[hv];exact hz);omega
end Go.Proofs.YtfgeaakhlcaibaaGreatDoor
