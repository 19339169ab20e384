/- Texts beneath a law of layer 1. -/
import Derived.Test.YtfgeaakhlcaibaaGreatDoorDc10
import Derived.OwnWalk
set_option maxRecDepth 100000
set_option maxHeartbeats 16000000
namespace Go.Proofs.YtfgeaakhlcaibaaGreatDoor
open Go.RowKit
open Go.Proofs.Tryz
open Go renaming World → Wq
open Go renaming Value → Vq
variable {s nm:ByteArray} {x y z:Operand} {n k b m base a off i d off':Nat} {w W w0:Wq} {v u e p sg:Int} {Q:Exit→Act→Wq→Prop} {ty TB:TypeId} {pos:String} {af:Array Edge} {gd:Option (Nat×Bool)} {l rest:List Oper} {T:Nat→Wq→Vq→Prop} {al:List Nat} {a0:Act} {G:Wq→Prop} {c:UInt8} {fs:List (ByteArray×Int)} {ops:Array Oper} {P:Program} {o:Vq} {f:Nat→Int} {q:Rat}

namespace Sb
variable {Q:Exit→Act→Wq→Prop} {l:List Oper} {n:Nat} {T:Nat→Wq→Vq→Prop} {G:Wq→Prop} {al:List Nat} {a0:Act} {k d:Nat} {ty:TypeId} {pos:String} {af:Array Edge} {gd:Option (Nat×Bool)}
theorem Zd:Ie prog 145 2:=by
 intro ρ w d x b off us ty pos af gd hl hc hx
 match us,hl with
 | [u0,u1],_ =>
 have k0:w.cell? ⟨b,off,none⟩=some u0:=hc 0 om
 have k1:w.cell? ⟨b,off+1,none⟩=some u1:=hc 1 om
 clear hc
 simp only[execOp,hx]
 simp[go_sem,k0,k1]
theorem Lv:Cw prog 145 2:=by
 intro ρ w d p x b off cs TB us ty pos af gd hl hu hb ho hp hx
 match us,hl with
 | [u0,u1],_ =>
 have o0:=hu u0 mi
 have o1:=hu u1 mi
 have f0:w.frozen? ⟨b,off,none⟩=false:=ah hb _
 have f1:w.frozen? ⟨b,off+1,none⟩=false:=ah hb _
 obtain⟨c0,k0⟩ : ∃ c,w.cell? ⟨b,off,none⟩=some c:=jl hb om
 obtain⟨c1,k1⟩ : ∃ c,w.cell? ⟨b,off+1,none⟩=some c:=jl hb om
 have hlt:=lt_of_block hb
 clear hb ho hu
 simp only[execOp,hp,hx,setM]
 simp[go_sem,hlt,run_store _ _ _ _ _ o0,o0,run_store _ _ _ _ _ o1,o1,k0,k1,f0,f1]
theorem aty:Np prog 145 [.string ⟨#[]⟩,.int .i64 0]:=by
 intro ρ w d ty pos af gd
 simp only[execOp]
 simp[go_sem]
theorem abf:Wh prog 145 2:=by
 intro w b off us hl hc
 match us,hl with
 | [u0,u1],_ =>
 have k0:w.cell? ⟨b,off,none⟩=some u0:=hc 0 om
 have k1:w.cell? ⟨b,off+1,none⟩=some u1:=hc 1 om
 clear hc
 simp[go_sem,k0,k1]
theorem cfv:Ee prog (fun x => .fieldAddr 145 x 0) 0:=by
 intro a w d x b off ty pos af gd hx
 have hc : ∀ v,a.eval (.const v)=v:=fun _=>rfl
 simp only[execOp,hx,hc]
 simp[go_sem]
theorem axr (hal:al.contains k=false) (hx:cu l n T a0 k x (ax (.pointer (some ⟨b,off,none⟩)))) (ho:off+0=off') (hT:T k=ax (.pointer (some ⟨b,off',none⟩))) :
  ib prog Q l n T G il al a0 k { dst:=some d,op := .fieldAddr 145 x 0,type:=ty,pos:=pos,after:=af,guard:=gd}:=by
 exact Em (P:=prog) (o:=fun x => .fieldAddr 145 x 0) cfv hal hx ho hT
theorem cfu:Ee prog (fun x => .fieldAddr 145 x 1) 1:=by
 intro a w d x b off ty pos af gd hx
 have hc : ∀ v,a.eval (.const v)=v:=fun _=>rfl
 simp only[execOp,hx,hc]
 simp[go_sem]
theorem Ml (hal:al.contains k=false) (hx:cu l n T a0 k x (ax (.pointer (some ⟨b,off,none⟩)))) (ho:off+1=off') (hT:T k=ax (.pointer (some ⟨b,off',none⟩))) :
  ib prog Q l n T G il al a0 k { dst:=some d,op := .fieldAddr 145 x 1,type:=ty,pos:=pos,after:=af,guard:=gd}:=by
 exact Em (P:=prog) (o:=fun x => .fieldAddr 145 x 1) cfu hal hx ho hT
theorem abv {b:Bool} (hal:al.contains k=false) (hx:cu l n T a0 k x (ax (.int .u8 u))) (hy:cu l n T a0 k y (ax (.int .u8 v))) (hb:(u==v)=b) (hT:T k=ax (.bool b)) :
  ib prog Q l n T G il al a0 k { dst:=some d,op := .binOp .eql 5 x y 5,type:=ty,pos:=pos,after:=af,guard:=gd}:=by
 intro a w hG hO hN
 have h1:a.eval x = .int .u8 u:=hx a w hO hN
 have h2:a.eval y = .int .u8 v:=hy a w hO hN
 have hr:(execOp a.eval { dst:=some d,op := .binOp .eql 5 x y 5,type:=ty,pos:=pos,after:=af,guard:=gd}).run prog w = .ok (.value (.bool b)) w:=by
  rw[← hb];simp only[execOp,h1,h2];simp[go_sem,underlying5]
 exact wvz hr hG hal (by rw[hT];rfl)
theorem bck {b:Bool} (hal:al.contains k=false) (hx:cu l n T a0 k x (ax (.int .u8 u))) (hy:cu l n T a0 k y (ax (.int .u8 v))) (hb:(decide (u<v))=b) (hT:T k=ax (.bool b)) :
  ib prog Q l n T G il al a0 k { dst:=some d,op := .binOp .lss 5 x y 5,type:=ty,pos:=pos,after:=af,guard:=gd}:=by
 intro a w hG hO hN
 have h1:a.eval x = .int .u8 u:=hx a w hO hN
 have h2:a.eval y = .int .u8 v:=hy a w hO hN
 have hr:(execOp a.eval { dst:=some d,op := .binOp .lss 5 x y 5,type:=ty,pos:=pos,after:=af,guard:=gd}).run prog w = .ok (.value (.bool b)) w:=by
  rw[← hb];simp only[execOp,h1,h2];simp[go_sem,underlying5]
 exact wvz hr hG hal (by rw[hT];rfl)
theorem bqg {b:Bool} (hal:al.contains k=false) (hx:cu l n T a0 k x (ax (.int .u8 u))) (hy:cu l n T a0 k y (ax (.int .u8 v))) (hb:(decide (v<u))=b) (hT:T k=ax (.bool b)) :
  ib prog Q l n T G il al a0 k { dst:=some d,op := .binOp .gtr 5 x y 5,type:=ty,pos:=pos,after:=af,guard:=gd}:=by
 intro a w hG hO hN
 have h1:a.eval x = .int .u8 u:=hx a w hO hN
 have h2:a.eval y = .int .u8 v:=hy a w hO hN
 have hr:(execOp a.eval { dst:=some d,op := .binOp .gtr 5 x y 5,type:=ty,pos:=pos,after:=af,guard:=gd}).run prog w = .ok (.value (.bool b)) w:=by
  rw[← hb];simp only[execOp,h1,h2];simp[go_sem,underlying5]
 exact wvz hr hG hal (by rw[hT];rfl)
theorem bqc {b:Bool} (hal:al.contains k=false) (hx:cu l n T a0 k x (ax (.int .u8 u))) (hy:cu l n T a0 k y (ax (.int .u8 v))) (hb:(u != v)=b) (hT:T k=ax (.bool b)) :
  ib prog Q l n T G il al a0 k { dst:=some d,op := .binOp .neq 5 x y 5,type:=ty,pos:=pos,after:=af,guard:=gd}:=by
 intro a w hG hO hN
 have h1:a.eval x = .int .u8 u:=hx a w hO hN
 have h2:a.eval y = .int .u8 v:=hy a w hO hN
 have hr:(execOp a.eval { dst:=some d,op := .binOp .neq 5 x y 5,type:=ty,pos:=pos,after:=af,guard:=gd}).run prog w = .ok (.value (.bool b)) w:=by
  rw[← hb];simp only[execOp,h1,h2];simp[go_sem,underlying5]
 exact wvz hr hG hal (by rw[hT];rfl)
theorem cgx {c:Int} (hal:al.contains k=false) (hx:cu l n T a0 k x (ax (.int .u8 u))) (hy:cu l n T a0 k y (ax (.int .u8 v))) (hw:IntKind.u8.wrap (u-v)=c) (hT:T k=ax (.int .u8 c)) :
  ib prog Q l n T G il al a0 k { dst:=some d,op := .binOp .sub 5 x y 5,type:=ty,pos:=pos,after:=af,guard:=gd}:=by
 intro a w hG hO hN
 have h1:a.eval x = .int .u8 u:=hx a w hO hN
 have h2:a.eval y = .int .u8 v:=hy a w hO hN
 have hr:(execOp a.eval { dst:=some d,op := .binOp .sub 5 x y 5,type:=ty,pos:=pos,after:=af,guard:=gd}).run prog w = .ok (.value (.int .u8 c)) w:=by
  simp only[execOp,h1,h2];simp[go_sem,underlying5,hw]
 exact wvz hr hG hal (by rw[hT];rfl)
theorem cmv (hal:al.contains k=false) (hx:cu l n T a0 k x (ax (.int .u8 u))) (hu:IntKind.i64.wrap u=u) (hT:T k=ax (.int .i64 u)) :
  ib prog Q l n T G il al a0 k { dst:=some d,op := .convert 5 3 x,type:=ty,pos:=pos,after:=af,guard:=gd}:=by
 intro a w hG hO hN
 have h1:a.eval x = .int .u8 u:=hx a w hO hN
 have hr:(execOp a.eval { dst:=some d,op := .convert 5 3 x,type:=ty,pos:=pos,after:=af,guard:=gd}).run prog w = .ok (.value (.int .i64 u)) w:=by
  simp only[execOp,h1];simp[go_sem,underlying5,underlying3,hu]
 exact wvz hr hG hal (by rw[hT];rfl)
theorem bqb (hal:al.contains k=false) (hx:cu l n T a0 k x (ax (.string s))) (hy:cu l n T a0 k y (ax (.int .i64 (m:Int)))) (hm:m≤s.size) (hT:T k=ax (.string (s.extract 0 m))) :
  ib prog Q l n T G il al a0 k { dst:=some d,op := .slice 9 x none (some y) none,type:=ty,pos:=pos,after:=af,guard:=gd}:=by
 intro a w hG hO hN
 have h1:a.eval x = .string s:=hx a w hO hN
 have h2:a.eval y = .int .i64 (m:Int):=hy a w hO hN
 have hr:(execOp a.eval { dst:=some d,op := .slice 9 x none (some y) none,type:=ty,pos:=pos,after:=af,guard:=gd}).run prog w = .ok (.value (.string (s.extract 0 m))) w:=by
  simp only[execOp,h1,h2,Option.map];simp[go_sem,hm]
  try omega
 exact wvz hr hG hal (by rw[hT];rfl)
theorem bvh (hal:al.contains k=false) (hx:cu l n T a0 k x (ax (.string s))) (hy:cu l n T a0 k y (ax (.int .i64 (m:Int)))) (hm:m≤s.size) (hT:T k=ax (.string (s.extract m s.size))) :
  ib prog Q l n T G il al a0 k { dst:=some d,op := .slice 9 x (some y) none none,type:=ty,pos:=pos,after:=af,guard:=gd}:=by
 intro a w hG hO hN
 have h1:a.eval x = .string s:=hx a w hO hN
 have h2:a.eval y = .int .i64 (m:Int):=hy a w hO hN
 have hr:(execOp a.eval { dst:=some d,op := .slice 9 x (some y) none none,type:=ty,pos:=pos,after:=af,guard:=gd}).run prog w = .ok (.value (.string (s.extract m s.size))) w:=by
  simp only[execOp,h1,h2,Option.map];simp[go_sem,hm]
  try omega
 exact wvz hr hG hal (by rw[hT];rfl)
theorem ccx (hal:al.contains k=false) (hx:cu l n T a0 k x (ax (.string s))) (hy:cu l n T a0 k y (ax (.int .i64 (m:Int)))) (hz:cu l n T a0 k z (ax (.int .i64 (i:Int)))) (hm:m≤i) (hi:i≤s.size) (hT:T k=ax (.string (s.extract m i))) :
  ib prog Q l n T G il al a0 k { dst:=some d,op := .slice 9 x (some y) (some z) none,type:=ty,pos:=pos,after:=af,guard:=gd}:=by
 intro a w hG hO hN
 have h1:a.eval x = .string s:=hx a w hO hN
 have h2:a.eval y = .int .i64 (m:Int):=hy a w hO hN
 have h3:a.eval z = .int .i64 (i:Int):=hz a w hO hN
 have hr:(execOp a.eval { dst:=some d,op := .slice 9 x (some y) (some z) none,type:=ty,pos:=pos,after:=af,guard:=gd}).run prog w = .ok (.value (.string (s.extract m i))) w:=by
  simp only[execOp,h1,h2,h3,Option.map];simp[go_sem,hm,hi]
  try omega
 exact wvz hr hG hal (by rw[hT];rfl)
theorem Yo (hal:al.contains k=false) (hx:cu l n T a0 k x (ax (.string s))) (hy:cu l n T a0 k y (ax (.int .i64 (i:Int)))) (hi:i<s.size) (hT:T k=ax (.int .u8 (s[i]).toNat)) :
  ib prog Q l n T G il al a0 k { dst:=some d,op := .index 9 x y,type:=ty,pos:=pos,after:=af,guard:=gd}:=by
 intro a w hG hO hN
 have h1:a.eval x = .string s:=hx a w hO hN
 have h2:a.eval y = .int .i64 (i:Int):=hy a w hO hN
 have hr:(execOp a.eval { dst:=some d,op := .index 9 x y,type:=ty,pos:=pos,after:=af,guard:=gd}).run prog w = .ok (.value (.int .u8 (s[i]).toNat)) w:=by
  simp only[execOp,h1,h2];simp[go_sem,hi]
  try (first|rfl|(intro h;exfalso;omega)|omega)
 exact wvz hr hG hal (by rw[hT];rfl)
theorem che {ρ:Operand→Vq} {d:Option Tmp} (h1:ρ x = .string s) (h2:ρ y = .int .i64 p) :
  (execOp ρ { dst:=d,op := .build 145 #[(0,x),(1,y)],type:=ty,pos:=pos,after:=af,guard:=gd}).run prog w = .ok (.value (.agg #[.string s,.int .i64 p])) w:=by
 simp only[execOp]
 simp[go_sem,h1,h2]
 try rfl
theorem cqu (hal:al.contains k=false) (hx:cu l n T a0 k x (ax (.string s))) (hy:cu l n T a0 k y (ax (.int .i64 p))) (hT:T k=bz [.v (.string s),iv p]) :
  ib prog Q l n T G il al a0 k { dst:=some d,op := .build 145 #[(0,x),(1,y)],type:=ty,pos:=pos,after:=af,guard:=gd}:=by
 intro a w hG hO hN
 have hr:=che (w:=w) (d:=some d) (ty:=ty) (pos:=pos) (af:=af) (gd:=gd) (hx a w hO hN) (hy a w hO hN)
 exact wvz hr hG hal (by rw[hT];exact⟨_,rfl,gy.v (atx _) (gy.v (xc _) rfl)⟩)
theorem cgp {a:Act} {p:Operand} {bs:List yz} (hO:Own w0 bs w) (i:Nat) (pre post:List lg)
  (hi:bs[i]? = some (b,TB,pre++([.v o]++post))) (ho:off=ry pre) (hp:a.eval p = .pointer (some ⟨b,off,none⟩)) (hv:a.eval x = .int .i64 v)
  (hk2 : ∀ w',Own w0 (bs.set i (b,TB,pre++([iv v]++post))) w'→(∀ ks u,bz ks w u→bz ks w' u)→wpList prog ops Q rest a w') :
  wpList prog ops Q ({ dst:=none,op := .store 3 p x,type:=ty,pos:=pos,after:=af,guard:=none}::rest) a w:=by
 obtain⟨hlt,he⟩:=agj.1 hi
 have hbs:bs=bs.take i++(b,TB,pre++([.v o]++post))::bs.drop (i+1):=by
  rw[← he,← Si hlt,Lu]
 have hset:bs.set i (b,TB,pre++([iv v]++post))=bs.take i++(b,TB,pre++([iv v]++post))::bs.drop (i+1):=aey .. |>.trans (if_pos hlt)
 rw[hset]at hk2
 rw[hbs]at hO
 have hbx:=hO.box b TB _ (Ht _ Ah)
 obtain⟨hge,cs,hb,hls⟩:=hbx
 have hlen:off<cs.length:=by
  obtain⟨c,cd,rfl,k1,k2⟩:=hls.cut;obtain⟨o1,d1,rfl,k3,k4⟩:=k2.cut;have e1:=k1.len;have e3:=k3.len;have e4:ry [lg.v o]=1:=rfl;simp only[Bj];omega
 unfold wpList
 rw[if_pos (by simp[Region.wanted])]
 refine .inl ?_
 unfold Oper.wp
 rw[anj hb hlen hp hv]
 exact hk2 _ (hO.set (gy.v (xc _) rfl) rfl ho) (fun ks u h=>abk ⟨cs,hb,hls⟩ h)
def EI (e:yz) (w w':Wq):Prop:=il w w'∨(w.grownBy w' (some e.1)∧zn w' e.1 e.2.1 e.2.2)
theorem ape {e:yz} (c:Vq):yu (EI e) (ax c):=fun _ _ _ _ h=>h
theorem bvc {e:yz}:yu (EI e) (StT e):=by
 rintro w w' v (hb|⟨_,h1⟩) h
 ·
  exact zn.below h hb
 ·
  exact h1
theorem ahd {e:yz} {o:Oper} (h:ib P Q l n T G il al a0 k o):ib P Q l n T G (EI e) al a0 k o:=by
 intro a w hG hO hN
 refine Ux (fun a' w' hK => ?_) (h a w hG hO hN)
 obtain⟨v,h1,h2,h3,h4,h5⟩:=hK
 exact⟨v,h1,h2,.inl h3,h4,h5⟩
theorem bvf {bs:List yz} {p:Operand} {A:Vq} {o:Int}
  (hal:al.contains k=false) (hp:cu l n T a0 k p (ax (.pointer (some ⟨b,1,none⟩)))) (hx:cu l n T a0 k x (ax (.int .i64 v))) (hm:(b,TB,[.v A,iv o])∈bs) (hnd:(bs.map Prod.fst).Nodup) (hT:T k=StT (b,TB,[.v A,iv v])) :
  ib prog Q l n T (GS w0 bs (b,TB,[.v A,iv v]) (b,TB,[.v A,iv v])) (EI (b,TB,[.v A,iv v])) al a0 k { dst:=none,op := .store 3 p x,type:=ty,pos:=pos,after:=af,guard:=gd}:=by
 intro a w hG hO hN
 obtain⟨hge,byb⟩:=hG.box b TB _ hm
 obtain⟨z,cs,hb,hls⟩ : ∃ z:Int,zn w b TB [.v A,iv z]:=by
  rcases byb with g|⟨e,rfl|rfl,_,g⟩
  ·
   exact⟨o,g⟩
  ·
   exact⟨v,g⟩
  ·
   exact⟨v,g⟩
 have hnw:=hls.noW
 obtain⟨r1,rfl,hA,h3⟩:=gy.Jc hls
 obtain⟨r2,rfl,_,h4⟩:=gy.Jc h3
 cases h4
 have hr:=anj (d:=none) (ty:=ty) (pos:=pos) (af:=af) (gd:=gd) hb (off:=1) (show 1<2 by omega) (hp a w hO hN) (hx a w hO hN)
 have hg:=Al b [Value.int .i64 v] 1 w w (wy _ _)
 have hnew:zn (setM w b 1 [.int .i64 v]) b TB [.v A,iv v]:=⟨[A,.int .i64 v],aai (T:=TB) [Value.int .i64 v] [.int .i64 z] [A] [] w rfl hb,gy.v hA (gy.v (xc _) rfl)⟩
 unfold Oper.wp
 rw[hr]
 refine⟨undef,rfl,⟨hG.bel.grown hg hG.bel.size (fun k hk=>by injection hk with hk;omega),fun b' T' ls' hm' => ?_⟩,.inr ⟨hg,hnew⟩,by rw[hT];exact hnew,fun h=>by rw[hal]at h;cases h⟩
 obtain⟨k1,k2⟩:=hG.box b' T' ls' hm'
 refine⟨k1,?_⟩
 by_cases hbb:b'=b
 ·
  subst hbb;have:(T',ls')=(TB,[lg.v A,iv o]):=aql hnd hm' hm;obtain⟨rfl,rfl⟩:=Prod.mk.inj this;exact .inr ⟨_,.inl rfl,rfl,hnew⟩
 ·
  have keep : ∀ ls,zn w b' T' ls→zn (setM w b 1 [.int .i64 v]) b' T' ls:=fun ls ⟨ds,g1,g2⟩=>⟨ds,(hg.block b' (lt_of_block g1) (fun x=>hbb (by injection x))).trans g1,g2.upto hb hnw hg⟩
  rcases k2 with k2|⟨e,k3,k4,k5⟩
  ·
   exact .inl (keep _ k2)
  ·
   exact .inr ⟨e,k3,k4,keep _ k5⟩
theorem cec {V:Wq} {bs:List yz} {e:yz} {T:TypeId} {ls:List lg} (hm:(b,T,ls)∈bs) (hne:e.1≠b) (h:GS w bs e e V):w.heap.size≤b∧zn V b T ls:=⟨(h.box _ _ _ hm).1,GS.get hm (fun k=>absurd k hne) (fun k=>absurd k hne) h⟩
def AnyF:Wq→Vq→Prop:=fun W v => ∃ nm p,bz [.v (.string nm),iv p] W v
def cmb:Option (List UInt8×Int)→Wq→Vq→Prop
 | some e=>ko [bz [.v (.string (tx e.1)),iv e.2],ax (.bool true)]
 | none=>ko [AnyF,ax (.bool false)]
theorem aic {fn:Func} {a:Act} {s t:Nat} {T:TypeId} {bs:List yz} {u:Vq} (hr:fn.results=#[.cell s T,.tmp t]) (hL:Wh P T n) (ht:a.tmps.getD s undef = .pointer (some ⟨b,0,none⟩)) (hu:a.tmps.getD t undef=u) (hO:Own w0 bs w) (hm:(b,TB,[.v (.string nm),iv p])∈bs) (hn:ry [.v (.string nm),iv p]=n) (hd:a.defers=[]):bodyPost P fn (gp (ko [AnyF,ax u]) w0) .ret a w:=by
 obtain⟨cs,h1,h2⟩:=(hO.box b TB _ hm).2.bmo hL hn
 refine bodyPost_ret (v := .tuple [.agg cs.toArray,u].toArray) ?_ hd ⟨_,rfl,hO.bel,_,rfl,⟨_,_,rfl,⟨nm,p,cs,rfl,h2⟩,_,_,rfl,rfl,rfl⟩⟩
 rw[bks]at ht hu
 simp only[results,hr]
 clear hO hL
 generalize loadVar=ldv at *
 simp[ht,hu,go_sem,h1]
theorem bmp {c:Int} (h:su c=true):(97≤c∧c≤122)∨(¬ 97≤c∧65≤c∧c≤90):=by
 unfold su at h
 simp only[agp,Bz,Ey]at h
 omega
theorem bsb {c:Int} (h:su c=false):(97≤c ∧ ¬ c≤122∧65≤c ∧ ¬ c≤90)∨(¬ 97≤c ∧ ¬ 65≤c)∨(¬ 97≤c∧65≤c ∧ ¬ c≤90):=by
 unfold su at h
 simp only[Bool.or_eq_false_iff,Bool.and_eq_false_iff,aru]at h
 omega
end Sb


namespace Sb
theorem bcj {b:ByteArray} (he:s.extract m s.size=b) (hal:al.contains k=false) (hx:cu l n T a0 k x (ax (.string s))) (hy:cu l n T a0 k y (ax (.int .i64 (m:Int)))) (hm:m≤s.size) (hT:T k=ax (.string b)) :
  ib prog Q l n T G il al a0 k { dst:=some d,op := .slice 9 x (some y) none none,type:=ty,pos:=pos,after:=af,guard:=gd}:=by
 subst he
 exact bvh hal hx hy hm hT
theorem bwk {a r:List UInt8} {o:Option (List UInt8×Int)} (w:Wq) (hm:m≤s.size) (hz:s.size≤1000000) (hl : ∀ j (h:j<s.size),j<m→su (s[j].toNat:Int)=true) (hs : ∀ h:m<s.size,su (s[m].toNat:Int)=false)
  (ha:s.extract 0 m=tx a) (hr:s.extract m s.size=tx r)
  (hres:(m=0→o=none)∧(¬ m=0→r=[]→o=some (a,1))∧(¬ m=0 → ∀ c rs,r=c::rs → ∀ b,((c.toNat:Int)==45)=b → ∀ d sg,d=(if b=true then rs else c::rs)→sg=(if b=true then(-1:Int)else 1) →
   (∀ x,d=[x]→49≤(x.toNat:Int)→(x.toNat:Int)≤57→o=some (a,sg*((x.toNat:Int)-48)))∧((∀ x,d=[x]→49≤(x.toNat:Int) → ¬ (x.toNat:Int)≤57)→o=none))) :
  Calls prog 210 #[.string s] w (gp (cmb o) w):=by
 have HM:=ae hm
 have HZ:=ae hz
 have HL:=ae hl
 have HS:=ae hs
 have HA:=ae ha
 have HR:=ae hr
 have aml:=ae hres
 clear hm hz hl hs ha hr hres
 go_enter func210,ntmps210
 go_upto_region 1 with fail
 have hO:=(Own.push (T:=145) (ls:=zF) (Own.nil w) (gy.vs w [.string ⟨#[]⟩,.int .i64 0] rfl) (w.heap.size) rfl)
 generalize w.alloc (.cells #[.string ⟨#[]⟩,.int .i64 0] 145)=W0 at *
 have HO:=ae hO
 clear hO
 go_upto_block 0 with(fail)
 go_cut [4] (fun v wx=>v = .int .i64 (m:Int)∧wx=W0)
 case first =>
  go_wp2_with fail
  go_loop [4] (fun iv => ∃ k:Nat,k≤m∧iv = .int .i64 (k:Int)) (fun iv=>m-(intOf iv).toNat)
  case atStart=>exact⟨0,ug _,by first|rfl|go_num⟩
  case round =>
   clear HO;obtain⟨k,hk,rfl⟩:=hrel;have hz:=aa HZ
   by_cases hlt:k<s.size
   ·
    have d1:decide ((k:Int)<(s.size:Int))=true:=dm om;have d2:decide (k<s.size)=true:=dm hlt
    by_cases g:k<m
    ·
     have hcs:=bmp ((aa HL) k hlt g);have HG:=ae g
     rcases hcs with⟨q1,q2⟩|⟨q1,q2,q3⟩
     ·
      have f0:decide ((97:Int)≤(s[k].toNat:Int))=true:=dm om;have f1:decide ((s[k].toNat:Int)≤(122:Int))=true:=dm om;clear q1 q2 g;go_wp2_with fail
      go_round
      case rel=>exact⟨k+1,by have:=aa HG;omega,by go_num⟩
      case measure=>have:=aa HG;simp[intOf]<;>omega
     ·
      have f0:decide ((97:Int)≤(s[k].toNat:Int))=false:=dw om;have f2:decide ((65:Int)≤(s[k].toNat:Int))=true:=dm om;have f3:decide ((s[k].toNat:Int)≤(90:Int))=true:=dm om;clear q1 q2 q3 g;go_wp2_with fail
      go_round
      case rel=>exact⟨k+1,by have:=aa HG;omega,by go_num⟩
      case measure=>have:=aa HG;simp[intOf]<;>omega
    ·
     obtain rfl:k=m:=by omega
     have hcs:=bsb ((aa HS) hlt)
     rcases hcs with⟨q1,q2,q3,q4⟩|⟨q1,q2⟩|⟨q1,q2,q3⟩
     ·
      have f0:decide ((97:Int)≤(s[k].toNat:Int))=true:=dm om;have f1:decide ((s[k].toNat:Int)≤(122:Int))=false:=dw om;have f2:decide ((65:Int)≤(s[k].toNat:Int))=true:=dm om;have f3:decide ((s[k].toNat:Int)≤(90:Int))=false:=dw om;clear q1 q2 q3 q4 g;go_wp2_with fail
      all_goals (go_meet;exact⟨rfl,rfl⟩)
     ·
      have f0:decide ((97:Int)≤(s[k].toNat:Int))=false:=dw om;have f2:decide ((65:Int)≤(s[k].toNat:Int))=false:=dw om;clear q1 q2 g;go_wp2_with fail
      all_goals (go_meet;exact⟨rfl,rfl⟩)
     ·
      have f0:decide ((97:Int)≤(s[k].toNat:Int))=false:=dw om;have f2:decide ((65:Int)≤(s[k].toNat:Int))=true:=dm om;have f3:decide ((s[k].toNat:Int)≤(90:Int))=false:=dw om;clear q1 q2 q3 g;go_wp2_with fail
      all_goals (go_meet;exact⟨rfl,rfl⟩)
   ·
    have d1:decide ((k:Int)<(s.size:Int))=false:=dw om;have d2:decide (k<s.size)=false:=dw hlt;obtain rfl:k=m:=by have:=aa HM;omega
    go_wp2_with fail
    all_goals (go_meet;exact⟨rfl,rfl⟩)
 case rest =>
  obtain⟨rfl,rfl⟩:=hcut;generalize wc=C0 at *;go_upto_region 4 with fail;refine fw 5 [_,_,_,_,_] [4] HO (dh aF (dh aF (au (bqb rfl (aT 0) (aT 1) (aa HM) rfl) (au (cqu rfl (aT 2) (fe _) rfl) (Am aty ai))))) ?_
  intro v1 V1 hG1 hv1 hne1;obtain⟨Ox,e4,hge4,Mq⟩:=(show qw 145 zF C0.heap.size V1 (v1 4)from hv1 4 de)
  simp only[ay,Act.put,tA,e4];have hO:=hG1.1;replace hO:=Own.add (aa HO) hG1.2 hge4 Mq;clear hge4 Mq;refine kg hO 0 Lv (hv1 3 de) ?_
  clear hO;intro Ep hO hk0;replace HO:=ae hO;clear hO hG1 hv1 hne1 hk0;try clear e4;go_upto_region 5 with fail;refine fw 4 [_,_,_,_] [] HO (dh aF (dh aF (au (bcj (aa HR) rfl (aT 0) (aT 1) (aa HM) rfl) (Ak (aT 2) ai)))) ?_
  intro v2 V2 hG2 hv2 hne2;simp only[ay,Act.put,tA,show v2 2 = .string (tx r)from hv2 2 de,show v2 3 = .string (tx r)from hv2 3 de];replace HO:=ae hG2.1;clear hG2 hv2 hne2
  by_cases g0:m=0
  ·
   have ho:o=none:=(aa aml).1 g0;subst ho;clear aml;have d6:((m:Int)==0)=true:=by rw[g0];rfl
   have d7:decide (0<(m:Int))=false:=dw om;clear g0;go_upto_region 6 with fail;refine fw 6 [_,_,_,_,_,_] [] HO (dh aF (au (blq rfl (aT 0) (fe _) rfl d6) (dh (aT 1) (ve (ve (au (qj rfl (aT 2) (fe _)) ai)))))) ?_
   intro v3 V3 hG3 hv3 ji;simp only[ay,Act.put,tA,exv (hv3 5 de)];replace HO:=ae hG3.1;clear hG3 hv3 ji;go_upto_region 7 with fail;refine fw 3 [_,_,_] [] HO (xh Zd me0 aF (dh aF (au (Lp rfl (aT 1) (fe _) rfl d7) ai))) ?_
   intro v4 V4 hG4 hv4 ma;simp only[ay,Act.put,tA,exv (hv4 2 de)];have hO:=hG4.1;refine kg hO 1 Lv (hv4 0 de) ?_
   clear hO;intro Dy hO hk0;replace HO:=ae hO;clear hO hG4 hv4 ma hk0;go_wp2_with fail;exact aic results210 abf rfl rfl (aa HO) uq rfl rfl
  ·
   have d6:((m:Int)==0)=false:=oo.2 om;have d7:decide (0<(m:Int))=true:=dm om;have HG0:=ae g0;clear g0
   cases r with
   | nil =>
    have ho:o=some (a,1):=(aa aml).2.1 (aa HG0) rfl;subst ho;clear aml;go_upto_region 6 with fail;refine fw 6 [_,_,_,_,_,_] [] HO (dh aF (au (blq rfl (aT 0) (fe _) rfl d6) (dh (aT 1) (ku (jh rfl aF) (ku (Gq (p:=[]) (q:=[]) rfl (aT 3) (fe _) rfl rfl) (au (mh rfl (aT 2) (aT 4)) ai)))))) ?_
    intro v3 V3 hG3 hv3 ji;simp only[ay,Act.put,tA,exv (hv3 5 de)];replace HO:=ae hG3.1;clear hG3 hv3 ji;clear d6;go_upto_region 7 with fail;refine fw 3 [_,_,_] [] HO (xh Zd me0 aF (dh aF (au (Lp rfl (aT 1) (fe _) rfl d7) ai))) ?_
    intro v4 V4 hG4 hv4 ma;simp only[ay,Act.put,tA,exv (hv4 2 de)];have hO:=hG4.1;refine kg hO 1 Lv (hv4 0 de) ?_
    clear hO;intro Dy hO hk0;replace HO:=ae hO;clear hO hG4 hv4 ma hk0;rw[aa HA]at HO;go_wp2_with fail;exact vo results210 abf rfl rfl (aa HO) uq rfl rfl
   | cons c rs =>
    go_upto_region 6 with fail;refine fw 6 [_,_,_,_,_,_] [] HO (dh aF (au (blq rfl (aT 0) (fe _) rfl d6) (dh (aT 1) (ku (jh rfl aF) (ku (Gq (p:=c::rs) (q:=[]) rfl (aT 3) (fe _) rfl rfl) (au (mh rfl (aT 2) (aT 4)) ai)))))) ?_
    intro v3 V3 hG3 hv3 ji;simp only[ay,Act.put,tA,exv (hv3 5 de)];replace HO:=ae hG3.1;clear hG3 hv3 ji;clear d6 d7;obtain⟨b45,cjs⟩ : ∃ b,b=((c.toNat:Int)==45):=⟨_,rfl⟩
    obtain⟨d,hd⟩ : ∃ d,d=(if b45=true then rs else c::rs):=⟨_,rfl⟩
    obtain⟨sg,hsg⟩ : ∃ sg:Int,sg=(if b45=true then -1 else 1):=⟨_,rfl⟩
    have bzg:=ae cjs.symm;have HD:=ae hd;have Sc:=ae hsg;clear cjs hd hsg;go_upto_region 8 with fail;refine fw 3 [_,_,_] [] HO (dh aF (au (Pf (ls:=rs) rfl (aT 0) rfl rfl) (au (abv rfl (aT 1) (fe _) (aa bzg) rfl) ai))) ?_
    intro v4 V4 hG4 hv4 ma;simp only[ay,Act.put,tA,show v4 2 = .bool b45 from hv4 2 de];replace HO:=ae hG4.1;clear hG4 hv4 ma
    go_upto_if 55 with(fail)
    go_cut [6] (fun s5 wx=>s5 = .string (tx d)∧Own w [(Ox,145,[.v (.string (s.extract 0 m)),iv sg]),(w.heap.size,145,zF)] wx)
    case first =>
     cases b45 with
     | true =>
      obtain rfl:d=rs:=by rw[aa HD];rfl
      obtain rfl:sg = -1:=by rw[aa Sc];rfl
      go_upto_region 9 with fail;refine ami 4 82 (ui [ax (.string (tx (c::d))),ax (.string (tx d)),ax (.pointer (some ⟨Ox,1,none⟩)),StT (Ox,145,[.v (.string (s.extract 0 m)),iv (-1)])]) (GS w [(Ox,145,[.v (.string (s.extract 0 m)),iv 1]),(w.heap.size,145,zF)] (Ox,145,[.v (.string (s.extract 0 m)),iv (-1)]) (Ox,145,[.v (.string (s.extract 0 m)),iv (-1)])) (EI (Ox,145,[.v (.string (s.extract 0 m)),iv (-1)])) [] kr kr rfl (qm.pick ⟨(ape _),(ape _),(ape _),(bvc),trivial⟩) (GS.start (aa HO))
       (oh (Ef rfl (ahd (jh rfl aF)))
        (oh (Ef rfl (ahd (Dq (ls:=d) rfl (aT 0) rfl rfl)))
        (oh (Ef rfl (ahd (Ml (b:=Ox) (off:=0) rfl aF rfl rfl)))
        (oh (Ef rfl (bvf rfl (aT 2) (fe _) me0 (aa HO).nd rfl))
        ai)))) ?_
      intro v5 V5 mo hv5 hne5;simp only[ay,Act.put,tA,show v5 1 = .string (tx d)from hv5 1 de,show v5 2 = .pointer (some ⟨Ox,1,none⟩)from hv5 2 de];have hO:Own w [(Ox,145,[.v (.string (s.extract 0 m)),iv (-1)]),(w.heap.size,145,zF)] V5:=by
       refine⟨mo.bel,(aa HO).nd,fun b T ls hm => ?_⟩
       rcases yx.1 hm with e|hm
       ·
        cases e;exact⟨(mo.box _ _ _ me0).1,(show zn V5 Ox 145 [.v (.string (s.extract 0 m)),iv (-1)]from hv5 3 de)⟩
       rcases yx.1 hm with e|hm
       ·
        cases e;exact cec uq (fun h=>absurd (show(Ox:Nat)=w.heap.size from h) (by have:=(aa HO).nd;intro h2;simp[h2]at this)) mo
       cases hm
      replace HO:=ae hO;clear hO mo hv5 hne5;go_wp2_with fail
      go_meet
      exact⟨rfl,aa HO⟩
     | false =>
      obtain rfl:d=c::rs:=by rw[aa HD];rfl
      obtain rfl:sg=1:=by rw[aa Sc];rfl
      go_wp2_with fail
      go_meet
      exact⟨rfl,aa HO⟩
    case rest =>
     revert hcut
     generalize wc=C5;intro hcut;obtain⟨rfl,hcO⟩:=hcut;clear HO;have HO:=ae hcO;clear hcO;have HRS:=ae (show(∀ x,d=[x]→49≤(x.toNat:Int)→(x.toNat:Int)≤57→o=some (a,sg*((x.toNat:Int)-48)))∧((∀ x,d=[x]→49≤(x.toNat:Int) → ¬ (x.toNat:Int)≤57)→o=none)from(aa aml).2.2 (aa HG0) c rs rfl b45 (aa bzg) d sg (aa HD) (aa Sc));clear aml bzg HD
     by_cases g1:d.length=1
     ·
      obtain⟨x,rfl⟩:=List.length_eq_one_iff.1 g1
      by_cases g2:(x.toNat:Int)<49
      ·
       have ho:o=none:=(aa HRS).2 fun y hy h1=>by
        cases hy
        exact absurd g2 om
       subst ho;clear HRS;have d9:decide ((x.toNat:Int)<49)=true:=dm g2;clear g1 g2;go_upto_region 10 with fail;refine fw 13 [_,_,_,_,_,_,_,_,_,_,_,_,_] [] HO (dh aF (au (Ar rfl (aT 0) rfl) (au (bav rfl (aT 1) (fe _) rfl rfl) (dh (aT 2) (ku (jh rfl aF) (ku (Pf (ls:=[]) rfl (aT 4) rfl rfl) (ku (bck rfl (aT 5) (fe _) d9 rfl) (au (mh rfl (aT 3) (aT 6)) (dh (aT 7) (ve (ve (ve (au (qj rfl (aT 8) (fe _)) ai))))))))))))) ?_
       intro v6 V6 qb hv6 vw;simp only[ay,Act.put,tA,exv (hv6 12 de)];replace HO:=ae qb.1;clear qb hv6 vw;clear d9;go_upto_region 11 with fail;refine fw 1 [_] [] HO (xh Zd me0 aF ai) ?_
       intro v7 V7 vg hv7 zw;simp only[ay,Act.put,tA];have hO:=vg.1;refine kg hO 1 Lv (hv7 0 de) ?_
       clear hO;intro Xm hO hk0;replace HO:=ae hO;clear hO vg hv7 zw hk0;go_wp2_with fail;exact aic results210 abf rfl rfl (aa HO) uq rfl rfl
      ·
       by_cases g3:(57:Int)<(x.toNat:Int)
       ·
        have ho:o=none:=(aa HRS).2 fun y hy h1=>by
         cases hy
         omega
        subst ho;clear HRS;have d9:decide ((x.toNat:Int)<49)=false:=dw g2;have d10:decide ((57:Int)<(x.toNat:Int))=true:=dm g3;clear g1 g2 g3;go_upto_region 10 with fail;refine fw 13 [_,_,_,_,_,_,_,_,_,_,_,_,_] [] HO (dh aF (au (Ar rfl (aT 0) rfl) (au (bav rfl (aT 1) (fe _) rfl rfl) (dh (aT 2) (ku (jh rfl aF) (ku (Pf (ls:=[]) rfl (aT 4) rfl rfl) (ku (bck rfl (aT 5) (fe _) d9 rfl) (au (mh rfl (aT 3) (aT 6)) (dh (aT 7) (ku (jh rfl aF) (ku (Pf (ls:=[]) rfl (aT 9) rfl rfl) (ku (bqg rfl (aT 10) (fe _) d10 rfl) (au (mh rfl (aT 8) (aT 11)) ai))))))))))))) ?_
        intro v6 V6 qb hv6 vw;simp only[ay,Act.put,tA,exv (hv6 12 de)];replace HO:=ae qb.1;clear qb hv6 vw;clear d9 d10;go_upto_region 11 with fail;refine fw 1 [_] [] HO (xh Zd me0 aF ai) ?_
        intro v7 V7 vg hv7 zw;simp only[ay,Act.put,tA];have hO:=vg.1;refine kg hO 1 Lv (hv7 0 de) ?_
        clear hO;intro Xm hO hk0;replace HO:=ae hO;clear hO vg hv7 zw hk0;go_wp2_with fail;exact aic results210 abf rfl rfl (aa HO) uq rfl rfl
       ·
        obtain⟨p,hp⟩ : ∃ p:Int,p=(x.toNat:Int)-48:=⟨_,rfl⟩
        have ho:o=some (a,sg*p):=by rw[hp];exact(aa HRS).1 x rfl om om
        subst ho;clear HRS;have d9:decide ((x.toNat:Int)<49)=false:=dw g2;have d10:decide ((57:Int)<(x.toNat:Int))=false:=dw g3;have hsg:sg = -1∨sg=1:=by rw[aa Sc];split<;>simp
        have HW1:=ae (show IntKind.u8.wrap ((x.toNat:Int)-48)=p by rw[← hp];exact wrap_u8 om om);have HW2:=ae (show IntKind.i64.wrap p=p from Es _ om);have HW3:=ae (show wrap64 (sg*p)=sg*p from Cs _ (by rcases hsg with h|h<;>rw[h]<;>omega));clear g1 g2 g3 hp hsg;go_upto_region 10 with fail;refine fw 13 [_,_,_,_,_,_,_,_,_,_,_,_,_] [] HO (dh aF (au (Ar rfl (aT 0) rfl) (au (bav rfl (aT 1) (fe _) rfl rfl) (dh (aT 2) (ku (jh rfl aF) (ku (Pf (ls:=[]) rfl (aT 4) rfl rfl) (ku (bck rfl (aT 5) (fe _) d9 rfl) (au (mh rfl (aT 3) (aT 6)) (dh (aT 7) (ku (jh rfl aF) (ku (Pf (ls:=[]) rfl (aT 9) rfl rfl) (ku (bqg rfl (aT 10) (fe _) d10 rfl) (au (mh rfl (aT 8) (aT 11)) ai))))))))))))) ?_
        intro v6 V6 qb hv6 vw;simp only[ay,Act.put,tA,exv (hv6 12 de)];replace HO:=ae qb.1;clear qb hv6 vw;clear d9 d10;go_upto_region 12 with fail;refine Nw 8 [_,_,_,_,_,_,_,_] [] HO (au (Ml (b:=Ox) (off:=0) rfl aF rfl rfl) (au (Jd Fe me0 (aT 0) [.v (.string (s.extract 0 m))] [] rfl) (dh aF (au (Pf (ls:=[]) rfl (aT 2) rfl rfl) (au (cgx rfl (aT 3) (fe _) (aa HW1) rfl) (au (cmv rfl (aT 4) (aa HW2) rfl) (au (akp rfl (aT 1) (aT 5) (aa HW3) rfl) (au (Ml (b:=Ox) (off:=0) rfl aF rfl rfl) ai)))))))) ?_
        intro v7 V7 vg hv7 zw;simp only[ay,Act.put,tA,show v7 6 = .int .i64 (sg*p)from hv7 6 de,show v7 7 = .pointer (some ⟨Ox,1,none⟩)from hv7 7 de];have hO:=vg.1;refine cgp (v:=(sg*p)) hO 0 [.v (.string (s.extract 0 m))] [] rfl rfl rfl rfl ?_
        intro Xm rf hk0;replace hO:=rf;clear rf;replace HO:=ae hO;clear hO vg hv7 zw hk0;go_upto_region 13 with fail;refine fw 1 [_] [] HO (xh Zd me0 aF ai) ?_
        intro v8 V8 Eb En Ju;simp only[ay,Act.put,tA];have hO:=Eb.1;refine kg hO 1 Lv (En 0 de) ?_
        clear hO;intro air hO hk0;replace HO:=ae hO;clear hO Eb En Ju hk0;rw[aa HA]at HO;go_wp2_with fail;exact vo results210 abf rfl rfl (aa HO) uq rfl rfl
     ·
      have ho:o=none:=(aa HRS).2 fun x hx=>absurd (by rw[hx];rfl) g1
      subst ho;clear HRS;have d8:(((tx d).size:Int) != 1)=true:=by rw[xw];simp only[aes,ne_eq];omega
      clear g1;go_upto_region 10 with fail;refine fw 13 [_,_,_,_,_,_,_,_,_,_,_,_,_] [] HO (dh aF (au (Ar rfl (aT 0) rfl) (au (bav rfl (aT 1) (fe _) rfl d8) (dh (aT 2) (ve (ve (ve (au (qj rfl (aT 3) (fe _)) (dh (aT 7) (ve (ve (ve (au (qj rfl (aT 8) (fe _)) ai))))))))))))) ?_
      intro v6 V6 qb hv6 vw;simp only[ay,Act.put,tA,exv (hv6 12 de)];replace HO:=ae qb.1;clear qb hv6 vw;clear d8;go_upto_region 11 with fail;refine fw 1 [_] [] HO (xh Zd me0 aF ai) ?_
      intro v7 V7 vg hv7 zw;simp only[ay,Act.put,tA];have hO:=vg.1;refine kg hO 1 Lv (hv7 0 de) ?_
      clear hO;intro Xm hO hk0;replace HO:=ae hO;clear hO vg hv7 zw hk0;go_wp2_with fail;exact aic results210 abf rfl rfl (aa HO) uq rfl rfl
theorem cet {b:Bool} {d:List UInt8} (h : ∀ x,d=[x]→49≤(x.toNat:Int) → ¬ (x.toNat:Int)≤57):digU b d=none:=by
 match d,h with
 | [],_=>rfl
 | [x],h=>exact if_neg fun k=>h x rfl om om
 | x::y::t,_=>rfl
theorem biy (s:ByteArray) (hz:s.size≤1000000) (w:Wq):Calls prog 210 #[.string s] w (gp (cmb (Ow s.data.toList)) w):=by
 obtain⟨l,hl⟩ : ∃ l,l=s.data.toList:=⟨_,rfl⟩
 have hs:s.size=l.length:=by rw[hl,oq]
 obtain⟨m,hm⟩ : ∃ m,m=(l.takeWhile Cc).length:=⟨_,rfl⟩
 have htd:=bbo (p:=Cc) (l:=l)
 have hml:m≤l.length:=by
  have h:=Ez List.length htd;rw[Bj]at h;omega
 have hlet : ∀ j (h:j<s.size),j<m→su (s[j].toNat:Int)=true:=fun j h hj=>by
  have h2:j<l.length:=by omega
  have h3:=bbs l j om h2;subst hl;exact h3
 have hdw:=awq l
 rw[← hm]at hdw
 have hstop : ∀ h:m<s.size,su (s[m].toNat:Int)=false:=fun h=>by
  cases hr:l.dropWhile Cc with
  | nil =>
   have h1:=Ez List.length htd;rw[hr,Oz]at h1;omega
  | cons c r =>
   have h1:=dw_head hr;have h2:l[m]? = some c:=by
    have h3:(l.drop m)[0]? = some c:=by rw[← hdw,hr];rfl
    rw[Sd]at h3;exact h3
   have h4:l[m]'(by omega)=c:=by
    rw[Cj om]at h2;exact Az h2
   subst hl;have h5:s[m]=c:=h4;rw[h5];exact h1
 have hex:(s.extract m s.size).data.toList=l.dropWhile Cc:=by
  have h1:(s.extract m s.size).data.toList=(s.data.extract m s.size).toList:=by rw[bap]
  rw[h1,bkv,hdw,hl,bko,Fb (by rw[Kv,← hl];omega)]
 have bxz:s.extract m s.size=tx (l.dropWhile Cc):=by rw[← Fz (s.extract m s.size),hex];rfl
 have hname:s.extract 0 m=tx (l.takeWhile Cc):=by
  rw[← Fz (s.extract 0 m),Lib.extract_from_zero,bii,← hm,hl];rfl
 rw[← hl]
 refine bwk (o:=Ow l) w om hz hlet hstop hname bxz ⟨fun h => ?_,fun h h2 => ?_,fun h c rs hr b hb d sg hd hsg => ?_⟩
 ·
  unfold Ow;exact if_pos (ari om)
 ·
  have h0:l.takeWhile Cc≠[]:=fun e=>h (by rw[hm,e];rfl)
  rw[h2,Oz]at htd;unfold Ow;rw[if_neg h0,if_pos h2,htd]
 ·
  have h0:l.takeWhile Cc≠[]:=fun e=>h (by rw[hm,e];rfl)
  have hf:Ow l=(digU b d).map fun p=>(l.takeWhile Cc,p):=by
   unfold Ow;rw[if_neg h0,if_neg (by rw[hr];simp),hr];have hsn:ako (c::rs)=(b,d):=by
    unfold ako
    by_cases g:c=45
    ·
     have hb':b=true:=by rw[← hb,g];rfl
     rw[if_pos (by rw[g];rfl),hd,hb'];rfl
    ·
     have hb':b=false:=by
      rw[← hb];exact oo.2 fun e=>g (Rf.1 (by show c.toNat=45;omega))
     rw[if_neg (by intro e;exact g (Az e)),hd,hb'];rfl
   rw[hsn]
  refine⟨fun x hx h1 h2 => ?_,fun hno => ?_⟩
  ·
   rw[hf,hx,show digU b [x]=_ from if_pos ⟨by omega,by omega⟩,hsg]
   cases b with
   | true=>show some (_,-((x.toNat:Int)-48))=some (_,-1*((x.toNat:Int)-48));rw[show -1*((x.toNat:Int)-48) = -((x.toNat:Int)-48)by omega]
   | false=>show some (_,(x.toNat:Int)-48)=some (_,1*((x.toNat:Int)-48));rw[aae]
  ·
   rw[hf,cet hno];rfl
end Sb


namespace Sb
def cutL:List UInt8→List (List UInt8)
 | []=>[[]]
 | c::l=>if c=46 then[]::cutL l else match cutL l with
  | []=>[[c]]
  | p::r=>(c::p)::r
theorem abj : ∀ l,cutL l≠[]
 | []=>by decide
 | c::l=>by
  show(if c=46 then[]::cutL l else match cutL l with|[]=>[[c]]|p::r=>(c::p)::r)≠[]
  split
  ·
   simp
  ·
   split<;>simp
theorem aid (l:List UInt8):cutL (46::l)=[]::cutL l:=by
 show(if (46:UInt8)=46 then[]::cutL l else _)=_
 exact if_pos rfl
theorem Zj {l p:List UInt8} {r:List (List UInt8)} (hc:c≠46) (h:cutL l=p::r):cutL (c::l)=(c::p)::r:=by
 show(if c=46 then[]::cutL l else match cutL l with|[]=>[[c]]|p::r=>(c::p)::r)=_
 rw[if_neg hc,h]
theorem bfl : ∀ {a b:List UInt8},(46:UInt8) ∉ a→cutL (a++46::b)=a::cutL b
 | [],b,_=>aid b
 | c::a,b,h=>by
  have h1:c≠46:=fun e=>h (by rw[e];exact Ah)
  have h2:(46:UInt8) ∉ a:=fun e=>h (Fw _ e)
  exact Zj h1 (bfl h2)
theorem bfm : ∀ {a:List UInt8},(46:UInt8) ∉ a→cutL a=[a]
 | [],_=>rfl
 | c::a,h=>by
  have h1:c≠46:=fun e=>h (by rw[e];exact Ah)
  have h2:(46:UInt8) ∉ a:=fun e=>h (Fw _ e)
  exact Zj h1 (bfm h2)
theorem bxc : ∀ {q:List (List UInt8)},q≠[]→Lib.join ([]::q) [46]=46::Lib.join q [46]
 | [],h=>absurd rfl h
 | p::r,_=>by
  rw[amu,amu];unfold Lib.joinTail
  simp
theorem azb : ∀ l,Lib.join (cutL l) [46]=l
 | []=>rfl
 | c::l=>by
  have ih:=azb l
  by_cases hc:c=46
  ·
   subst hc;rw[aid,bxc (abj l),ih]
  ·
   cases h:cutL l with
   | nil=>exact absurd h (abj l)
   | cons p r =>
    rw[Zj hc h];rw[h,amu]at ih;rw[amu,Ut,ih]
theorem alr : ∀ (l:List UInt8) (p:List UInt8),p∈cutL l→(46:UInt8) ∉ p
 | [],p,h=>by
  rw[show p=[]from Rj.1 h]
  simp
 | c::l,p,h=>by
  by_cases hc:c=46
  ·
   subst hc;rw[aid]at h
   rcases yx.1 h with h|h
   ·
    rw[h];simp
   ·
    exact alr l p h
  ·
   cases e:cutL l with
   | nil=>exact absurd e (abj l)
   | cons q r =>
    rw[Zj hc e]at h;have ih:=alr l;rw[e]at ih
    rcases yx.1 h with h|h
    ·
     rw[h];intro hm
     rcases yx.1 hm with hm|hm
     ·
      exact hc hm.symm
     ·
      exact ih q Ah hm
    ·
     exact ih p (Fw _ h)
theorem ayb (l:List UInt8):parts (tx l)=(cutL l).map tx:=by
 have h:=bgz (abj l) (alr l)
 rw[azb]at h
 exact h
def Wl (l:List UInt8) (k a n:Nat):Prop:=(k=l.length+1∧n=(cutL l).length)∨(a≤k∧k≤l.length∧cutL (l.drop a)=(cutL l).drop n∧(46:UInt8) ∉ (l.drop a).take (k-a))
theorem Wl.start (l:List UInt8):Wl l 0 0 0 := .inr ⟨gu _,ug _,rfl,by simp⟩
theorem bwt {l:List UInt8} (h1:a≤k) (h2:k<l.length):(l.drop a).take (k+1-a)=(l.drop a).take (k-a)++[l[k]]:=by
 rw[show k+1-a=(k-a)+1 by omega,Pk,Sd,show a+(k-a)=k by omega,Cj h2]
 rfl
theorem Wl.next {l:List UInt8} (c1:a≤k) (h2:k<l.length) (c3:cutL (l.drop a)=(cutL l).drop n) (c4:(46:UInt8) ∉ (l.drop a).take (k-a)) (h:l[k]≠46):Wl l (k+1) a n :=
 .inr ⟨by omega,by omega,c3,by
  rw[bwt c1 h2];intro hm
  rcases Ku.1 hm with hm|hm
  ·
   exact c4 hm
  ·
   exact h (Rj.1 hm).symm⟩
theorem aus {α:Type} {L r:List α} {x:α} (h:x::r=L.drop n):L[n]? = some x∧r=L.drop (n+1):=by
 constructor
 ·
  have h1:(L.drop n)[0]? = some x:=by rw[← h];rfl
  rw[Sd]at h1;exact h1
 ·
  rw[← List.tail_drop,← h];rfl
theorem Wl.hit {l:List UInt8} (c1:a≤k) (h2:k<l.length) (c3:cutL (l.drop a)=(cutL l).drop n) (c4:(46:UInt8) ∉ (l.drop a).take (k-a)) (h:l[k]=46):(cutL l)[n]? = some ((l.drop a).take (k-a))∧Wl l (k+1) (k+1) (n+1):=by
 have e:l.drop a=(l.drop a).take (k-a)++46::l.drop (k+1):=by
  have h3:=(Lu (k-a) (l.drop a)).symm;rw[arj,show a+(k-a)=k by omega,Si h2,h]at h3;exact h3
 rw[e,bfl c4]at c3
 obtain⟨g1,g2⟩:=aus c3
 exact⟨g1,.inr ⟨gu _,by omega,g2,by simp⟩⟩
theorem Wl.last {l:List UInt8} (c1:a≤l.length) (c3:cutL (l.drop a)=(cutL l).drop n) (c4:(46:UInt8) ∉ (l.drop a).take (l.length-a)):(cutL l)[n]? = some ((l.drop a).take (l.length-a))∧Wl l (l.length+1) (l.length+1) (n+1):=by
 have e:(l.drop a).take (l.length-a)=l.drop a:=Fb (by rw[Kv];exact gu _)
 rw[e]at c4 ⊢
 rw[bfm c4]at c3
 obtain⟨g1,g2⟩:=aus c3
 have h0:n<(cutL l).length:=by
  rcases Fa n (cutL l).length with h|h
  ·
   exact h
  ·
   rw[Ha h]at g1;cases g1
 have h1:=Ez List.length g2
 rw[Kv,List.length_nil]at h1
 exact⟨g1,.inl ⟨rfl,by omega⟩⟩
theorem Ul (s:ByteArray):s.extract a k=tx ((s.data.toList.drop a).take (k-a)):=by
 rw[← Fz (s.extract a k),bap,bkv,bko]
 rfl
theorem auv:bkj prog 141 145 1 2:=by
 intro ρ w d ps cs ty pos af gd hm h
 match ps,hm with
 | [(i0,x0)],_ =>
 obtain⟨us0,r0,rfl,l0,e0,g0,h⟩:=h
 cases h
 match us0,l0 with
 | [czp,czo],_ =>
 dsimp only at e0 g0
 subst e0
 simp only[execOp]
 simp[go_sem,g0]
 try rfl
theorem Ua:yu il AnyF:=fun w w' v hb ⟨n,p,h⟩=>⟨n,p,Ae _ _ _ _ hb h⟩
def Cu (w:Wq) (base:Nat) (v:Vq) (l:List (ByteArray×Int)):Prop:=w.ownsRow base 145 2 v l.length (facC l)
theorem Cu.nil (w:Wq) (base:Nat):Cu w base (.slice none 0 0) []:=bbe _ _ _ _
theorem Cu.ge {v:Vq} {l:List (ByteArray×Int)} (h:Cu w base v l) : ∀ g,v.ownBlock=some g→base≤g:=fun g hg=>(h.lt g hg).1
theorem Cu.below {w':Wq} {v:Vq} {l:List (ByteArray×Int)} (h:Cu w base v l) (hb:Below w.heap.size w w'):Cu w' base v l:=by
 obtain⟨h1,h2|⟨g,cap,cur,e,h3,h4,h5⟩⟩:=h
 ·
  exact⟨h1,.inl h2⟩
 ·
  exact⟨h1,.inr ⟨g,cap,cur,e,h3,(hb.block _ (lt_of_block h4)).trans h4,h5⟩⟩
theorem Xe:(prog.info? 145).map (fun i=>(i.zero,i.size,i.bytes))=some (some (.agg #[.string ⟨#[]⟩,.int .i64 0]),2,24):=by kernel_rfl
theorem Own.bare (h:Below w.heap.size w W):Own w [] W:=⟨h,List.nodup_nil,fun b T ls hm=>by cases hm⟩
theorem bjs {g:Nat} (h:zn W g 145 [.v (.string nm),iv p]) : ∀ (j:Nat) u,[Value.string nm,.int .i64 p][j]? = some u→W.cell? ((⟨g,0,none⟩:Addr).add j)=some u:=by
 intro j u hu
 obtain⟨cs,h1,h2⟩:=h
 obtain⟨r1,rfl,_,h3⟩:=gy.Jc h2
 obtain⟨r2,rfl,_,h4⟩:=gy.Jc h3
 cases h4
 rw[show(⟨g,0,none⟩:Addr).add j=⟨g,j,none⟩by(simp[Addr.add];try omega),ag h1]
 simpa using hu
theorem bik {a:Act} {p:Operand} {bs:List yz} (hO:Own w0 bs w) (i:Nat) (pre post:List lg)
  (hi:bs[i]? = some (b,TB,pre++([.v o]++post))) (ho:off=ry pre) (hp:a.eval p = .pointer (some ⟨b,off,none⟩)) (hv:a.eval x = .int .i64 v)
  (hk2 : ∀ w',Own w0 (bs.set i (b,TB,pre++([iv v]++post))) w'→(∀ ks u,bz ks w u→bz ks w' u)→(∀ V0:Wq,V0.heap.size≤b→il V0 w→il V0 w')→wpList prog ops Q rest a w') :
  wpList prog ops Q ({ dst:=none,op := .store 3 p x,type:=ty,pos:=pos,after:=af,guard:=none}::rest) a w:=by
 obtain⟨hlt,he⟩:=agj.1 hi
 have hbs:bs=bs.take i++(b,TB,pre++([.v o]++post))::bs.drop (i+1):=by
  rw[← he,← Si hlt,Lu]
 have hset:bs.set i (b,TB,pre++([iv v]++post))=bs.take i++(b,TB,pre++([iv v]++post))::bs.drop (i+1):=aey .. |>.trans (if_pos hlt)
 rw[hset]at hk2
 rw[hbs]at hO
 have hbx:=hO.box b TB _ (Ht _ Ah)
 obtain⟨hge,cs,hb,hls⟩:=hbx
 have hlen:off<cs.length:=by
  obtain⟨c,cd,rfl,k1,k2⟩:=hls.cut;obtain⟨o1,d1,rfl,k3,k4⟩:=k2.cut;have e1:=k1.len;have e3:=k3.len;have e4:ry [lg.v o]=1:=rfl;simp only[Bj];omega
 unfold wpList
 rw[if_pos (by simp[Region.wanted])]
 refine .inl ?_
 unfold Oper.wp
 rw[anj hb hlen hp hv]
 exact hk2 _ (hO.set (gy.v (xc _) rfl) rfl ho) (fun ks u h=>abk ⟨cs,hb,hls⟩ h) (fun V0 h1 h2=>h2.grown (Al b [Value.int .i64 v] off w w (wy _ _)) h2.size (fun g hg=>by injection hg with hg;subst hg;exact h1))
theorem atj {b:ByteArray} (he:s.extract m i=b) (hal:al.contains k=false) (hx:cu l n T a0 k x (ax (.string s))) (hy:cu l n T a0 k y (ax (.int .i64 (m:Int)))) (hz:cu l n T a0 k z (ax (.int .i64 (i:Int)))) (hm:m≤i) (hi:i≤s.size) (hT:T k=ax (.string b)) :
  ib prog Q l n T G il al a0 k { dst:=some d,op := .slice 9 x (some y) (some z) none,type:=ty,pos:=pos,after:=af,guard:=gd}:=by
 subst he
 exact ccx hal hx hy hz hm hi hT
theorem blw {l:List UInt8} {gs:List (ByteArray×Int)} {b:Bool} (w:Wq) (hl:l=s.data.toList) (hs:s.size≤600) (hb:b=decide (fs.length=(cutL l).length)) (hfl:fs.length≤(cutL l).length) (hcl:(cutL l).length≤601) (hg:gs=fs.map (fun(f:ByteArray×Int)=>(f.1,wrap64 (f.2*sg))))
  (hok : ∀ (n:Nat) (p:List UInt8) (f:ByteArray×Int),(cutL l)[n]? = some p→fs[n]? = some f → ∀ W,Calls prog 210 #[.string (tx p)] W (gp (ko [bz [.v (.string f.1),iv f.2],ax (.bool true)]) W))
  (hbad : ∀ (p:List UInt8),(cutL l)[fs.length]? = some p → ∀ W,Calls prog 210 #[.string (tx p)] W (gp (ko [AnyF,ax (.bool false)]) W)) :
  Calls prog 175 #[.string s,.int .i64 sg] w (fun e w'=>Below w.heap.size w w'∧((b=true ∧ ∃ v',e = .returned (.tuple #[v',.bool true])∧Cu w' w.heap.size v' gs)∨(b=false∧e = .returned (.tuple #[.slice none 0 0,.bool false])))):=by
 have HAT:=ae (show ∀ k (h:k<s.size) (h2:k<l.length),l[k]=s[k]from fun k h h2=>by subst hl;rfl)
 have Cn:=ae (show s.size≤600∧l.length=s.size from⟨hs,by rw[hl,oq]⟩)
 have HSL:=ae hl
 have HB:=ae hb
 have HCL:=ae (And.intro hfl hcl)
 have Na:=ae (show gs.length=fs.length∧fs.length≤(cutL l).length∧(∀ (n:Nat) (f:ByteArray×Int),fs[n]? = some f→gs[n]? = some (f.1,wrap64 (f.2*sg)))from⟨by rw[hg,Rm],hfl,fun n f hf=>by rw[hg,aad,hf];rfl⟩)
 have Mw:=ae hok
 have HBAD:=ae hbad
 clear hl hs hb hfl hcl hg hok hbad
 go_enter func175,ntmps175
 go_wp2_with fail
 go_loopw [6,7,8] (fun ov fv kv wr => ∃ k a n:Nat,kv = .int .i64 ((k:Nat):Int)∧fv = .int .i64 ((a:Nat):Int)∧n≤fs.length∧Hid (Wl l k a n)∧Hid (Cu wr w.heap.size ov (gs.take n))∧Below w.heap.size w wr) (fun _ _ kv _=>s.size+2-(intOf kv).toNat)
 case atStart=>exact⟨0,0,0,rfl,rfl,ug _,ae (Wl.start l),ae (by rw[Nu];exact Cu.nil _ _),df _ _⟩
 case round =>
  obtain⟨k,a,n,rfl,rfl,hn,HC,HF,hbw⟩:=hrel;have HO:=ae (Own.bare hbw);have HNN:=ae hn;clear hn hbw
  rcases aa HC with⟨h1,h2⟩|⟨c1,c2,c3,c4⟩
  ·
   have d1:decide ((k:Int)≤(s.size:Int))=false:=dw (by have:=(aa Cn).2;omega);have d1':decide (k≤s.size)=false:=dw (by have:=(aa Cn).2;omega);have hgs:gs.take n=gs:=Fb (by have:=(aa Na).1;have:=(aa Na).2.1;have:=aa HNN;omega);have hbt:b=true:=by rw[aa HB];exact dm (by have:=(aa Na).2.1;have:=aa HNN;omega)
   have hof:=aa HF;rw[hgs]at hof;have hbel:=(aa HO).bel;clear HC HF HO hgs h1 h2;go_wp2_with fail
   go_ret2
   exact⟨hbel,.inl ⟨hbt,_,rfl,hof⟩⟩
  ·
   have d1:decide ((k:Int)≤(s.size:Int))=true:=dm (by have:=(aa Cn).2;omega);have Fj:=ae (And.intro c1 c2);have HC3:=ae c3;have HC4:=ae c4;clear HC c1 c2 c3 c4;go_upto_region 4 with fail;refine fw 4 [_,_,_,_] [] HO (dh aF (dh aF (au (Ar rfl (aT 1) rfl) (au (atl rfl (aT 0) (aT 2) rfl d1) ai)))) ?_
   intro v1 V1 hG1 hv1 hne1;simp only[ay,Act.put,tA,exv (hv1 3 de)];replace HF:=ae ((aa HF).below hG1.2);replace HO:=ae hG1.1;clear hG1 hv1 hne1;clear d1
   by_cases g1:k<s.size
   ·
    by_cases g2:s[k]=46
    ·
     have d2:decide ((k:Int)<(s.size:Int))=true:=dm om;have qp:=ae g1;have d4:((((s[k]'(aa qp)).toNat:Int)) != 46)=false:=by rw[g2];rfl
     obtain⟨hp,hcn⟩:=Wl.hit (aa Fj).1 (by rw[(aa Cn).2];exact g1) (aa HC3) (aa HC4) (by have h9:=(aa HAT) k g1 (by rw[(aa Cn).2];exact g1);rw[h9];exact g2);clear g2 g1;obtain⟨p,hpe⟩ : ∃ p,p=(l.drop a).take (k-a):=⟨_,rfl⟩
     rw[← hpe]at hp;have HEX:=ae (show s.extract a k=tx p by rw[hpe,(aa HSL)];exact Ul s);have HCN:=ae hcn;clear hcn hpe;go_upto_region 6 with fail;refine fw 10 [_,_,_,_,_,_,_,_,_,_] [] HO (dh aF (dh aF (au (Ar rfl (aT 1) rfl) (au (wu rfl (aT 0) (aT 2) rfl d2) (dh (aT 3) (ku (jh rfl aF) (ku (jh rfl aF) (ku (Yo (i:=k) rfl (aT 5) (aT 6) (aa qp) rfl) (ku (bqc rfl (aT 7) (fe _) d4 rfl) (au (qj rfl (aT 4) (aT 8)) ai)))))))))) ?_
     intro v2 V2 hG2 hv2 hne2;simp only[ay,Act.put,tA,exv (hv2 9 de)];replace HF:=ae ((aa HF).below hG2.2);replace HO:=ae hG2.1;clear hG2 hv2 hne2;clear d2 d4;have Er:=ae (show il V2 V2 from df _ _)
     by_cases g3:n<fs.length
     ·
      obtain⟨⟨nm,q⟩,hf⟩ : ∃ f,fs[n]? = some f:=⟨_,Cj g3⟩
      have HOF:=ae ((aa Mw) n p (nm,q) hp hf);have Ki:=ae ((aa Na).2.2 n (nm,q) hf);obtain⟨qs,hqs⟩ : ∃ qs,qs=wrap64 (q*sg):=⟨_,rfl⟩
      rw[← hqs]at Ki;have HWQ:=ae hqs.symm;clear hp hf hqs;go_upto_region 7 with fail;refine fw 9 [_,_,_,_,_,_,_,_,_] [8] HO (dh aF (dh aF (dh aF (au (atj (aa HEX) rfl (aT 0) (aT 1) (aT 2) (aa Fj).1 (by have:=(aa Fj).2;have:=(aa Cn).2;omega) rfl) (au (sc1 func210 (aT 3) (fun W v0 hG h0=>by cases h0;exact(aa HOF) W)) (dh (aT 4) (pq [bz [.v (.string nm),iv q],ax (.bool true)] (aT 5) (pq _ (aT 5) (Am aty ai))))))))) ?_
      intro v3 V3 hG3 hv3 ji;obtain⟨aii,e8,Ov,hz8⟩:=(show qw 145 zF V2.heap.size V3 (v3 8)from hv3 8 de)
      simp only[ay,Act.put,tA,exv (hv3 7 de),e8];replace Er:=ae (az (aa Er) hG3.2);have hO  := hG3.1;replace hO:=Own.add (aa HO) hG3.2 Ov hz8;clear hz8;have HGE:=ae Ov;clear Ov;refine Nz hO 0 [] zF [.v (.string nm),iv q] [] rfl Lv rfl (show bz [.v (.string nm),iv q] V3 (v3 6)from hv3 6 de) rfl rfl rfl ?_
      intro Gc rf hk0 hb0;replace Er:=ae (hb0 _ (aa HGE) (aa Er));clear hb0;replace hO:=rf;clear rf;replace HO:=ae hO;clear hO hG3 hv3 ji hk0;try clear e8;go_upto_region 8 with fail;refine fw 2 [_,_] [] HO (dh aF (au (tq rfl (aT 0) rfl rfl) ai)) ?_
      intro v4 V4 hG4 hv4 ma;simp only[ay,Act.put,tA,exv (hv4 1 de)];replace Er:=ae (az (aa Er) hG4.2);replace HO:=ae hG4.1;clear hG4 hv4 ma;go_upto_region 10 with fail;refine fw 5 [_,_,_,_,_] [] HO (au (Ml (b:=aii) (off:=0) rfl aF rfl rfl) (au (Jd Fe me0 (aT 0) [.v (.string nm)] [] rfl) (dh aF (au (akp rfl (aT 1) (aT 2) (aa HWQ) rfl) (au (Ml (b:=aii) (off:=0) rfl aF rfl rfl) ai))))) ?_
      intro v5 V5 mo hv5 hne5;simp only[ay,Act.put,tA,show v5 3 = .int .i64 (qs)from hv5 3 de,show v5 4 = .pointer (some ⟨aii,1,none⟩)from hv5 4 de];replace Er:=ae (az (aa Er) mo.2);have hO  := mo.1;refine bik (v:=(qs)) hO 0 [.v (.string nm)] [] rfl rfl rfl rfl ?_
      intro Jv rf hk0 hb0;replace Er:=ae (hb0 _ (aa HGE) (aa Er));clear hb0;replace hO:=rf;clear rf;replace HO:=ae hO;clear hO mo hv5 hne5 hk0;go_upto_region 11 with fail;refine fw 3 [_,_,_] [] HO (dh aF (xh Zd me0 aF (au (axp (ps:=[(0,.tmp 43)]) (gs:=[[.v (.string nm),iv qs]]) auv rfl iw.step rfl (Oh.cons (aT 1) rfl Oh.nil) rfl) ai))) ?_
      intro v6 V6 qb hv6 vw;simp only[ay,Act.put,tA];replace Er:=ae (az (aa Er) qb.2);have hO  := qb.1;obtain⟨gb,eg,hgb⟩:=(show SlT 145 1 [.v (.string nm),iv qs] V6 (v6 2)from hv6 2 de)
      have e0:v6 0=u6:=hv6 0 de;simp only[eg,e0];clear eg e0;replace HO:=ae hO;clear hO qb hv6 vw;have hown:=(aa HF).below (aa Er);have hbel:=(aa HO).bel;have hcells:=bjs hgb;obtain⟨i0,hi0,hz0,hz1,hz2⟩:=info_parts Xe;have hlen:(gs.take n).length≤601:=by have:=(aa Na).1;have:=(aa Na).2.1;have:=(aa Cn).1;have h8:=(aa HCL);rw[uy];omega
      clear hgb HO HF Er;refine wpList_append_own _ rfl _ _ 141 rfl w.heap.size 145 i0 (.agg #[.string ⟨#[]⟩,.int .i64 0]) 2 24 underlying141 hi0 hz0 hz1 hz2 rfl de _ _ _ rfl hown ⟨gb,0,none⟩ 1 1 [.string nm,.int .i64 qs] rfl rfl hcells ane (by unfold maxLen;omega) om (by have:=hbel.size;omega) ?_
      intro v' w1 hown1 hgrow1 _;go_wp2_with fail
      go_roundw
      case rel =>
       refine⟨k+1,k+1,n+1,He (show k<700 by have h1:=(aa Fj).2;have h2:=(aa Cn).1;have h3:=(aa Cn).2;omega) om,He (show k<700 by have h1:=(aa Fj).2;have h2:=(aa Cn).1;have h3:=(aa Cn).2;omega) om,g3,HCN,ae ?_,hbel.grown hgrow1 hbel.size hown.ge⟩
       have ht:gs.take (n+1)=gs.take n++[(nm,qs)]:=by rw[Pk,aa Ki];rfl
       rw[ht];unfold Cu;rw[Xi (gs.take n),show(gs.take n++[(nm,qs)]).length=(gs.take n).length+1 from Bj];exact hown1
      case measure =>
       have h1:=(aa Fj).2;have h2:=(aa Cn).1;have h3:=(aa Cn).2;rw[Ih (show k<700 by omega) om];simp[intOf]<;>omega
     ·
      obtain rfl:n=fs.length:=by have:=aa HNN;omega
      have HOF:=ae ((aa HBAD) p hp);have hbf:b=false:=by
       rw[aa HB];refine dw fun e => ?_
       rw[e,Ha (gu _)]at hp
       cases hp
      clear hp g3;go_upto_region 7 with fail;refine yc 9 49 (ui [ax (.string s),ax (.int .i64 (a:Int)),ax (.int .i64 (k:Int)),ax (.string (tx p)),ko [AnyF,ax (.bool false)],ko [AnyF,ax (.bool false)],AnyF,ax (.bool false),qw 145 zF V2.heap.size]) (iw w _ V2) il [8] kr rfl (qm.pick ⟨fo _,fo _,fo _,fo _,rq ⟨(Ua),(fo _),trivial⟩,rq ⟨(Ua),(fo _),trivial⟩,Ua,fo _,Nf _ _ _,trivial⟩) (iw.begin (aa HO))
       (au (jh rfl aF)
       (au (jh rfl aF)
       (au (jh rfl aF)
       (au (atj (aa HEX) rfl (aT 0) (aT 1) (aT 2) (aa Fj).1 (by have:=(aa Fj).2;have:=(aa Cn).2;omega) rfl)
       (au (sc1 func210 (aT 3) (fun W v0 hG h0=>by cases h0;exact(aa HOF) W))
       (au (jh rfl (aT 4))
       (au (xq (ts:=[AnyF,ax (.bool false)]) rfl (aT 5) (sw rfl) rfl)
       (au (xq (ts:=[AnyF,ax (.bool false)]) rfl (aT 5) (sw rfl) rfl)
       (au (Ud aty rfl iw.step iw.size rfl (Yv (by intro j hj;simp at hj;(repeat' (first|(rcases hj with rfl|hj)))<;>first|(subst hj;exact⟨_,_,_,rfl⟩)|exact⟨_,_,_,rfl⟩)))
       ai))))))))) ?_
      intro v3 V3 hG3 hv3 ji;obtain⟨aii,e8,Ov,hz8⟩:=(show qw 145 zF V2.heap.size V3 (v3 8)from hv3 8 de)
      simp only[ay,Act.put,tA,exv (hv3 7 de),e8];replace Er:=ae (az (aa Er) hG3.2);have hO  := hG3.1;replace hO:=Own.add (aa HO) hG3.2 Ov hz8;clear hz8;have HGE:=ae Ov;clear Ov;obtain⟨asq,asr,hy6⟩:=(show AnyF V3 (v3 6)from hv3 6 de)
      refine Nz hO 0 [] zF [.v (.string asq),iv asr] [] rfl Lv rfl (show bz [.v (.string asq),iv asr] V3 (v3 6)from hy6) rfl rfl rfl ?_
      intro Gc rf hk0 hb0;replace Er:=ae (hb0 _ (aa HGE) (aa Er));clear hb0;replace hO:=rf;clear rf;replace HO:=ae hO;clear hO hG3 hv3 ji hk0;try clear e8;go_upto_region 8 with fail;refine fw 2 [_,_] [] HO (dh aF (au (tq rfl (aT 0) rfl rfl) ai)) ?_
      intro v4 V4 hG4 hv4 ma;simp only[ay,Act.put,tA,exv (hv4 1 de)];replace Er:=ae (az (aa Er) hG4.2);replace HO:=ae hG4.1;clear hG4 hv4 ma;have hbel:=(aa HO).bel;clear HO HF Er;go_wp2_with fail
      go_ret2
      exact⟨hbel,.inr ⟨hbf,rfl⟩⟩
    ·
     have d2:decide ((k:Int)<(s.size:Int))=true:=dm om;have qp:=ae g1;have d4:((((s[k]'(aa qp)).toNat:Int)) != 46)=true:=by simp only[aes,ne_eq];exact fun h=>g2 (Rf.1 (by show(s[k]).toNat=46;omega))
     have HCN:=ae (Wl.next (aa Fj).1 (by rw[(aa Cn).2];exact g1) (aa HC3) (aa HC4) (by have h9:=(aa HAT) k g1 (by rw[(aa Cn).2];exact g1);rw[h9];exact g2));clear g1 g2;go_upto_region 6 with fail;refine fw 10 [_,_,_,_,_,_,_,_,_,_] [] HO (dh aF (dh aF (au (Ar rfl (aT 1) rfl) (au (wu rfl (aT 0) (aT 2) rfl d2) (dh (aT 3) (ku (jh rfl aF) (ku (jh rfl aF) (ku (Yo (i:=k) rfl (aT 5) (aT 6) (aa qp) rfl) (ku (bqc rfl (aT 7) (fe _) d4 rfl) (au (qj rfl (aT 4) (aT 8)) ai)))))))))) ?_
     intro v2 V2 hG2 hv2 hne2;simp only[ay,Act.put,tA,exv (hv2 9 de)];replace HF:=ae ((aa HF).below hG2.2);replace HO:=ae hG2.1;clear hG2 hv2 hne2;clear d2 d4;have hbel:=(aa HO).bel;go_wp2_with fail
     go_roundw
     case rel =>
      exact⟨k+1,a,n,He (aa qp) (by have:=(aa Cn).1;omega),rfl,aa HNN,HCN,HF,hbel⟩
     case measure =>
      have h1:=aa qp;have h2:=(aa Cn).1;clear HO;rw[Ih h1 om];simp[intOf]<;>omega
   ·
    have d2:decide ((k:Int)<(s.size:Int))=false:=dw om;have hke:k=l.length:=by have:=(aa Fj).2;have:=(aa Cn).2;omega
    obtain⟨hp,hcn⟩:(cutL l)[n]? = some ((l.drop a).take (k-a))∧Wl l (k+1) (k+1) (n+1):=by
     have h4:=aa HC4;have h1:=(aa Fj).1;rw[hke]at h1 h4 ⊢;exact Wl.last h1 (aa HC3) h4
    clear hke g1;obtain⟨p,hpe⟩ : ∃ p,p=(l.drop a).take (k-a):=⟨_,rfl⟩
    rw[← hpe]at hp;have HEX:=ae (show s.extract a k=tx p by rw[hpe,(aa HSL)];exact Ul s);have HCN:=ae hcn;clear hcn hpe;go_upto_region 6 with fail;refine fw 10 [_,_,_,_,_,_,_,_,_,_] [] HO (dh aF (dh aF (au (Ar rfl (aT 1) rfl) (au (wu rfl (aT 0) (aT 2) rfl d2) (dh (aT 3) (ve (ve (ve (ve (au (mh rfl (aT 4) (fe _)) ai)))))))))) ?_
    intro v2 V2 hG2 hv2 hne2;simp only[ay,Act.put,tA,exv (hv2 9 de)];replace HF:=ae ((aa HF).below hG2.2);replace HO:=ae hG2.1;clear hG2 hv2 hne2;clear d2;have Er:=ae (show il V2 V2 from df _ _)
    by_cases g3:n<fs.length
    ·
     obtain⟨⟨nm,q⟩,hf⟩ : ∃ f,fs[n]? = some f:=⟨_,Cj g3⟩
     have HOF:=ae ((aa Mw) n p (nm,q) hp hf);have Ki:=ae ((aa Na).2.2 n (nm,q) hf);obtain⟨qs,hqs⟩ : ∃ qs,qs=wrap64 (q*sg):=⟨_,rfl⟩
     rw[← hqs]at Ki;have HWQ:=ae hqs.symm;clear hp hf hqs;go_upto_region 7 with fail;refine fw 9 [_,_,_,_,_,_,_,_,_] [8] HO (dh aF (dh aF (dh aF (au (atj (aa HEX) rfl (aT 0) (aT 1) (aT 2) (aa Fj).1 (by have:=(aa Fj).2;have:=(aa Cn).2;omega) rfl) (au (sc1 func210 (aT 3) (fun W v0 hG h0=>by cases h0;exact(aa HOF) W)) (dh (aT 4) (pq [bz [.v (.string nm),iv q],ax (.bool true)] (aT 5) (pq _ (aT 5) (Am aty ai))))))))) ?_
     intro v3 V3 hG3 hv3 ji;obtain⟨aii,e8,Ov,hz8⟩:=(show qw 145 zF V2.heap.size V3 (v3 8)from hv3 8 de)
     simp only[ay,Act.put,tA,exv (hv3 7 de),e8];replace Er:=ae (az (aa Er) hG3.2);have hO  := hG3.1;replace hO:=Own.add (aa HO) hG3.2 Ov hz8;clear hz8;have HGE:=ae Ov;clear Ov;refine Nz hO 0 [] zF [.v (.string nm),iv q] [] rfl Lv rfl (show bz [.v (.string nm),iv q] V3 (v3 6)from hv3 6 de) rfl rfl rfl ?_
     intro Gc rf hk0 hb0;replace Er:=ae (hb0 _ (aa HGE) (aa Er));clear hb0;replace hO:=rf;clear rf;replace HO:=ae hO;clear hO hG3 hv3 ji hk0;try clear e8;go_upto_region 8 with fail;refine fw 2 [_,_] [] HO (dh aF (au (tq rfl (aT 0) rfl rfl) ai)) ?_
     intro v4 V4 hG4 hv4 ma;simp only[ay,Act.put,tA,exv (hv4 1 de)];replace Er:=ae (az (aa Er) hG4.2);replace HO:=ae hG4.1;clear hG4 hv4 ma;go_upto_region 10 with fail;refine fw 5 [_,_,_,_,_] [] HO (au (Ml (b:=aii) (off:=0) rfl aF rfl rfl) (au (Jd Fe me0 (aT 0) [.v (.string nm)] [] rfl) (dh aF (au (akp rfl (aT 1) (aT 2) (aa HWQ) rfl) (au (Ml (b:=aii) (off:=0) rfl aF rfl rfl) ai))))) ?_
     intro v5 V5 mo hv5 hne5;simp only[ay,Act.put,tA,show v5 3 = .int .i64 (qs)from hv5 3 de,show v5 4 = .pointer (some ⟨aii,1,none⟩)from hv5 4 de];replace Er:=ae (az (aa Er) mo.2);have hO  := mo.1;refine bik (v:=(qs)) hO 0 [.v (.string nm)] [] rfl rfl rfl rfl ?_
     intro Jv rf hk0 hb0;replace Er:=ae (hb0 _ (aa HGE) (aa Er));clear hb0;replace hO:=rf;clear rf;replace HO:=ae hO;clear hO mo hv5 hne5 hk0;go_upto_region 11 with fail;refine fw 3 [_,_,_] [] HO (dh aF (xh Zd me0 aF (au (axp (ps:=[(0,.tmp 43)]) (gs:=[[.v (.string nm),iv qs]]) auv rfl iw.step rfl (Oh.cons (aT 1) rfl Oh.nil) rfl) ai))) ?_
     intro v6 V6 qb hv6 vw;simp only[ay,Act.put,tA];replace Er:=ae (az (aa Er) qb.2);have hO  := qb.1;obtain⟨gb,eg,hgb⟩:=(show SlT 145 1 [.v (.string nm),iv qs] V6 (v6 2)from hv6 2 de)
     have e0:v6 0=u6:=hv6 0 de;simp only[eg,e0];clear eg e0;replace HO:=ae hO;clear hO qb hv6 vw;have hown:=(aa HF).below (aa Er);have hbel:=(aa HO).bel;have hcells:=bjs hgb;obtain⟨i0,hi0,hz0,hz1,hz2⟩:=info_parts Xe;have hlen:(gs.take n).length≤601:=by have:=(aa Na).1;have:=(aa Na).2.1;have:=(aa Cn).1;have h8:=(aa HCL);rw[uy];omega
     clear hgb HO HF Er;refine wpList_append_own _ rfl _ _ 141 rfl w.heap.size 145 i0 (.agg #[.string ⟨#[]⟩,.int .i64 0]) 2 24 underlying141 hi0 hz0 hz1 hz2 rfl de _ _ _ rfl hown ⟨gb,0,none⟩ 1 1 [.string nm,.int .i64 qs] rfl rfl hcells ane (by unfold maxLen;omega) om (by have:=hbel.size;omega) ?_
     intro v' w1 hown1 hgrow1 _;go_wp2_with fail
     go_roundw
     case rel =>
      refine⟨k+1,k+1,n+1,He (show k<700 by have h1:=(aa Fj).2;have h2:=(aa Cn).1;have h3:=(aa Cn).2;omega) om,He (show k<700 by have h1:=(aa Fj).2;have h2:=(aa Cn).1;have h3:=(aa Cn).2;omega) om,g3,HCN,ae ?_,hbel.grown hgrow1 hbel.size hown.ge⟩
      have ht:gs.take (n+1)=gs.take n++[(nm,qs)]:=by rw[Pk,aa Ki];rfl
      rw[ht];unfold Cu;rw[Xi (gs.take n),show(gs.take n++[(nm,qs)]).length=(gs.take n).length+1 from Bj];exact hown1
     case measure =>
      have h1:=(aa Fj).2;have h2:=(aa Cn).1;have h3:=(aa Cn).2;rw[Ih (show k<700 by omega) om];simp[intOf]<;>omega
    ·
     obtain rfl:n=fs.length:=by have:=aa HNN;omega
     have HOF:=ae ((aa HBAD) p hp);have hbf:b=false:=by
      rw[aa HB];refine dw fun e => ?_
      rw[e,Ha (gu _)]at hp
      cases hp
     clear hp g3;go_upto_region 7 with fail;refine yc 9 49 (ui [ax (.string s),ax (.int .i64 (a:Int)),ax (.int .i64 (k:Int)),ax (.string (tx p)),ko [AnyF,ax (.bool false)],ko [AnyF,ax (.bool false)],AnyF,ax (.bool false),qw 145 zF V2.heap.size]) (iw w _ V2) il [8] kr rfl (qm.pick ⟨fo _,fo _,fo _,fo _,rq ⟨(Ua),(fo _),trivial⟩,rq ⟨(Ua),(fo _),trivial⟩,Ua,fo _,Nf _ _ _,trivial⟩) (iw.begin (aa HO))
      (au (jh rfl aF)
      (au (jh rfl aF)
      (au (jh rfl aF)
      (au (atj (aa HEX) rfl (aT 0) (aT 1) (aT 2) (aa Fj).1 (by have:=(aa Fj).2;have:=(aa Cn).2;omega) rfl)
      (au (sc1 func210 (aT 3) (fun W v0 hG h0=>by cases h0;exact(aa HOF) W))
      (au (jh rfl (aT 4))
      (au (xq (ts:=[AnyF,ax (.bool false)]) rfl (aT 5) (sw rfl) rfl)
      (au (xq (ts:=[AnyF,ax (.bool false)]) rfl (aT 5) (sw rfl) rfl)
      (au (Ud aty rfl iw.step iw.size rfl (Yv (by intro j hj;simp at hj;(repeat' (first|(rcases hj with rfl|hj)))<;>first|(subst hj;exact⟨_,_,_,rfl⟩)|exact⟨_,_,_,rfl⟩)))
      ai))))))))) ?_
     intro v3 V3 hG3 hv3 ji;obtain⟨aii,e8,Ov,hz8⟩:=(show qw 145 zF V2.heap.size V3 (v3 8)from hv3 8 de)
     simp only[ay,Act.put,tA,exv (hv3 7 de),e8];replace Er:=ae (az (aa Er) hG3.2);have hO  := hG3.1;replace hO:=Own.add (aa HO) hG3.2 Ov hz8;clear hz8;have HGE:=ae Ov;clear Ov;obtain⟨asq,asr,hy6⟩:=(show AnyF V3 (v3 6)from hv3 6 de)
     refine Nz hO 0 [] zF [.v (.string asq),iv asr] [] rfl Lv rfl (show bz [.v (.string asq),iv asr] V3 (v3 6)from hy6) rfl rfl rfl ?_
     intro Gc rf hk0 hb0;replace Er:=ae (hb0 _ (aa HGE) (aa Er));clear hb0;replace hO:=rf;clear rf;replace HO:=ae hO;clear hO hG3 hv3 ji hk0;try clear e8;go_upto_region 8 with fail;refine fw 2 [_,_] [] HO (dh aF (au (tq rfl (aT 0) rfl rfl) ai)) ?_
     intro v4 V4 hG4 hv4 ma;simp only[ay,Act.put,tA,exv (hv4 1 de)];replace Er:=ae (az (aa Er) hG4.2);replace HO:=ae hG4.1;clear hG4 hv4 ma;have hbel:=(aa HO).bel;clear HO HF Er;go_wp2_with fail
     go_ret2
     exact⟨hbel,.inr ⟨hbf,rfl⟩⟩
theorem bfk : ∀ l:List UInt8,(cutL l).length≤l.length+1
 | []=>gu _
 | c::l=>by
  have ih:=bfk l
  by_cases hc:c=46
  ·
   subst hc;rw[aid,Db,Db];omega
  ·
   cases h:cutL l with
   | nil=>exact absurd h (abj l)
   | cons p r =>
    rw[Zj hc h,Db,Db];rw[h,Db]at ih;omega
theorem bre (ps:List ByteArray):(readAll ps).2=decide ((readAll ps).1.length=ps.length):=by
 cases h:(readAll ps).2 with
 | true=>exact(dm (afi h)).symm
 | false=>exact(dw (by have:=(Xc h).1;omega)).symm
theorem axt (s:ByteArray) (sg:Int) (w:Wq) (hs:s.size≤600):Calls prog 175 #[.string s,.int .i64 sg] w fun e w'=>Below w.heap.size w w'∧(((readAll (parts s)).2=true ∧ ∃ v',e = .returned (.tuple #[v',.bool true])∧Cu w' w.heap.size v' (ze sg (readAll (parts s)).1))∨((readAll (parts s)).2=false∧e = .returned (.tuple #[.slice none 0 0,.bool false]))):=by
 obtain⟨l,hl⟩ : ∃ l,l=s.data.toList:=⟨_,rfl⟩
 have hsl:tx l=s:=by rw[hl];exact Fz s
 have hpc:parts s=(cutL l).map tx:=by rw[← hsl];exact ayb l
 have hlen:(parts s).length=(cutL l).length:=by rw[hpc,Rm]
 have hget : ∀ (n:Nat) (p:List UInt8),(cutL l)[n]? = some p→(parts s)[n]? = some (tx p)∧(tx p).size≤1000000:=fun n p hp=>by
  have h1:(parts s)[n]? = some (tx p):=by rw[hpc,aad,hp];rfl
  have h2:=Ve _ _ _ _ _ (Kt h1);exact⟨h1,by omega⟩
 have hls:l.length=s.size:=by rw[hl,oq]
 have hcl:(cutL l).length≤601:=by have:=bfk l;omega
 have hle:(readAll (parts s)).1.length≤(cutL l).length:=by rw[← hlen];exact bct _
 refine blw (fs:=(readAll (parts s)).1) w hl hs ((bre _).trans (by rw[hlen])) hle hcl rfl (fun n p f hp hf W => ?_) (fun p hp W => ?_)
 ·
  obtain⟨h1,h2⟩:=hget n p hp;have h3:=atp h1 hf;have h4:=biy (tx p) h2 W;rw[Ac]at h4;unfold Ni at h3;rw[Ac]at h3
  cases e:Ow p with
  | none=>rw[e]at h3;cases h3
  | some v =>
   rw[e]at h3 h4
   cases h3
   exact h4
 ·
  obtain⟨h1,h2⟩:=hget _ p hp;have hlt:(readAll (parts s)).1.length<(parts s).length:=by
   rw[hlen]
   rcases Fa (readAll (parts s)).1.length (cutL l).length with h|h
   ·
    exact h
   ·
    rw[Ha h]at hp;cases hp
  have h0:(readAll (parts s)).2=false:=by rw[bre];exact dw om
  have h3:=(Xc h0).2 _ h1;have h4:=biy (tx p) h2 W;rw[Ac]at h4;unfold Ni at h3;rw[Ac]at h3
  cases e:Ow p with
  | none=>rw[e]at h4;exact h4
  | some v=>rw[e]at h3;cases h3
end Sb


namespace Sb
theorem bmg (w:Wq) (hT:yg w) (hz:decide ((s.size:Int)>600)=true) :
  Calls prog 49 #[.string s] w (gp (Kg ⟨z7,0,0,3⟩) w):=by
 have HT:=ae hT
 have HZ:=ae hz
 clear hT hz
 go_enter func49,ntmps49
 go_upto_region 1 with fail
 have hO:=(Own.push (T:=44) (ls:=zU) (Own.nil w) (gy.vs w [.int .i64 0,.int .i64 0,.int .i64 0,.int .i64 0,.int .i64 0,.int .i64 0,.int .i64 0,.int .i64 0,.int .i64 0] rfl) (w.heap.size) rfl)
 generalize w.alloc (.cells #[.int .i64 0,.int .i64 0,.int .i64 0,.int .i64 0,.int .i64 0,.int .i64 0,.int .i64 0,.int .i64 0,.int .i64 0] 44)=W0 at *
 have HO:=ae hO
 clear hO
 refine fw 3 [_,_,_] [] HO (dh aF (au (Ar rfl (aT 0) rfl) (au (Lp rfl (aT 1) (fe _) rfl (aa HZ)) ai))) ?_
 intro v1 V1 hG1 hv1 hne1
 simp only[ay,Act.put,tA,exv (hv1 2 de)]
 replace HO:=ae hG1.1
 clear hG1 hv1 hne1
 go_upto_region 2 with fail
 refine fw 1 [_] [] HO (au (Pv rfl rfl) ai) ?_
 intro v2 V2 hG2 hv2 hne2
 simp only[ay,Act.put,tA]
 have hO:=hG2.1
 refine kg hO 0 vv (hv2 0 de) ?_
 clear hO
 intro Oy hO hk0
 replace HO:=ae hO
 clear hO hG2 hv2 hne2 hk0
 go_wp2_with fail
 exact vo results49 Bq rfl rfl (aa HO) me0 rfl rfl
theorem bmh {a b:ByteArray} {n d:Int} (w:Wq) (hT:yg w) (hz:decide ((s.size:Int)>600)=false)
  (hsp : ∀ W,Calls prog 114 #[.string s] W (gp (ko [ax (.string a),ax (.string b)]) W))
  (Rp : ∀ W,yg W→Calls prog 24 #[.string a] W (gp (ko [bz [iv n,iv d],ax (.int .i64 e)]) W))
  (hq : ∀ W,Calls prog 115 #[.string b] W (gp (ko [ax (.slice none 0 0),ax (.bool false)]) W)) :
  Calls prog 49 #[.string s] w (gp (Kg ⟨z7,0,0,2⟩) w):=by
 have HT:=ae hT
 have HZ:=ae hz
 have Zz:=ae hsp
 have HRP:=ae Rp
 have HQ:=ae hq
 clear hT hz hsp Rp hq
 go_enter func49,ntmps49
 go_upto_region 1 with fail
 have hO:=(Own.push (T:=44) (ls:=zU) (Own.nil w) (gy.vs w [.int .i64 0,.int .i64 0,.int .i64 0,.int .i64 0,.int .i64 0,.int .i64 0,.int .i64 0,.int .i64 0,.int .i64 0] rfl) (w.heap.size) rfl)
 generalize w.alloc (.cells #[.int .i64 0,.int .i64 0,.int .i64 0,.int .i64 0,.int .i64 0,.int .i64 0,.int .i64 0,.int .i64 0,.int .i64 0] 44)=W0 at *
 have HO:=ae hO
 clear hO
 refine fw 3 [_,_,_] [] HO (dh aF (au (Ar rfl (aT 0) rfl) (au (Lp rfl (aT 1) (fe _) rfl (aa HZ)) ai))) ?_
 intro v1 V1 hG1 hv1 hne1
 simp only[ay,Act.put,tA,exv (hv1 2 de)]
 replace HO:=ae hG1.1
 clear hG1 hv1 hne1
 go_upto_region 3 with fail
 refine fw 7 [_,_,_,_,_,_,_] [] HO (dh aF (au (sc1 func114 (aT 0) (fun W v0 hG h0=>by cases h0;exact(aa Zz) W)) (dh (aT 1) (pq [ax (.string a),ax (.string b)] (aT 2) (pq _ (aT 2) (Ak (aT 3) (Ak (aT 4) ai))))))) ?_
 intro v2 V2 hG2 hv2 hne2
 simp only[ay,Act.put,tA,show v2 3 = .string a from hv2 3 de,show v2 4 = .string b from hv2 4 de,show v2 5 = .string a from hv2 5 de,show v2 6 = .string b from hv2 6 de]
 replace HO:=ae hG2.1
 clear hG2 hv2 hne2
 go_upto_region 4 with fail
 refine fw 6 [_,_,_,_,_,_] [5] HO (dh aF (au (sc1 func24 (aT 0) (fun W v0 hG h0=>by cases h0;exact(aa HRP) W ((aa HT).below hG.bel))) (dh (aT 1) (pq [bz [iv n,iv d],ax (.int .i64 e)] (aT 2) (pq _ (aT 2) (Am Lr ai)))))) ?_
 intro v3 V3 hG3 hv3 ji
 obtain⟨bnu,e5,zo,Cy⟩:=(show qw 23 zR V2.heap.size V3 (v3 5)from hv3 5 de)
 simp only[ay,Act.put,tA,show v3 4 = .int .i64 e from hv3 4 de,e5]
 have hO:=hG3.1
 replace hO:=Own.add (aa HO) hG3.2 zo Cy
 clear zo Cy
 refine kg hO 0 Gg (hv3 3 de) ?_
 clear hO
 intro Gc hO hk0
 replace HO:=ae hO
 clear hO hG3 hv3 ji hk0
 try clear e5
 go_upto_region 5 with fail
 refine fw 7 [_,_,_,_,_,_,_] [] HO (dh aF (au (sc1 func115 (aT 0) (fun W v0 hG h0=>by cases h0;exact(aa HQ) W)) (dh (aT 1) (pq [ax (.slice none 0 0),ax (.bool false)] (aT 2) (pq _ (aT 2) (Ak (aT 3) (Ak (aT 4) ai))))))) ?_
 intro v4 V4 hG4 hv4 ma
 simp only[ay,Act.put,tA,exv (hv4 3 de),exv (hv4 4 de),exv (hv4 5 de),exv (hv4 6 de)]
 replace HO:=ae hG4.1
 clear hG4 hv4 ma
 go_upto_region 6 with fail
 refine fw 9 [_,_,_,_,_,_,_,_,_] [] HO (dh aF (au (tq rfl (aT 0) rfl rfl) (dh (aT 1) (ve (ve (ve (ve (ve (au (qj rfl (aT 2) (fe _)) ai))))))))) ?_
 intro v5 V5 mo hv5 hne5
 simp only[ay,Act.put,tA,exv (hv5 8 de)]
 replace HO:=ae mo.1
 clear mo hv5 hne5
 go_upto_region 7 with fail
 refine fw 1 [_] [] HO (au (Pv rfl rfl) ai) ?_
 intro v6 V6 qb hv6 vw
 simp only[ay,Act.put,tA]
 have hO:=qb.1
 refine kg hO 1 vv (hv6 0 de) ?_
 clear hO
 intro ais hO hk0
 replace HO:=ae hO
 clear hO qb hv6 vw hk0
 go_wp2_with fail
 exact vo results49 Bq rfl rfl (aa HO) uq rfl rfl
theorem brv {a b:ByteArray} {n d:Int} (w:Wq) (hT:yg w) (hz:decide ((s.size:Int)>600)=false)
  (hsp : ∀ W,Calls prog 114 #[.string s] W (gp (ko [ax (.string a),ax (.string b)]) W))
  (Rp : ∀ W,yg W→Calls prog 24 #[.string a] W (gp (ko [bz [iv n,iv d],ax (.int .i64 e)]) W))
  (hq : ∀ W,Calls prog 115 #[.string b] W (gp (ko [zz fs,ax (.bool true)]) W))
  (hip : ∀ W v,bz [iv n,iv d] W v→Calls prog 116 #[.string a,v,.int .i64 e] W (gp (ax (.bool false)) W)) :
  Calls prog 49 #[.string s] w (gp (Kg ⟨z7,0,0,2⟩) w):=by
 have HT:=ae hT
 have HZ:=ae hz
 have Zz:=ae hsp
 have HRP:=ae Rp
 have HPO:=ae hip
 have HQ:=ae hq
 clear hT hz hsp Rp hip hq
 go_enter func49,ntmps49
 go_upto_region 1 with fail
 have hO:=(Own.push (T:=44) (ls:=zU) (Own.nil w) (gy.vs w [.int .i64 0,.int .i64 0,.int .i64 0,.int .i64 0,.int .i64 0,.int .i64 0,.int .i64 0,.int .i64 0,.int .i64 0] rfl) (w.heap.size) rfl)
 generalize w.alloc (.cells #[.int .i64 0,.int .i64 0,.int .i64 0,.int .i64 0,.int .i64 0,.int .i64 0,.int .i64 0,.int .i64 0,.int .i64 0] 44)=W0 at *
 have HO:=ae hO
 clear hO
 refine fw 3 [_,_,_] [] HO (dh aF (au (Ar rfl (aT 0) rfl) (au (Lp rfl (aT 1) (fe _) rfl (aa HZ)) ai))) ?_
 intro v1 V1 hG1 hv1 hne1
 simp only[ay,Act.put,tA,exv (hv1 2 de)]
 replace HO:=ae hG1.1
 clear hG1 hv1 hne1
 go_upto_region 3 with fail
 refine fw 7 [_,_,_,_,_,_,_] [] HO (dh aF (au (sc1 func114 (aT 0) (fun W v0 hG h0=>by cases h0;exact(aa Zz) W)) (dh (aT 1) (pq [ax (.string a),ax (.string b)] (aT 2) (pq _ (aT 2) (Ak (aT 3) (Ak (aT 4) ai))))))) ?_
 intro v2 V2 hG2 hv2 hne2
 simp only[ay,Act.put,tA,show v2 3 = .string a from hv2 3 de,show v2 4 = .string b from hv2 4 de,show v2 5 = .string a from hv2 5 de,show v2 6 = .string b from hv2 6 de]
 replace HO:=ae hG2.1
 clear hG2 hv2 hne2
 go_upto_region 4 with fail
 refine fw 6 [_,_,_,_,_,_] [5] HO (dh aF (au (sc1 func24 (aT 0) (fun W v0 hG h0=>by cases h0;exact(aa HRP) W ((aa HT).below hG.bel))) (dh (aT 1) (pq [bz [iv n,iv d],ax (.int .i64 e)] (aT 2) (pq _ (aT 2) (Am Lr ai)))))) ?_
 intro v3 V3 hG3 hv3 ji
 obtain⟨bnu,e5,zo,Cy⟩:=(show qw 23 zR V2.heap.size V3 (v3 5)from hv3 5 de)
 simp only[ay,Act.put,tA,show v3 4 = .int .i64 e from hv3 4 de,e5]
 have hO:=hG3.1
 replace hO:=Own.add (aa HO) hG3.2 zo Cy
 clear zo Cy
 refine kg hO 0 Gg (hv3 3 de) ?_
 clear hO
 intro Gc hO hk0
 replace HO:=ae hO
 clear hO hG3 hv3 ji hk0
 try clear e5
 go_upto_region 5 with fail
 refine yc 7 59 (ui [ax (.string b),ko [zz fs,ax (.bool true)],ko [zz fs,ax (.bool true)],zz fs,ax (.bool true),zz fs,ax (.bool true)]) (iw w _ Gc) il [] kr rfl (qm.pick ⟨fo _,rq ⟨(Bp _),(fo _),trivial⟩,rq ⟨(Bp _),(fo _),trivial⟩,Bp _,fo _,Bp _,fo _,trivial⟩) (iw.begin (aa HO))
  (au (jh rfl aF)
  (au (sc1 func115 (aT 0) (fun W v0 hG h0=>by cases h0;exact(aa HQ) W))
  (au (jh rfl (aT 1))
  (au (xq (ts:=[zz fs,ax (.bool true)]) rfl (aT 2) (sw rfl) rfl)
  (au (xq (ts:=[zz fs,ax (.bool true)]) rfl (aT 2) (sw rfl) rfl)
  (au (zu rfl (aT 3))
  (au (zu rfl (aT 4))
  ai))))))) ?_
 intro v4 V4 hG4 hv4 ma
 simp only[ay,Act.put,tA,exv (hv4 4 de),exv (hv4 6 de)]
 obtain⟨ao,c,em,hfa⟩:=(show zz fs V4 (v4 5)from hv4 5 de)
 simp only[em]
 have Zm:=ae hfa
 clear hfa
 replace HO:=ae hG4.1
 clear hG4 hv4 ma
 go_upto_region 6 with fail
 refine fw 9 [_,_,_,_,_,_,_,_,_] [] HO (dh aF (au (tq rfl (aT 0) rfl rfl) (dh (aT 1) (ku (jh rfl aF) (ku (El Js me0 aF [] [iv n,iv d] []) (ku (jh rfl aF) (ku (afg func116 kr rfl iw.step (aT 3) (aT 4) (aT 5) (fun W v0 v1 v2 hG h0 h1 h2=>by cases h0;cases h2;exact(aa HPO) W _ h1)) (ku (tq rfl (aT 6) rfl rfl) (au (mh rfl (aT 2) (aT 7)) ai))))))))) ?_
 intro v5 V5 mo hv5 hne5
 simp only[ay,Act.put,tA,exv (hv5 8 de)]
 have hO:=mo.1
 replace Zm:=ae ((aa Zm).below mo.2)
 replace HO:=ae hO
 clear hO mo hv5 hne5
 go_upto_region 7 with fail
 refine fw 1 [_] [] HO (au (Pv rfl rfl) ai) ?_
 intro v6 V6 qb hv6 vw
 simp only[ay,Act.put,tA]
 have hO:=qb.1
 refine kg hO 1 vv (hv6 0 de) ?_
 clear hO
 intro ais hO hk0
 replace HO:=ae hO
 clear hO qb hv6 vw hk0
 go_wp2_with fail
 exact vo results49 Bq rfl rfl (aa HO) uq rfl rfl
theorem bmf {a b:ByteArray} {n d:Int} (w:Wq) (hT:yg w) (hz:decide ((s.size:Int)>600)=false)
  (hsp : ∀ W,Calls prog 114 #[.string s] W (gp (ko [ax (.string a),ax (.string b)]) W))
  (Rp : ∀ W,yg W→Calls prog 24 #[.string a] W (gp (ko [bz [iv n,iv d],ax (.int .i64 e)]) W))
  (hq : ∀ W,Calls prog 115 #[.string b] W (gp (ko [zz fs,ax (.bool true)]) W))
  (hip : ∀ W v,bz [iv n,iv d] W v→Calls prog 116 #[.string a,v,.int .i64 e] W (gp (ax (.bool true)) W))
  (hmul : ∀ W ao c,yg W→Pj W ao fs→Calls prog 117 #[.slice ao fs.length c] W (gp (ko [bz zM,ax (.bool false)]) W)) :
  Calls prog 49 #[.string s] w (gp (Kg ⟨z7,0,0,4⟩) w):=by
 have HT:=ae hT
 have HZ:=ae hz
 have Zz:=ae hsp
 have HRP:=ae Rp
 have HPO:=ae hip
 have HQ:=ae hq
 have HMU:=ae hmul
 clear hT hz hsp Rp hip hq hmul
 go_enter func49,ntmps49
 go_upto_region 1 with fail
 have hO:=(Own.push (T:=44) (ls:=zU) (Own.nil w) (gy.vs w [.int .i64 0,.int .i64 0,.int .i64 0,.int .i64 0,.int .i64 0,.int .i64 0,.int .i64 0,.int .i64 0,.int .i64 0] rfl) (w.heap.size) rfl)
 generalize w.alloc (.cells #[.int .i64 0,.int .i64 0,.int .i64 0,.int .i64 0,.int .i64 0,.int .i64 0,.int .i64 0,.int .i64 0,.int .i64 0] 44)=W0 at *
 have HO:=ae hO
 clear hO
 refine fw 3 [_,_,_] [] HO (dh aF (au (Ar rfl (aT 0) rfl) (au (Lp rfl (aT 1) (fe _) rfl (aa HZ)) ai))) ?_
 intro v1 V1 hG1 hv1 hne1
 simp only[ay,Act.put,tA,exv (hv1 2 de)]
 replace HO:=ae hG1.1
 clear hG1 hv1 hne1
 go_upto_region 3 with fail
 refine fw 7 [_,_,_,_,_,_,_] [] HO (dh aF (au (sc1 func114 (aT 0) (fun W v0 hG h0=>by cases h0;exact(aa Zz) W)) (dh (aT 1) (pq [ax (.string a),ax (.string b)] (aT 2) (pq _ (aT 2) (Ak (aT 3) (Ak (aT 4) ai))))))) ?_
 intro v2 V2 hG2 hv2 hne2
 simp only[ay,Act.put,tA,show v2 3 = .string a from hv2 3 de,show v2 4 = .string b from hv2 4 de,show v2 5 = .string a from hv2 5 de,show v2 6 = .string b from hv2 6 de]
 replace HO:=ae hG2.1
 clear hG2 hv2 hne2
 go_upto_region 4 with fail
 refine fw 6 [_,_,_,_,_,_] [5] HO (dh aF (au (sc1 func24 (aT 0) (fun W v0 hG h0=>by cases h0;exact(aa HRP) W ((aa HT).below hG.bel))) (dh (aT 1) (pq [bz [iv n,iv d],ax (.int .i64 e)] (aT 2) (pq _ (aT 2) (Am Lr ai)))))) ?_
 intro v3 V3 hG3 hv3 ji
 obtain⟨bnu,e5,zo,Cy⟩:=(show qw 23 zR V2.heap.size V3 (v3 5)from hv3 5 de)
 simp only[ay,Act.put,tA,show v3 4 = .int .i64 e from hv3 4 de,e5]
 have hO:=hG3.1
 replace hO:=Own.add (aa HO) hG3.2 zo Cy
 clear zo Cy
 refine kg hO 0 Gg (hv3 3 de) ?_
 clear hO
 intro Gc hO hk0
 replace HO:=ae hO
 clear hO hG3 hv3 ji hk0
 try clear e5
 go_upto_region 5 with fail
 refine yc 7 59 (ui [ax (.string b),ko [zz fs,ax (.bool true)],ko [zz fs,ax (.bool true)],zz fs,ax (.bool true),zz fs,ax (.bool true)]) (iw w _ Gc) il [] kr rfl (qm.pick ⟨fo _,rq ⟨(Bp _),(fo _),trivial⟩,rq ⟨(Bp _),(fo _),trivial⟩,Bp _,fo _,Bp _,fo _,trivial⟩) (iw.begin (aa HO))
  (au (jh rfl aF)
  (au (sc1 func115 (aT 0) (fun W v0 hG h0=>by cases h0;exact(aa HQ) W))
  (au (jh rfl (aT 1))
  (au (xq (ts:=[zz fs,ax (.bool true)]) rfl (aT 2) (sw rfl) rfl)
  (au (xq (ts:=[zz fs,ax (.bool true)]) rfl (aT 2) (sw rfl) rfl)
  (au (zu rfl (aT 3))
  (au (zu rfl (aT 4))
  ai))))))) ?_
 intro v4 V4 hG4 hv4 ma
 simp only[ay,Act.put,tA,exv (hv4 4 de),exv (hv4 6 de)]
 obtain⟨ao,c,em,hfa⟩:=(show zz fs V4 (v4 5)from hv4 5 de)
 simp only[em]
 have Zm:=ae hfa
 clear hfa
 replace HO:=ae hG4.1
 clear hG4 hv4 ma
 go_upto_region 6 with fail
 refine fw 9 [_,_,_,_,_,_,_,_,_] [] HO (dh aF (au (tq rfl (aT 0) rfl rfl) (dh (aT 1) (ku (jh rfl aF) (ku (El Js me0 aF [] [iv n,iv d] []) (ku (jh rfl aF) (ku (afg func116 kr rfl iw.step (aT 3) (aT 4) (aT 5) (fun W v0 v1 v2 hG h0 h1 h2=>by cases h0;cases h2;exact(aa HPO) W _ h1)) (ku (tq rfl (aT 6) rfl rfl) (au (mh rfl (aT 2) (aT 7)) ai))))))))) ?_
 intro v5 V5 mo hv5 hne5
 simp only[ay,Act.put,tA,exv (hv5 8 de)]
 have hO:=mo.1
 replace Zm:=ae ((aa Zm).below mo.2)
 replace HO:=ae hO
 clear hO mo hv5 hne5
 go_upto_region 8 with fail
 refine fw 6 [_,_,_,_,_,_] [5] HO (dh aF (au (sc1 func117 (aT 0) (fun W v0 hG h0=>by cases h0;exact(aa HMU) W ao c ((aa HT).below hG.bel) ((aa Zm).below hG.2))) (dh (aT 1) (pq [bz zM,ax (.bool false)] (aT 2) (pq _ (aT 2) (Am Xv ai)))))) ?_
 intro v6 V6 qb hv6 vw
 obtain⟨ckx,e5,zo,Cy⟩:=(show qw 118 zM V5.heap.size V6 (v6 5)from hv6 5 de)
 simp only[ay,Act.put,tA,exv (hv6 4 de),e5]
 have hO:=qb.1
 replace hO:=Own.add (aa HO) qb.2 zo Cy
 clear zo Cy
 refine kg hO 0 Bc (hv6 3 de) ?_
 clear hO
 intro ais hO hk0
 replace HO:=ae hO
 clear hO qb hv6 vw hk0
 try clear e5
 go_upto_region 9 with fail
 refine fw 2 [_,_] [] HO (dh aF (au (tq rfl (aT 0) rfl rfl) ai)) ?_
 intro v7 V7 vg hv7 zw
 simp only[ay,Act.put,tA,exv (hv7 1 de)]
 replace HO:=ae vg.1
 clear vg hv7 zw
 go_upto_region 10 with fail
 refine fw 1 [_] [] HO (au (Pv rfl rfl) ai) ?_
 intro v8 V8 Eb En Ju
 simp only[ay,Act.put,tA]
 have hO:=Eb.1
 refine kg hO 2 vv (En 0 de) ?_
 clear hO
 intro air hO hk0
 replace HO:=ae hO
 clear hO Eb En Ju hk0
 go_wp2_with fail
 exact vo results49 Bq rfl rfl (aa HO) Ed rfl rfl
theorem bhh {a b:ByteArray} {n d:Int} {F:Nat→Int} {X:Rat} (w:Wq) (hT:yg w) (hz:decide ((s.size:Int)>600)=false)
  (hsp : ∀ W,Calls prog 114 #[.string s] W (gp (ko [ax (.string a),ax (.string b)]) W))
  (Rp : ∀ W,yg W→Calls prog 24 #[.string a] W (gp (ko [bz [iv n,iv d],ax (.int .i64 e)]) W))
  (hq : ∀ W,Calls prog 115 #[.string b] W (gp (ko [zz fs,ax (.bool true)]) W))
  (hip : ∀ W v,bz [iv n,iv d] W v→Calls prog 116 #[.string a,v,.int .i64 e] W (gp (ax (.bool true)) W))
  (hmul : ∀ W ao c,yg W→Pj W ao fs→Calls prog 117 #[.slice ao fs.length c] W (gp (ko [bz [.k (eK F),.q X],ax (.bool true)]) W)) (he:(e != 0)=true) :
  Calls prog 49 #[.string s] w (gp (Kg ⟨z7,0,0,e⟩) w):=by
 have HT:=ae hT
 have HZ:=ae hz
 have Zz:=ae hsp
 have HRP:=ae Rp
 have HPO:=ae hip
 have HQ:=ae hq
 have HMU:=ae hmul
 have HE:=ae he
 clear hT hz hsp Rp hip hq hmul he
 go_enter func49,ntmps49
 go_upto_region 1 with fail
 have hO:=(Own.push (T:=44) (ls:=zU) (Own.nil w) (gy.vs w [.int .i64 0,.int .i64 0,.int .i64 0,.int .i64 0,.int .i64 0,.int .i64 0,.int .i64 0,.int .i64 0,.int .i64 0] rfl) (w.heap.size) rfl)
 generalize w.alloc (.cells #[.int .i64 0,.int .i64 0,.int .i64 0,.int .i64 0,.int .i64 0,.int .i64 0,.int .i64 0,.int .i64 0,.int .i64 0] 44)=W0 at *
 have HO:=ae hO
 clear hO
 refine fw 3 [_,_,_] [] HO (dh aF (au (Ar rfl (aT 0) rfl) (au (Lp rfl (aT 1) (fe _) rfl (aa HZ)) ai))) ?_
 intro v1 V1 hG1 hv1 hne1
 simp only[ay,Act.put,tA,exv (hv1 2 de)]
 replace HO:=ae hG1.1
 clear hG1 hv1 hne1
 go_upto_region 3 with fail
 refine fw 7 [_,_,_,_,_,_,_] [] HO (dh aF (au (sc1 func114 (aT 0) (fun W v0 hG h0=>by cases h0;exact(aa Zz) W)) (dh (aT 1) (pq [ax (.string a),ax (.string b)] (aT 2) (pq _ (aT 2) (Ak (aT 3) (Ak (aT 4) ai))))))) ?_
 intro v2 V2 hG2 hv2 hne2
 simp only[ay,Act.put,tA,show v2 3 = .string a from hv2 3 de,show v2 4 = .string b from hv2 4 de,show v2 5 = .string a from hv2 5 de,show v2 6 = .string b from hv2 6 de]
 replace HO:=ae hG2.1
 clear hG2 hv2 hne2
 go_upto_region 4 with fail
 refine fw 6 [_,_,_,_,_,_] [5] HO (dh aF (au (sc1 func24 (aT 0) (fun W v0 hG h0=>by cases h0;exact(aa HRP) W ((aa HT).below hG.bel))) (dh (aT 1) (pq [bz [iv n,iv d],ax (.int .i64 e)] (aT 2) (pq _ (aT 2) (Am Lr ai)))))) ?_
 intro v3 V3 hG3 hv3 ji
 obtain⟨bnu,e5,zo,Cy⟩:=(show qw 23 zR V2.heap.size V3 (v3 5)from hv3 5 de)
 simp only[ay,Act.put,tA,show v3 4 = .int .i64 e from hv3 4 de,e5]
 have hO:=hG3.1
 replace hO:=Own.add (aa HO) hG3.2 zo Cy
 clear zo Cy
 refine kg hO 0 Gg (hv3 3 de) ?_
 clear hO
 intro Gc hO hk0
 replace HO:=ae hO
 clear hO hG3 hv3 ji hk0
 try clear e5
 go_upto_region 5 with fail
 refine yc 7 59 (ui [ax (.string b),ko [zz fs,ax (.bool true)],ko [zz fs,ax (.bool true)],zz fs,ax (.bool true),zz fs,ax (.bool true)]) (iw w _ Gc) il [] kr rfl (qm.pick ⟨fo _,rq ⟨(Bp _),(fo _),trivial⟩,rq ⟨(Bp _),(fo _),trivial⟩,Bp _,fo _,Bp _,fo _,trivial⟩) (iw.begin (aa HO))
  (au (jh rfl aF)
  (au (sc1 func115 (aT 0) (fun W v0 hG h0=>by cases h0;exact(aa HQ) W))
  (au (jh rfl (aT 1))
  (au (xq (ts:=[zz fs,ax (.bool true)]) rfl (aT 2) (sw rfl) rfl)
  (au (xq (ts:=[zz fs,ax (.bool true)]) rfl (aT 2) (sw rfl) rfl)
  (au (zu rfl (aT 3))
  (au (zu rfl (aT 4))
  ai))))))) ?_
 intro v4 V4 hG4 hv4 ma
 simp only[ay,Act.put,tA,exv (hv4 4 de),exv (hv4 6 de)]
 obtain⟨ao,c,em,hfa⟩:=(show zz fs V4 (v4 5)from hv4 5 de)
 simp only[em]
 have Zm:=ae hfa
 clear hfa
 replace HO:=ae hG4.1
 clear hG4 hv4 ma
 go_upto_region 6 with fail
 refine fw 9 [_,_,_,_,_,_,_,_,_] [] HO (dh aF (au (tq rfl (aT 0) rfl rfl) (dh (aT 1) (ku (jh rfl aF) (ku (El Js me0 aF [] [iv n,iv d] []) (ku (jh rfl aF) (ku (afg func116 kr rfl iw.step (aT 3) (aT 4) (aT 5) (fun W v0 v1 v2 hG h0 h1 h2=>by cases h0;cases h2;exact(aa HPO) W _ h1)) (ku (tq rfl (aT 6) rfl rfl) (au (mh rfl (aT 2) (aT 7)) ai))))))))) ?_
 intro v5 V5 mo hv5 hne5
 simp only[ay,Act.put,tA,exv (hv5 8 de)]
 have hO:=mo.1
 replace Zm:=ae ((aa Zm).below mo.2)
 replace HO:=ae hO
 clear hO mo hv5 hne5
 go_upto_region 8 with fail
 refine fw 6 [_,_,_,_,_,_] [5] HO (dh aF (au (sc1 func117 (aT 0) (fun W v0 hG h0=>by cases h0;exact(aa HMU) W ao c ((aa HT).below hG.bel) ((aa Zm).below hG.2))) (dh (aT 1) (pq [bz [.k (eK F),.q X],ax (.bool true)] (aT 2) (pq _ (aT 2) (Am Xv ai)))))) ?_
 intro v6 V6 qb hv6 vw
 obtain⟨ckx,e5,zo,Cy⟩:=(show qw 118 zM V5.heap.size V6 (v6 5)from hv6 5 de)
 simp only[ay,Act.put,tA,exv (hv6 4 de),e5]
 have hO:=qb.1
 replace hO:=Own.add (aa HO) qb.2 zo Cy
 clear zo Cy
 refine kg hO 0 Bc (hv6 3 de) ?_
 clear hO
 intro ais hO hk0
 replace HO:=ae hO
 clear hO qb hv6 vw hk0
 try clear e5
 go_upto_region 9 with fail
 refine fw 2 [_,_] [] HO (dh aF (au (tq rfl (aT 0) rfl rfl) ai)) ?_
 intro v7 V7 vg hv7 zw
 simp only[ay,Act.put,tA,exv (hv7 1 de)]
 replace HO:=ae vg.1
 clear vg hv7 zw
 go_upto_region 11 with fail
 refine fw 2 [_,_] [] HO (dh aF (au (aff rfl (aT 0) (fe _) rfl (aa HE)) ai)) ?_
 intro v8 V8 Eb En Ju
 simp only[ay,Act.put,tA,exv (En 1 de)]
 replace HO:=ae Eb.1
 clear Eb En Ju
 go_upto_region 12 with fail
 refine fw 2 [_,_] [] HO (au (Pv rfl rfl) (dh aF ai)) ?_
 intro v9 V9 Rv Vn acj
 simp only[ay,Act.put,tA,show v9 1 = .int .i64 e from Vn 1 de]
 have hO:=Rv.1
 refine kg hO 2 vv (Vn 0 de) ?_
 clear hO
 intro ctd hO hk0
 replace HO:=ae hO
 clear hO Rv Vn acj hk0
 go_wp2_with fail
 exact vo results49 Bq rfl rfl (aa HO) Ed rfl rfl
end Sb


namespace Sb
theorem cdv {F:Nat} {vs:Array Vq} {v:Vq} (h:Calls prog F vs W fun e w'=>e = .returned v∧w'=W):Calls prog F vs W (gp (ax v) W):=h.mono fun e w' ⟨h1,h2⟩=>by subst h2;exact⟨v,h1,df _ _,rfl⟩
theorem ceb {n d:Int} {b c:Bool} (w:Wq) (hp : ∀ W,Calls prog 171 #[.string s,.string ⟨#[45]⟩] W fun e w'=>e = .returned (.bool b)∧w'=W) (hc:(!b)=c) (u1:Vq) (h1:bz [iv n,iv d] w u1) :
  Calls prog 116 #[.string s,u1,.int .i64 3] w (gp (ax (.bool c)) w):=by
 have HP:=ae hp
 have HC:=ae hc
 clear hp hc
 have hu1:=afu h1
 subst hu1
 go_enter func116,ntmps116
 go_upto_region 1 with fail
 have hO:=(Own.push (T:=23) (ls:=[iv n,iv d]) (Own.nil w) (gy.v (xc _) (gy.v (xc _) rfl)) (w.heap.size) rfl)
 generalize w.alloc (.cells #[.int .i64 n,.int .i64 d] 23)=W0 at *
 have HO:=ae hO
 clear hO
 refine fw 2 [_,_] [] HO (dh aF (au (Yp rfl (aT 0) (fe _) rfl rfl) ai)) ?_
 intro v1 V1 hG1 hv1 hne1
 simp only[ay,Act.put,tA,exv (hv1 1 de)]
 replace HO:=ae hG1.1
 clear hG1 hv1 hne1
 go_upto_region 3 with fail
 refine fw 8 [_,_,_,_,_,_,_,_] [] HO (dh aF (au (Yp rfl (aT 0) (fe _) rfl rfl) (dh (aT 1) (ku (jh rfl aF) (ku (Ol func171 kr rfl iw.step (aT 3) (fe _) (fun W v0 v1 hG h0 h1=>by cases h0;cases h1;exact cdv ((aa HP) W))) (ku (tq rfl (aT 4) rfl (aa HC)) (au (qj rfl (aT 2) (aT 5)) (Ak (aT 6) ai)))))))) ?_
 intro v2 V2 hG2 hv2 hne2
 simp only[ay,Act.put,tA,show v2 6 = .bool c from hv2 6 de,show v2 7 = .bool c from hv2 7 de]
 replace HO:=ae hG2.1
 clear hG2 hv2 hne2
 go_wp2_with fail
 exact Ka results116 rfl (aa HO).bel rfl
theorem cea {n d:Int} (w:Wq) (he:(e==0)=false∧(e==3)=false) (u1:Vq) (h1:bz [iv n,iv d] w u1) :
  Calls prog 116 #[.string s,u1,.int .i64 e] w (gp (ax (.bool false)) w):=by
 have HE:=ae he
 clear he
 have hu1:=afu h1
 subst hu1
 go_enter func116,ntmps116
 go_upto_region 1 with fail
 have hO:=(Own.push (T:=23) (ls:=[iv n,iv d]) (Own.nil w) (gy.v (xc _) (gy.v (xc _) rfl)) (w.heap.size) rfl)
 generalize w.alloc (.cells #[.int .i64 n,.int .i64 d] 23)=W0 at *
 have HO:=ae hO
 clear hO
 refine fw 2 [_,_] [] HO (dh aF (au (Yp rfl (aT 0) (fe _) rfl (aa HE).1) ai)) ?_
 intro v1 V1 hG1 hv1 hne1
 simp only[ay,Act.put,tA,exv (hv1 1 de)]
 replace HO:=ae hG1.1
 clear hG1 hv1 hne1
 go_upto_region 3 with fail
 refine fw 8 [_,_,_,_,_,_,_,_] [] HO (dh aF (au (Yp rfl (aT 0) (fe _) rfl (aa HE).2) (dh (aT 1) (ve (ve (ve (au (mh rfl (aT 2) (fe _)) (Ak (aT 6) ai)))))))) ?_
 intro v2 V2 hG2 hv2 hne2
 simp only[ay,Act.put,tA,exv (hv2 6 de),exv (hv2 7 de)]
 replace HO:=ae hG2.1
 clear hG2 hv2 hne2
 go_wp2_with fail
 exact Ka results116 rfl (aa HO).bel rfl
theorem csh (s:ByteArray) (W:Wq):Calls prog 171 #[.string s,.string ⟨#[45]⟩] W fun e w'=>e = .returned (.bool (Lib.hasPrefix s.data.toList [45]))∧w'=W:=strings_HasPrefix s ⟨#[45]⟩ W
end Sb


namespace Sb
theorem ek (l:List (Nat×Int)):(l.map fun e=>(e.1,e.2*(-1)))=l.map fun e=>(e.1,-e.2):=List.map_congr_left fun e _=>by rw[Int.mul_neg,amw]
theorem ctu {n d:Int} (ok:okU f n d):xk f (jw n d)=⟨f,n,d,0⟩:=by
 unfold xk
 rw[if_pos ok.1,Sq ok.2.1]
 rfl
end Sb

namespace Sb
theorem bwi (l:List UInt8):((uh l).e=0∧qi (uh l).n (uh l).d)∨(uh l).e=2∨(uh l).e=3:=by
 have key : ∀ q:Rat,((jf q).e=0∧qi (jf q).n (jf q).d)∨(jf q).e=2∨(jf q).e=3:=fun q=>by
  by_cases h:(jf q).e=0
  ·
   exact .inl ⟨h,(bnv h).1⟩
  ·
   refine .inr (.inr ?_)
   unfold jf at h ⊢
   split at h
   ·
    exact absurd rfl h
   ·
    rename_i g;rw[if_neg g]
 unfold uh
 split
 ·
  split
  ·
   split
   ·
    exact .inr (.inl rfl)
   ·
    exact key _
  ·
   exact .inr (.inl rfl)
 ·
  split
  ·
   exact key _
  ·
   exact .inr (.inl rfl)
def Nj (s:ByteArray):ByteArray:=if (32:UInt8)∈s.data.toList then tx (Au 32 s.data.toList)else⟨#[49]⟩
def aij (s:ByteArray):ByteArray:=if (32:UInt8)∈s.data.toList then tx (xu 32 s.data.toList)else s
theorem bps (s:ByteArray) (hs:s.size≤600):(Nj s).size≤600∧(aij s).size≤600 ∧ ∀ W,Calls prog 114 #[.string s] W (gp (ko [ax (.string (Nj s)),ax (.string (aij s))]) W):=by
 unfold Nj aij
 by_cases hc:(32:UInt8)∈s.data.toList
 ·
  obtain⟨e1,e2⟩:=Um hc;have hlen:=Ez List.length e1;rw[Bj,Db,oq]at hlen;rw[if_pos hc,if_pos hc];exact⟨by rw[xw];omega,by rw[xw];omega,fun W=>bpr (by rw[Ac,Ac];exact e1) (by rw[Ac];exact e2) hs W⟩
 ·
  rw[if_neg hc,if_neg hc];exact⟨by decide,hs,fun W=>bcc hc hs W⟩
def ahj (a:ByteArray):Bool:=if (uh a.data.toList).e=0 then decide ((uh a.data.toList).n>0)else if (uh a.data.toList).e=3 then !Lib.hasPrefix a.data.toList [45]else false
theorem awh {a:ByteArray} {c:Bool} (hc:ahj a=c) (W:Wq) (v:Vq) (h:bz [iv (uh a.data.toList).n,iv (uh a.data.toList).d] W v) :
  Calls prog 116 #[.string a,v,.int .i64 (uh a.data.toList).e] W (gp (ax (.bool c)) W):=by
 unfold ahj at hc
 generalize uh a.data.toList=t at *
 obtain⟨n,d,e⟩:=t
 by_cases h0:e=0
 ·
  subst h0;rw[if_pos rfl]at hc;exact brs W v h hc
 ·
  rw[if_neg h0]at hc
  by_cases h3:e=3
  ·
   subst h3;rw[if_pos rfl]at hc;exact ceb W (fun W=>csh a W) hc v h
  ·
   rw[if_neg h3]at hc;subst hc;exact cea W ⟨oo.2 h0,oo.2 h3⟩ v h
theorem bly (a:ByteArray) (ha:a.size≤600) (W:Wq) (hT:yg W):Calls prog 24 #[.string a] W (gp (ko [bz [iv (uh a.data.toList).n,iv (uh a.data.toList).d],ax (.int .i64 (uh a.data.toList).e)]) W):=by
 refine(ayc a W hT om).mono ?_
 rintro e w' ⟨rfl,hb⟩
 exact⟨_,rfl,hb,[_,_],rfl,_,_,rfl,Gw _ _ _,_,_,rfl,rfl,rfl⟩
def Mc (fs:List (ByteArray×Int)):Bool:=fs.all fun f=>(Af f.1).isSome
noncomputable def atb (s:ByteArray):Xy :=
 if 600<s.size then⟨z7,0,0,3⟩
 else match Pz (aij s)with
  | none=>⟨z7,0,0,2⟩
  | some fs=>if ahj (Nj s)=true then(if Mc fs=true then(if (uh (Nj s).data.toList).e=0 then xk (Ew fs) (jw (uh (Nj s).data.toList).n (uh (Nj s).data.toList).d*Gp fs)else⟨z7,0,0,(uh (Nj s).data.toList).e⟩)else⟨z7,0,0,4⟩)else⟨z7,0,0,2⟩
theorem blf (s:ByteArray) (w:Wq) (hT:yg w):Calls prog 49 #[.string s] w (gp (Kg (atb s)) w):=by
 unfold atb
 by_cases hz:600<s.size
 ·
  rw[if_pos hz];exact bmg w hT (dm om)
 ·
  rw[if_neg hz];have hz':decide ((s.size:Int)>600)=false:=dw om;obtain⟨za,zb,hsp⟩:=bps s om;have Rp:=fun W h=>bly (Nj s) za W h
  have hpe:=bwi (Nj s).data.toList
  rcases bwf (aij s) zb with⟨fs,hq,hqc⟩|⟨hq,hqc⟩
  ·
   rw[hq];obtain⟨hbd,hln⟩:=awe zb hq
   cases hpo:ahj (Nj s)with
   | false =>
    show Calls _ _ _ _ (gp (Kg (if false=true then _ else _)) w);rw[if_neg mi];exact brv w hT hz' hsp Rp hqc fun W v h=>awh hpo W v h
   | true =>
    show Calls _ _ _ _ (gp (Kg (if true=true then _ else _)) w);rw[if_pos rfl]
    rcases apq fs with hk|⟨n,x,h1,h2,h3⟩
    ·
     have hkn:Mc fs=true:=Hd.2 fun f hf=>by
      obtain⟨k,hk1,hk2⟩:=List.mem_iff_getElem.1 hf;obtain⟨u,y,h⟩:=hk k f hk1 (by rw[Cj hk1,hk2]);rw[h];rfl
     rw[if_pos hkn];have hacc:=aim hbd fs.length hk;rw[abq]at hacc
     by_cases h0:(uh (Nj s).data.toList).e=0
     ·
      rw[if_pos h0];have ok:qi (uh (Nj s).data.toList).n (uh (Nj s).data.toList).d:=by
       rcases hpe with h|h|h
       ·
        exact h.2
       ·
        rw[h0]at h;cases h
       ·
        rw[h0]at h;cases h
      have hp:decide ((uh (Nj s).data.toList).n>0)=true:=by
       unfold ahj at hpo;rw[if_pos h0]at hpo;exact hpo
      rw[h0]at Rp;exact Vh w hT hz' ok hp hsp Rp hqc (fun W ao c h hf=>bdh hbd hln hk W ao c h hf) fun W v0 v1 h h0 h1=>Ym W v0 h0 v1 h1 (fun j hj=>by
       have hb:=hacc.bd j hj;show wrap64 (0+Ew fs j)=Ew fs j;rw[Int.zero_add];exact Cs _ om) fun W' x y hb g0 g1=>aih (h.below hb) ((Oa ok).mono (L:=25000) om om) ((hacc.sm hln).mono om om) g0 g1
     ·
      rw[if_neg h0];exact bhh w hT hz' hsp Rp hqc (fun W v h=>awh hpo W v h) (fun W ao c h hf=>bdh hbd hln hk W ao c h hf) (by simpa using h0)
    ·
     have hkn : ¬ Mc fs=true:=fun h=>by
      have:=Hd.1 h x (Kt h1);rw[h2]at this
      cases this
     rw[if_neg hkn];exact bmf w hT hz' hsp Rp hqc (fun W v h=>awh hpo W v h) fun W ao c h hf=>bwr hbd hln h1 h2 h3 W ao c h hf
  ·
   rw[hq];exact bmh w hT hz' hsp Rp hqc
end Sb

namespace Sb
theorem azd : ∀ {x y:List UInt8},c ∉ x→Au c (x++c::y)=x∧xu c (x++c::y)=y
 | [],y,_=>by
  unfold Au xu;rw[Pm,asn mi,baf mi];exact⟨rfl,rfl⟩
 | z::x,y,h=>by
  have h1:z≠c:=fun e=>h (by rw[e];exact Ah)
  have h2:c ∉ x:=fun e=>h (Fw _ e)
  obtain⟨g1,g2⟩:=azd (y:=y) h2;unfold Au xu at *;rw[Ut,asl (by simpa using h1),bae (by simpa using h1),g1];exact⟨rfl,g2⟩
theorem aqf {l:List UInt8} (hk:k<l.length) (h:c ∉ l.take k) (hc:l[k]=c):l.take k=Au c l∧l.drop (k+1)=xu c l∧c∈l:=by
 have e:l=l.take k++c::l.drop (k+1):=by
  have h3:=(Lu k l).symm;rw[Si hk,hc]at h3;exact h3
 have h1:=azd (y:=l.drop (k+1)) h
 rw[← e]at h1
 exact⟨h1.1.symm,h1.2.symm,by rw[← hc];exact baa hk⟩
theorem akm {l:List UInt8} (hk:k<l.length) (h:c ∉ l.take k) (hc:l[k]≠c):c ∉ l.take (k+1):=by
 rw[Pk,Cj hk]
 intro hm
 rcases Ku.1 hm with hm|hm
 ·
  exact h hm
 ·
  exact hc (Rj.1 hm).symm
theorem Cu.mono {b2:Nat} {v:Vq} {l:List (ByteArray×Int)} (h:Cu w base v l) (hb:b2≤base):Cu w b2 v l:=by
 obtain⟨h1,h2|⟨g,cap,cur,e,h3,h4,h5⟩⟩:=h
 ·
  exact⟨h1,.inl h2⟩
 ·
  exact⟨h1,.inr ⟨g,cap,cur,e,xy hb h3,h4,h5⟩⟩
theorem Cu.aib {v:Vq} {l:List (ByteArray×Int)} (h:Cu W base v l):zz l W v:=by
 have h0:=h
 obtain⟨_,⟨rfl,h2⟩|⟨g,cap,cur,rfl,h3⟩⟩:=h
 ·
  obtain rfl:=Yj.1 h2;exact⟨none,0,rfl,fun k f hf=>by simp at hf⟩
 ·
  refine⟨_,cap,rfl,fun k f hf=>⟨g,rfl,?_⟩⟩
  have hc:=bbf (g:=g) h0 rfl;obtain⟨h4,h5⟩:=aqk l k f hf;have e : ∀ j,(⟨g,0,none⟩:Addr).add j=⟨g,j,none⟩:=fun j=>by(simp[Addr.add];try omega)
  have h6:=hc _ _ h4;have h7:=hc _ _ h5;rw[e]at h6 h7;exact⟨h6,h7⟩
def Jw (base:Nat) (l:List (ByteArray×Int)):Wq→Vq→Prop:=fun W v=>Cu W base v l
theorem Im (base:Nat) (l:List (ByteArray×Int)):yu il (Jw base l):=fun w w' v hb h=>Cu.below h hb
theorem aqi : ∀ (l:List (ByteArray×Int)) (u:Vq),u∈facC l→u.oneCell'=true
 | [],u,h=>by cases h
 | f::l,u,h=>by
  have h':u∈Value.string f.1::Value.int .i64 f.2::facC l:=h
  rcases yx.1 h' with h|h
  ·
   rw[h];rfl
  ·
   rcases yx.1 h with h|h
   ·
    rw[h];rfl
   ·
    exact aqi l u h
theorem Cu.some {v:Vq} {l:List (ByteArray×Int)} (h:Cu W base v l) (hl:l≠[]) : ∃ g c,v = .slice (some ⟨g,0,none⟩) l.length c ∧ ∀ (j:Nat) u,(facC l)[j]? = some u→W.cell? ((⟨g,0,none⟩:Addr).add j)=some u:=by
 have h0:=h
 obtain⟨_,⟨rfl,h2⟩|⟨g,cap,cur,rfl,h3⟩⟩:=h
 ·
  exact absurd (Yj.1 h2) hl
 ·
  exact⟨g,cap,rfl,bbf (g:=g) h0 rfl⟩
theorem aee (hs:s.size≤600) (h:(readAll (parts s)).2=true) (hb:base≤W.heap.size):Calls prog 175 #[.string s,.int .i64 sg] W (gp (ko [Jw base (ze sg (readAll (parts s)).1),ax (.bool true)]) W):=by
 refine(axt s sg W hs).mono ?_
 rintro e w' ⟨h1,⟨_,v',rfl,h2⟩|⟨h2,_⟩⟩
 ·
  exact⟨_,rfl,h1,[_,_],rfl,_,_,rfl,h2.mono hb,_,_,rfl,rfl,rfl⟩
 ·
  rw[h]at h2;cases h2
theorem aef (hs:s.size≤600) (h:(readAll (parts s)).2=false):Calls prog 175 #[.string s,.int .i64 sg] W (gp (ko [ax (.slice none 0 0),ax (.bool false)]) W):=by
 refine(axt s sg W hs).mono ?_
 rintro e w' ⟨h1,⟨h2,_⟩|⟨_,rfl⟩⟩
 ·
  rw[h]at h2;cases h2
 ·
  exact⟨_,rfl,h1,[_,_],rfl,_,_,rfl,rfl,_,_,rfl,rfl,rfl⟩
theorem Yl {o:Oper} {a:Act} (hg:o.guard=none) (s x:Operand) (t:TypeId) (hop:o.op=Op.call { callee:=Callee.builtin Builtin.append,args:=#[s,x],argTypes:=#[t,t]})
  (base:Nat) (e:TypeId) (i:TypeInfo) (size:Nat) (h1:P.underlying t=some (.slice e)) (h2:P.info? e=some i) (v:Vq) (k:Nat) (xs:List Vq) (hs:a.eval s=v) (hown:w.ownsRow base e size v k xs) (hx:a.eval x = .slice none 0 0)
  (hK:wpList P ops Q rest (a.put o.dst v) w):wpList P ops Q (o::rest) a w:=by
 refine wpList_plain hg fun K hK' => ?_
 have hrun:=run_append_owned_none (P:=P) w base t o.type e i size h1 h2 v k xs hown
 unfold Oper.wp
 simp[execOp,hop,resolve,invoke,builtin,hs,hx,hrun,Result.andThen]
 exact hK' _ _ hK
def avq (o:Option (List (ByteArray×Int))) (w:Wq) (e:Ending) (w':Wq):Prop:=Below w.heap.size w w'∧((∃ fs v',o=some fs∧e = .returned (.tuple #[v',.bool true])∧zz fs w' v')∨(∃ v',o=none∧e = .returned (.tuple #[v',.bool false])))
def abw (c:Bool) (a:List UInt8) (r1 r2:List (ByteArray×Int)×Bool):Option (List (ByteArray×Int)) :=
 if c=true then(if a=[49]then(if r2.2=true then some (ze (-1) r2.1)else none)else if r1.2=true∧r2.2=true then some (ze 1 r1.1++ze (-1) r2.1)else none)
 else if a=[49]then some []else if r1.2=true then some (ze 1 r1.1)else none
theorem bau {b:ByteArray} (he:s.extract 0 m=b) (hal:al.contains k=false) (hx:cu l n T a0 k x (ax (.string s))) (hy:cu l n T a0 k y (ax (.int .i64 (m:Int)))) (hm:m≤s.size) (hT:T k=ax (.string b)) :
  ib prog Q l n T G il al a0 k { dst:=some d,op := .slice 9 x none (some y) none,type:=ty,pos:=pos,after:=af,guard:=gd}:=by
 subst he
 exact bqb hal hx hy hm hT
theorem ayw {l a b:List UInt8} {c:Bool} {o:Option (List (ByteArray×Int))} (w:Wq) (hz:l.length≤600) (hs:(tx a).size≤600∧(tx b).size≤600)
  (hc:((47:UInt8)∈l→c=true∧a=Au 47 l∧b=xu 47 l)∧((47:UInt8) ∉ l→c=false∧a=l∧b=[])) (ho:o=abw c a (readAll (parts (tx a))) (readAll (parts (tx b))))
  (hln:(ze 1 (readAll (parts (tx a))).1).length≤601∧(ze (-1) (readAll (parts (tx b))).1).length≤601) (hne:(readAll (parts (tx b))).2=true→ze (-1) (readAll (parts (tx b))).1≠[]) :
  Calls prog 124 #[.string (tx l)] w (avq o w):=by
 have HZ:=ae hz
 have HS:=ae hs
 have HC:=ae hc
 have Jo:=ae ho
 have Na:=ae hln
 have HNE:=ae hne
 clear hz hs hc ho hln hne
 go_enter func124,ntmps124
 go_upto_region 1 with fail
 have hO:=(Own.nil w)
 have HO:=ae hO
 clear hO
 go_upto_block 0 with(fail)
 go_cut [4,5,6] (fun tv lv cv wx=>tv = .string (tx a)∧lv = .string (tx b)∧cv = .bool c∧Below w.heap.size w wx)
 case first =>
  go_wp2_with fail
  go_loopw [4,5,6,7] (fun tv lv cv kv wr => ∃ k:Nat,k≤l.length∧kv = .int .i64 ((k:Nat):Int)∧Below w.heap.size w wr∧((tv = .string (tx l)∧lv = .string (tx [])∧cv = .bool false∧Hid ((47:UInt8) ∉ l.take k))∨(tv = .string (tx a)∧lv = .string (tx b)∧cv = .bool true∧Hid (c=true)))) (fun _ _ _ kv _=>l.length+1-(intOf kv).toNat)
  case atStart=>exact⟨0,ug _,rfl,(aa HO).bel,.inl ⟨rfl,rfl,rfl,ae mi⟩⟩
  case round =>
   clear HO;obtain⟨k,hk,rfl,hbw,hcase⟩:=hrel;have HK:=ae hk;clear hk;have HO:=ae (Own.bare hbw);clear hbw
   rcases hcase with⟨rfl,rfl,rfl,hnot⟩|⟨rfl,rfl,rfl,hct⟩
   ·
    by_cases g1:k<l.length
    ·
     have d1:decide ((k:Int)<((tx l).size:Int))=true:=dm (by rw[xw];omega);have qp:=ae g1;have Mx:=ae (show k<(tx l).size by rw[xw];exact g1);clear g1;go_upto_region 3 with fail;refine fw 8 [_,_,_,_,_,_,_,_] [] HO (dh aF (dh aF (au (Ar rfl (aT 1) rfl) (au (wu rfl (aT 0) (aT 2) rfl d1) (dh (aT 3) (ku (jh rfl aF) (ku (tq rfl (aT 5) rfl rfl) (au (qj rfl (aT 4) (aT 6)) ai)))))))) ?_
     intro v1 V1 hG1 hv1 hne1;simp only[ay,Act.put,tA,exv (hv1 7 de)];replace HO:=ae hG1.1;clear hG1 hv1 hne1;clear d1
     by_cases g2:l[k]'(aa qp)=47
     ·
      have d2:((((tx l)[k]'(aa Mx)).toNat:Int)==47)=true:=by
       have h9:(tx l)[k]'(aa Mx)=l[k]'(aa qp):=rfl;rw[h9,g2];rfl
      obtain⟨e1,e2,e3⟩:=aqf (aa qp) (aa hnot) g2;obtain⟨k1,k2,k3⟩:=(aa HC).1 e3;have HE1:=ae (show(tx l).extract 0 k=tx a by rw[Ul,Ac,k2,← e1];simp);have HE2:=ae (show(tx l).extract (k+1) (tx l).size=tx b by rw[Ul,Ac,k3,← e2,Fb (by rw[Kv,xw];omega)]);have HCT:=ae k1;have HWK:=ae (show wrap64 ((k:Int)+1)=((k+1:Nat):Int)from by have:=aa qp;have:=aa HZ;rw[Cs _ om];push_cast;rfl);clear g2 e1 e2 e3 k1 k2 k3;go_upto_region 5 with fail;refine fw 4 [_,_,_,_] [] HO (dh aF (dh aF (au (Yo (i:=k) rfl (aT 0) (aT 1) (aa Mx) rfl) (au (abv rfl (aT 2) (fe _) d2 rfl) ai)))) ?_
      intro v2 V2 hG2 hv2 hne2;simp only[ay,Act.put,tA,exv (hv2 3 de)];replace HO:=ae hG2.1;clear hG2 hv2 hne2;clear d2;go_upto_region 6 with fail;refine Nw 10 [_,_,_,_,_,_,_,_,_,_] [] HO (dh aF (dh aF (au (bau (aa HE1) rfl (aT 0) (aT 1) (Lt (aa Mx)) rfl) (dh aF (dh aF (au (atm rfl (aT 4) (fe _) (aa HWK) rfl) (au (bcj (aa HE2) rfl (aT 3) (aT 5) (aa Mx) rfl) (Ak (aT 2) (Ak (aT 6) (Ak (fe _) ai)))))))))) ?_
      intro v3 V3 hG3 hv3 ji;simp only[ay,Act.put,tA,show v3 2 = .string (tx a)from hv3 2 de,show v3 6 = .string (tx b)from hv3 6 de,show v3 7 = .string (tx a)from hv3 7 de,show v3 8 = .string (tx b)from hv3 8 de,exv (hv3 9 de)];replace HO:=ae hG3.1;clear hG3 hv3 ji;have hbel:=(aa HO).bel;have hz:=aa HZ;clear HO;go_wp2_with fail
      go_roundw
      case rel =>
       exact⟨k+1,aa qp,He (aa qp) om,hbel,.inr ⟨rfl,rfl,rfl,HCT⟩⟩
      case measure =>
       have h1:=aa qp;rw[Ih h1 om];simp[intOf]<;>omega
     ·
      have d2:((((tx l)[k]'(aa Mx)).toNat:Int)==47)=false:=by
       have h9:(tx l)[k]'(aa Mx)=l[k]'(aa qp):=rfl;rw[h9];exact oo.2 fun e=>g2 (Rf.1 (by show(l[k]'(aa qp)).toNat=47;omega))
      have HNN:=ae (akm (aa qp) (aa hnot) g2);clear g2;go_upto_region 5 with fail;refine fw 4 [_,_,_,_] [] HO (dh aF (dh aF (au (Yo (i:=k) rfl (aT 0) (aT 1) (aa Mx) rfl) (au (abv rfl (aT 2) (fe _) d2 rfl) ai)))) ?_
      intro v2 V2 hG2 hv2 hne2;simp only[ay,Act.put,tA,exv (hv2 3 de)];replace HO:=ae hG2.1;clear hG2 hv2 hne2;clear d2;have hbel:=(aa HO).bel;have hz:=aa HZ;clear HO;go_wp2_with fail
      go_roundw
      case rel =>
       exact⟨k+1,aa qp,He (aa qp) om,hbel,.inl ⟨rfl,rfl,rfl,HNN⟩⟩
      case measure =>
       have h1:=aa qp;rw[Ih h1 om];simp[intOf]<;>omega
    ·
     have d1:decide ((k:Int)<((tx l).size:Int))=false:=dw (by rw[xw];omega);have hkl:k=l.length:=by have:=aa HK;omega
     have hno:=aa hnot;rw[hkl,abq]at hno;obtain⟨k1,k2,k3⟩:=(aa HC).2 hno;have Nq:=ae (And.intro k1 (And.intro k2 k3));clear g1 hkl hno k1 k2 k3;go_upto_region 3 with fail;refine fw 8 [_,_,_,_,_,_,_,_] [] HO (dh aF (dh aF (au (Ar rfl (aT 1) rfl) (au (wu rfl (aT 0) (aT 2) rfl d1) (dh (aT 3) (ve (ve (au (mh rfl (aT 4) (fe _)) ai)))))))) ?_
     intro v1 V1 hG1 hv1 hne1;simp only[ay,Act.put,tA,exv (hv1 7 de)];replace HO:=ae hG1.1;clear hG1 hv1 hne1;clear d1;have hbel:=(aa HO).bel;clear HO;go_wp2_with fail
     go_meet
     exact⟨by rw[(aa Nq).2.1],by rw[(aa Nq).2.2],by rw[(aa Nq).1],hbel⟩
   ·
    by_cases g1:k<l.length
    ·
     have d1:decide ((k:Int)<((tx l).size:Int))=true:=dm (by rw[xw];omega);clear g1;go_upto_region 3 with fail;refine fw 8 [_,_,_,_,_,_,_,_] [] HO (dh aF (dh aF (au (Ar rfl (aT 1) rfl) (au (wu rfl (aT 0) (aT 2) rfl d1) (dh (aT 3) (ku (jh rfl aF) (ku (tq rfl (aT 5) rfl rfl) (au (qj rfl (aT 4) (aT 6)) ai)))))))) ?_
     intro v1 V1 hG1 hv1 hne1;simp only[ay,Act.put,tA,exv (hv1 7 de)];replace HO:=ae hG1.1;clear hG1 hv1 hne1;clear d1;have hbel:=(aa HO).bel;clear HO;go_wp2_with fail
     go_meet
     exact⟨rfl,rfl,by rw[aa hct],hbel⟩
    ·
     have d1:decide ((k:Int)<((tx l).size:Int))=false:=dw (by rw[xw];omega);clear g1;go_upto_region 3 with fail;refine fw 8 [_,_,_,_,_,_,_,_] [] HO (dh aF (dh aF (au (Ar rfl (aT 1) rfl) (au (wu rfl (aT 0) (aT 2) rfl d1) (dh (aT 3) (ve (ve (au (mh rfl (aT 4) (fe _)) ai)))))))) ?_
     intro v1 V1 hG1 hv1 hne1;simp only[ay,Act.put,tA,exv (hv1 7 de)];replace HO:=ae hG1.1;clear hG1 hv1 hne1;clear d1;have hbel:=(aa HO).bel;clear HO;go_wp2_with fail
     go_meet
     exact⟨rfl,rfl,by rw[aa hct],hbel⟩
 case rest =>
  revert hcut
  generalize wc=C0;intro hcut;obtain⟨rfl,rfl,rfl,hcb⟩:=hcut;clear HO HC;have HO:=ae (Own.bare hcb);clear hcb;go_upto_region 7 with fail;refine fw 1 [_] [] HO (Ak (fe _) ai) ?_
  intro v1 V1 hG1 hv1 hne1;simp only[ay,Act.put,tA,exv (hv1 0 de)];replace HO:=ae hG1.1;clear hG1 hv1 hne1
  by_cases g1:a=[49]
  ·
   have aja:=ae (show decide (a=[49])=true from dm g1);have d8:decide (a=[49])=true:=dm g1;clear g1;go_upto_region 8 with fail;refine fw 3 [_,_,_] [] HO (dh aF (au (Gq (p:=a) (q:=[49]) rfl (aT 0) (fe _) d8 rfl) (Ak (aT 1) ai))) ?_
   intro v2 V2 hG2 hv2 hne2;simp only[ay,Act.put,tA,exv (hv2 1 de),exv (hv2 2 de)];replace HO:=ae hG2.1;clear hG2 hv2 hne2;clear d8;go_upto_region 9 with fail;refine fw 2 [_,_] [] HO (dh aF (au (tq rfl (aT 0) rfl rfl) ai)) ?_
   intro v3 V3 hG3 hv3 ji;simp only[ay,Act.put,tA,exv (hv3 1 de)];replace HO:=ae hG3.1;clear hG3 hv3 ji;have Gs:=ae (Cu.nil V3 w.heap.size)
   cases c with
   | true =>
    go_upto_region 11 with fail;refine fw 4 [_,_,_,_] [] HO (dh aF (dh (aT 0) (ku (jh rfl aF) (au (qj rfl (aT 1) (aT 2)) ai)))) ?_
    intro v4 V4 hG4 hv4 ma;simp only[ay,Act.put,tA,exv (hv4 3 de)];replace Gs:=ae ((aa Gs).below hG4.2);replace HO:=ae hG4.1;clear hG4 hv4 ma;go_upto_region 12 with fail;refine fw 1 [_] [] HO (Ak (fe _) ai) ?_
    intro v5 V5 mo hv5 hne5;simp only[ay,Act.put,tA,exv (hv5 0 de)];replace Gs:=ae ((aa Gs).below mo.2);replace HO:=ae mo.1;clear mo hv5 hne5;have bes:=(aa HO).bel.size
    cases g3:(readAll (parts (tx b))).2 with
    | true =>
     go_upto_region 13 with fail;refine yc 7 56 (ui [ax (.string (tx b)),ko [Jw w.heap.size (ze (-1) (readAll (parts (tx b))).1),ax (.bool true)],ko [Jw w.heap.size (ze (-1) (readAll (parts (tx b))).1),ax (.bool true)],Jw w.heap.size (ze (-1) (readAll (parts (tx b))).1),ax (.bool true),Jw w.heap.size (ze (-1) (readAll (parts (tx b))).1),ax (.bool true)]) (iw w _ V5) il [] kr rfl (qm.pick ⟨fo _,rq ⟨(Im _ _),(fo _),trivial⟩,rq ⟨(Im _ _),(fo _),trivial⟩,Im _ _,fo _,Im _ _,fo _,trivial⟩) (iw.begin (aa HO))
      (au (jh rfl aF)
      (au (sc2 func175 (aT 0) (fe _) (fun W v0 v1 hG h0 h1=>by cases h0;cases h1;exact aee (aa HS).2 g3 (xy bes hG.2.size)))
      (au (jh rfl (aT 1))
      (au (xq (ts:=[Jw w.heap.size (ze (-1) (readAll (parts (tx b))).1),ax (.bool true)]) rfl (aT 2) (sw rfl) rfl)
      (au (xq (ts:=[Jw w.heap.size (ze (-1) (readAll (parts (tx b))).1),ax (.bool true)]) rfl (aT 2) (sw rfl) rfl)
      (au (zu rfl (aT 3))
      (au (zu rfl (aT 4))
      ai))))))) ?_
     intro v6 V6 qb hv6 vw;simp only[ay,Act.put,tA,exv (hv6 4 de),exv (hv6 6 de)];have bdy:=(show Jw w.heap.size (ze (-1) (readAll (parts (tx b))).1) V6 (v6 5)from hv6 5 de)
     generalize v6 5=x10 at *;have HF2:=ae (show Cu V6 w.heap.size x10 (ze (-1) (readAll (parts (tx b))).1)from bdy);clear bdy;replace Gs:=ae ((aa Gs).below qb.2);replace HO:=ae qb.1;clear qb hv6 vw;have HL2:=ae (And.intro (show(([]:List (ByteArray×Int))).length+(ze (-1) (readAll (parts (tx b))).1).length≤2000 by have:=(aa Na).2;show 0+_≤2000;omega) (show(ze (-1) (readAll (parts (tx b))).1)≠[]from(aa HNE) g3));obtain⟨gm,cm,em,hcells⟩:=(aa HF2).some (aa HL2).2;obtain⟨i0,hi0,hz0,hz1,hz2⟩:=info_parts Xe;have hown:=aa Gs;have hbel:=(aa HO).bel;have hlen:=(aa HL2).1;simp only[em];clear Gs HF2 HO em
     go_wp2_with (first|(at_builtin;go_loud (refine wpList_append_own _ rfl _ _ 141 rfl w.heap.size 145 i0 (.agg #[.string ⟨#[]⟩,.int .i64 0]) 2 24 underlying141 hi0 hz0 hz1 hz2 rfl de _ _ _ rfl hown ⟨gm,0,none⟩ _ _ (facC (ze (-1) (readAll (parts (tx b))).1)) rfl (aqj _) hcells (aqi _) (by unfold maxLen;omega) om (by have:=hbel.size;omega) ?_;intro v' w1 hown1 hgrow1 _))|fail)
     go_ret2
     refine⟨hbel.grown hgrow1 hbel.size hown.ge,.inl ⟨_,_,by rw[aa Jo];unfold abw;rw[if_pos rfl,if_pos (sw (aa aja)),if_pos g3],rfl,Cu.aib (base:=w.heap.size) ?_⟩⟩
     unfold Cu;rw[← Bn (List.length _)];exact hown1
    | false =>
     go_upto_region 13 with fail;refine fw 7 [_,_,_,_,_,_,_] [] HO (dh aF (au (sc2 func175 (aT 0) (fe _) (fun W v0 v1 hG h0 h1=>by cases h0;cases h1;exact aef (aa HS).2 g3)) (dh (aT 1) (pq [ax (.slice none 0 0),ax (.bool false)] (aT 2) (pq _ (aT 2) (Ak (aT 3) (Ak (aT 4) ai))))))) ?_
     intro v6 V6 qb hv6 vw;simp only[ay,Act.put,tA,exv (hv6 3 de),exv (hv6 4 de),exv (hv6 5 de),exv (hv6 6 de)];replace Gs:=ae ((aa Gs).below qb.2);replace HO:=ae qb.1;clear qb hv6 vw;obtain⟨i0,hi0,hz0,hz1,hz2⟩:=info_parts Xe;have hown:=aa Gs;have hbel:=(aa HO).bel;clear Gs HO
     go_wp2_with (first|(at_builtin;go_loud (refine Yl rfl _ _ 141 rfl w.heap.size 145 i0 2 underlying141 hi0 _ _ _ rfl hown rfl ?_))|fail)
     go_ret2
     exact⟨hbel,.inr ⟨_,by rw[aa Jo];unfold abw;rw[if_pos rfl,if_pos (sw (aa aja)),if_neg (by rw[g3];decide)],rfl⟩⟩
   | false =>
    go_upto_region 11 with fail;refine fw 4 [_,_,_,_] [] HO (dh aF (dh (aT 0) (ve (au (mh rfl (aT 1) (fe _)) ai)))) ?_
    intro v4 V4 hG4 hv4 ma;simp only[ay,Act.put,tA,exv (hv4 3 de)];replace Gs:=ae ((aa Gs).below hG4.2);replace HO:=ae hG4.1;clear hG4 hv4 ma;go_upto_region 15 with fail;refine fw 4 [_,_,_,_] [] HO (dh aF (dh aF (Ak (aT 0) (Ak (aT 1) ai)))) ?_
    intro v5 V5 mo hv5 hne5;simp only[ay,Act.put,tA,exv (hv5 0 de),exv (hv5 1 de),exv (hv5 2 de),exv (hv5 3 de)];replace Gs:=ae ((aa Gs).below mo.2);replace HO:=ae mo.1;clear mo hv5 hne5;have hbel:=(aa HO).bel;have hf:=(aa Gs).aib;clear HO Gs;go_wp2_with fail
    go_ret2
    exact⟨hbel,.inl ⟨_,_,by rw[aa Jo];unfold abw;rw[if_neg de,if_pos (sw (aa aja))],rfl,hf⟩⟩
  ·
   have aja:=ae (show decide (a=[49])=false from dw g1);have d8:decide (a=[49])=false:=dw g1;clear g1;go_upto_region 8 with fail;refine fw 3 [_,_,_] [] HO (dh aF (au (Gq (p:=a) (q:=[49]) rfl (aT 0) (fe _) d8 rfl) (Ak (aT 1) ai))) ?_
   intro v2 V2 hG2 hv2 hne2;simp only[ay,Act.put,tA,exv (hv2 1 de),exv (hv2 2 de)];replace HO:=ae hG2.1;clear hG2 hv2 hne2;clear d8;go_upto_region 9 with fail;refine fw 2 [_,_] [] HO (dh aF (au (tq rfl (aT 0) rfl rfl) ai)) ?_
   intro v3 V3 hG3 hv3 ji;simp only[ay,Act.put,tA,exv (hv3 1 de)];replace HO:=ae hG3.1;clear hG3 hv3 ji
   cases g2:(readAll (parts (tx a))).2 with
   | true =>
    have hbase:=(aa HO).bel.size;go_upto_region 10 with fail;refine yc 7 56 (ui [ax (.string (tx a)),ko [Jw w.heap.size (ze 1 (readAll (parts (tx a))).1),ax (.bool true)],ko [Jw w.heap.size (ze 1 (readAll (parts (tx a))).1),ax (.bool true)],Jw w.heap.size (ze 1 (readAll (parts (tx a))).1),ax (.bool true),Jw w.heap.size (ze 1 (readAll (parts (tx a))).1),ax (.bool true)]) (iw w _ V3) il [] kr rfl (qm.pick ⟨fo _,rq ⟨(Im _ _),(fo _),trivial⟩,rq ⟨(Im _ _),(fo _),trivial⟩,Im _ _,fo _,Im _ _,fo _,trivial⟩) (iw.begin (aa HO))
     (au (jh rfl aF)
     (au (sc2 func175 (aT 0) (fe _) (fun W v0 v1 hG h0 h1=>by cases h0;cases h1;exact aee (aa HS).1 g2 (xy hbase hG.2.size)))
     (au (jh rfl (aT 1))
     (au (xq (ts:=[Jw w.heap.size (ze 1 (readAll (parts (tx a))).1),ax (.bool true)]) rfl (aT 2) (sw rfl) rfl)
     (au (xq (ts:=[Jw w.heap.size (ze 1 (readAll (parts (tx a))).1),ax (.bool true)]) rfl (aT 2) (sw rfl) rfl)
     (au (zu rfl (aT 3))
     (au (zu rfl (aT 4))
     ai))))))) ?_
    intro v4 V4 hG4 hv4 ma;simp only[ay,Act.put,tA,exv (hv4 4 de),exv (hv4 6 de)];have hx8:=(show Jw w.heap.size (ze 1 (readAll (parts (tx a))).1) V4 (v4 5)from hv4 5 de)
    generalize v4 5=x8 at *;have Gs:=ae (show Cu V4 w.heap.size x8 (ze 1 (readAll (parts (tx a))).1)from hx8);clear hx8;replace HO:=ae hG4.1;clear hG4 hv4 ma
    cases c with
    | true =>
     go_upto_region 11 with fail;refine fw 4 [_,_,_,_] [] HO (dh aF (dh (aT 0) (ku (jh rfl aF) (au (qj rfl (aT 1) (aT 2)) ai)))) ?_
     intro v5 V5 mo hv5 hne5;simp only[ay,Act.put,tA,exv (hv5 3 de)];replace Gs:=ae ((aa Gs).below mo.2);replace HO:=ae mo.1;clear mo hv5 hne5;go_upto_region 12 with fail;refine fw 1 [_] [] HO (Ak (fe _) ai) ?_
     intro v6 V6 qb hv6 vw;simp only[ay,Act.put,tA,exv (hv6 0 de)];replace Gs:=ae ((aa Gs).below qb.2);replace HO:=ae qb.1;clear qb hv6 vw;have bes:=(aa HO).bel.size
     cases g3:(readAll (parts (tx b))).2 with
     | true =>
      go_upto_region 13 with fail;refine yc 7 56 (ui [ax (.string (tx b)),ko [Jw w.heap.size (ze (-1) (readAll (parts (tx b))).1),ax (.bool true)],ko [Jw w.heap.size (ze (-1) (readAll (parts (tx b))).1),ax (.bool true)],Jw w.heap.size (ze (-1) (readAll (parts (tx b))).1),ax (.bool true),Jw w.heap.size (ze (-1) (readAll (parts (tx b))).1),ax (.bool true)]) (iw w _ V6) il [] kr rfl (qm.pick ⟨fo _,rq ⟨(Im _ _),(fo _),trivial⟩,rq ⟨(Im _ _),(fo _),trivial⟩,Im _ _,fo _,Im _ _,fo _,trivial⟩) (iw.begin (aa HO))
       (au (jh rfl aF)
       (au (sc2 func175 (aT 0) (fe _) (fun W v0 v1 hG h0 h1=>by cases h0;cases h1;exact aee (aa HS).2 g3 (xy bes hG.2.size)))
       (au (jh rfl (aT 1))
       (au (xq (ts:=[Jw w.heap.size (ze (-1) (readAll (parts (tx b))).1),ax (.bool true)]) rfl (aT 2) (sw rfl) rfl)
       (au (xq (ts:=[Jw w.heap.size (ze (-1) (readAll (parts (tx b))).1),ax (.bool true)]) rfl (aT 2) (sw rfl) rfl)
       (au (zu rfl (aT 3))
       (au (zu rfl (aT 4))
       ai))))))) ?_
      intro v7 V7 vg hv7 zw;simp only[ay,Act.put,tA,exv (hv7 4 de),exv (hv7 6 de)];have bdy:=(show Jw w.heap.size (ze (-1) (readAll (parts (tx b))).1) V7 (v7 5)from hv7 5 de)
      generalize v7 5=x10 at *;have HF2:=ae (show Cu V7 w.heap.size x10 (ze (-1) (readAll (parts (tx b))).1)from bdy);clear bdy;replace Gs:=ae ((aa Gs).below vg.2);replace HO:=ae vg.1;clear vg hv7 zw;have HL2:=ae (And.intro (show((ze 1 (readAll (parts (tx a))).1)).length+(ze (-1) (readAll (parts (tx b))).1).length≤2000 by have:=aa Na;omega) (show(ze (-1) (readAll (parts (tx b))).1)≠[]from(aa HNE) g3));obtain⟨gm,cm,em,hcells⟩:=(aa HF2).some (aa HL2).2;obtain⟨i0,hi0,hz0,hz1,hz2⟩:=info_parts Xe;have hown:=aa Gs;have hbel:=(aa HO).bel;have hlen:=(aa HL2).1;simp only[em];clear Gs HF2 HO em
      go_wp2_with (first|(at_builtin;go_loud (refine wpList_append_own _ rfl _ _ 141 rfl w.heap.size 145 i0 (.agg #[.string ⟨#[]⟩,.int .i64 0]) 2 24 underlying141 hi0 hz0 hz1 hz2 rfl de _ _ _ rfl hown ⟨gm,0,none⟩ _ _ (facC (ze (-1) (readAll (parts (tx b))).1)) rfl (aqj _) hcells (aqi _) (by unfold maxLen;omega) om (by have:=hbel.size;omega) ?_;intro v' w1 hown1 hgrow1 _))|fail)
      go_ret2
      refine⟨hbel.grown hgrow1 hbel.size hown.ge,.inl ⟨_,_,by rw[aa Jo];unfold abw;rw[if_pos rfl,if_neg (Uv (aa aja)),if_pos ⟨g2,g3⟩],rfl,Cu.aib (base:=w.heap.size) ?_⟩⟩
      unfold Cu;rw[Xi,Bj];exact hown1
     | false =>
      go_upto_region 13 with fail;refine fw 7 [_,_,_,_,_,_,_] [] HO (dh aF (au (sc2 func175 (aT 0) (fe _) (fun W v0 v1 hG h0 h1=>by cases h0;cases h1;exact aef (aa HS).2 g3)) (dh (aT 1) (pq [ax (.slice none 0 0),ax (.bool false)] (aT 2) (pq _ (aT 2) (Ak (aT 3) (Ak (aT 4) ai))))))) ?_
      intro v7 V7 vg hv7 zw;simp only[ay,Act.put,tA,exv (hv7 3 de),exv (hv7 4 de),exv (hv7 5 de),exv (hv7 6 de)];replace Gs:=ae ((aa Gs).below vg.2);replace HO:=ae vg.1;clear vg hv7 zw;obtain⟨i0,hi0,hz0,hz1,hz2⟩:=info_parts Xe;have hown:=aa Gs;have hbel:=(aa HO).bel;clear Gs HO
      go_wp2_with (first|(at_builtin;go_loud (refine Yl rfl _ _ 141 rfl w.heap.size 145 i0 2 underlying141 hi0 _ _ _ rfl hown rfl ?_))|fail)
      go_ret2
      exact⟨hbel,.inr ⟨_,by rw[aa Jo];unfold abw;rw[if_pos rfl,if_neg (Uv (aa aja)),if_neg (fun h=>by rw[g3]at h;exact absurd h.2 de)],rfl⟩⟩
    | false =>
     go_upto_region 11 with fail;refine fw 4 [_,_,_,_] [] HO (dh aF (dh (aT 0) (ve (au (mh rfl (aT 1) (fe _)) ai)))) ?_
     intro v5 V5 mo hv5 hne5;simp only[ay,Act.put,tA,exv (hv5 3 de)];replace Gs:=ae ((aa Gs).below mo.2);replace HO:=ae mo.1;clear mo hv5 hne5;go_upto_region 15 with fail;refine fw 4 [_,_,_,_] [] HO (dh aF (dh aF (Ak (aT 0) (Ak (aT 1) ai)))) ?_
     intro v6 V6 qb hv6 vw;simp only[ay,Act.put,tA,show v6 0=x8 from hv6 0 de,exv (hv6 1 de),show v6 2=x8 from hv6 2 de,exv (hv6 3 de)];replace Gs:=ae ((aa Gs).below qb.2);replace HO:=ae qb.1;clear qb hv6 vw;have hbel:=(aa HO).bel;have hf:=(aa Gs).aib;clear HO Gs;go_wp2_with fail
     go_ret2
     exact⟨hbel,.inl ⟨_,_,by rw[aa Jo];unfold abw;rw[if_neg de,if_neg (Uv (aa aja)),if_pos g2],rfl,hf⟩⟩
   | false =>
    go_upto_region 10 with fail;refine fw 7 [_,_,_,_,_,_,_] [] HO (dh aF (au (sc2 func175 (aT 0) (fe _) (fun W v0 v1 hG h0 h1=>by cases h0;cases h1;exact aef (aa HS).1 g2)) (dh (aT 1) (pq [ax (.slice none 0 0),ax (.bool false)] (aT 2) (pq _ (aT 2) (Ak (aT 3) (Ak (aT 4) ai))))))) ?_
    intro v4 V4 hG4 hv4 ma;simp only[ay,Act.put,tA,exv (hv4 3 de),exv (hv4 4 de),exv (hv4 5 de),exv (hv4 6 de)];replace HO:=ae hG4.1;clear hG4 hv4 ma
    cases c with
    | true =>
     go_upto_region 11 with fail;refine fw 4 [_,_,_,_] [] HO (dh aF (dh (aT 0) (ku (jh rfl aF) (au (qj rfl (aT 1) (aT 2)) ai)))) ?_
     intro v5 V5 mo hv5 hne5;simp only[ay,Act.put,tA,exv (hv5 3 de)];replace HO:=ae mo.1;clear mo hv5 hne5;go_upto_region 15 with fail;refine fw 4 [_,_,_,_] [] HO (dh aF (dh aF (Ak (aT 0) (Ak (aT 1) ai)))) ?_
     intro v6 V6 qb hv6 vw;simp only[ay,Act.put,tA,exv (hv6 0 de),exv (hv6 1 de),exv (hv6 2 de),exv (hv6 3 de)];replace HO:=ae qb.1;clear qb hv6 vw;have hbel:=(aa HO).bel;clear HO;go_wp2_with fail
     go_ret2
     exact⟨hbel,.inr ⟨_,by rw[aa Jo];unfold abw;rw[if_pos rfl,if_neg (Uv (aa aja)),if_neg (fun h=>by rw[g2]at h;exact absurd h.1 de)],rfl⟩⟩
    | false =>
     go_upto_region 11 with fail;refine fw 4 [_,_,_,_] [] HO (dh aF (dh (aT 0) (ve (au (mh rfl (aT 1) (fe _)) ai)))) ?_
     intro v5 V5 mo hv5 hne5;simp only[ay,Act.put,tA,exv (hv5 3 de)];replace HO:=ae mo.1;clear mo hv5 hne5;go_upto_region 15 with fail;refine fw 4 [_,_,_,_] [] HO (dh aF (dh aF (Ak (aT 0) (Ak (aT 1) ai)))) ?_
     intro v6 V6 qb hv6 vw;simp only[ay,Act.put,tA,exv (hv6 0 de),exv (hv6 1 de),exv (hv6 2 de),exv (hv6 3 de)];replace HO:=ae qb.1;clear qb hv6 vw;have hbel:=(aa HO).bel;clear HO;go_wp2_with fail
     go_ret2
     exact⟨hbel,.inr ⟨_,by rw[aa Jo];unfold abw;rw[if_neg de,if_neg (Uv (aa aja)),if_neg (by rw[g2];decide)],rfl⟩⟩
theorem bey (l:List UInt8) (hz:l.length≤600) (w:Wq):Calls prog 124 #[.string (tx l)] w (avq (Pz (tx l)) w):=by
 have hnn : ∀ b:List UInt8,(readAll (parts (tx b))).2=true→ze (-1) (readAll (parts (tx b))).1≠[]:=fun b h e=>by
  have h1:=afi h;have h2:=Ez List.length e;unfold ze at h2;rw[Rm,h1,ayb,Rm]at h2;exact abj b (ari h2)
 by_cases hc:(47:UInt8)∈l
 ·
  have hlen:=Ez List.length (Um hc).1;rw[Bj,Db]at hlen;have hza:(tx (Au 47 l)).size≤600:=by rw[xw];omega
  have hzb:(tx (xu 47 l)).size≤600:=by rw[xw];omega
  refine ayw (a:=Au 47 l) (b:=xu 47 l) (c:=true) w hz ⟨hza,hzb⟩ ⟨fun _=>⟨rfl,rfl,rfl⟩,fun h=>absurd hc h⟩ ?_ ⟨Tg 1 _ hza,Tg (-1) _ hzb⟩ (hnn _)
  unfold Pz abw;rw[Ac,if_pos hc,if_pos rfl]
 ·
  have hzl:(tx l).size≤600:=by rw[xw];exact hz
  refine ayw (a:=l) (b:=[]) (c:=false) w hz ⟨hzl,by decide⟩ ⟨fun h=>absurd h hc,fun _=>⟨rfl,rfl,rfl⟩⟩ ?_ ⟨Tg 1 _ hzl,Tg (-1) _ de⟩ (hnn _)
  unfold Pz abw;rw[Ac,if_neg hc];exact(if_neg (show ¬ (false=true)by decide)).symm
end Sb


namespace Sb
def AnyX:Wq→Vq→Prop:=fun W v => ∃ ua ub uc ud,bz [.v ua,.v ub,.v uc,.v ud] W v
theorem akn:yu il AnyX:=fun w w' v hb ⟨a,b,c,d,h⟩=>⟨a,b,c,d,Ae _ _ _ _ hb h⟩
def ams:Wq→Vq→Prop:=fun _ _=>True
theorem adl:yu il ams:=fun _ _ _ _ _=>trivial
def ado (m:Bool) (o:Option Rat):Option Rat:=o.bind fun q=>if m=true∧q=0 then none else some (if m=true then -q else q)
def Qt (l:List UInt8):Option Rat:=if l.head? = some 45 then ado true (ou l.tail)else ado false (ou l)
def RdT:Option Rat→Wq→Vq→Prop
 | some x=>ko [bz [.r x],ax (.bool true)]
 | none=>ko [AnyX,ax (.bool false)]
theorem cgn (x:Rat):(jf x).e=0∨(jf x).e=3:=by
 unfold jf
 split
 ·
  exact .inl rfl
 ·
  exact .inr rfl
theorem akk (m:Bool) (o:Option Rat):Ir m o=match ado m o with|some x=>jf x|none=>⟨0,0,2⟩:=by
 cases o with
 | none=>rfl
 | some q =>
  show(if m=true∧q=0 then(⟨0,0,2⟩:Uq)else jf (if m=true then -q else q))=match (if m=true∧q=0 then none else some (if m=true then -q else q))with|some x=>jf x|none=>⟨0,0,2⟩
  by_cases h:m=true∧q=0
  ·
   rw[if_pos h,if_pos h]
  ·
   rw[if_neg h,if_neg h]
theorem atv (l:List UInt8):uh l=match Qt l with|some x=>jf x|none=>⟨0,0,2⟩:=by
 rw[amc]
 unfold Qt
 split
 ·
  exact akk true _
 ·
  exact akk false _
theorem bmd {l:List UInt8} (h:ou l=some q) : ∃ n d:Nat,q=Rat.divInt (n:Int) (d:Int)∧0<d∧n<10^40∧d<10^40:=by
 have hv : ∀ {a:List UInt8} {k:Nat},a.all mf=true→a.length≤k→k≤40→ll a<10^40:=fun {a k} h1 h2 h3=>zh (Lf a h1) (Ho om om)
 have hd : ∀ {a:List UInt8} {m:Int},Cg a m=true→m≤20→a.all mf=true∧a.length≤20:=fun {a m} h1 h2=>by
  have h3:=uj.1 h1;exact⟨h3.2.2,by have:=h3.2.1;omega⟩
 unfold ou at h
 split at h
 ·
  rename_i a b e
  split at h
  ·
   rename_i hc
   cases h
   rw[Bz,Bz,agq,oo]at hc;obtain⟨ha1,ha2⟩:=hd (yo.1 hc.1.1).1 om;obtain⟨hb1,hb2⟩:=hd (yo.1 hc.1.2).1 om;exact⟨_,_,rfl,acw hc.1.2 hc.2,hv ha1 ha2 om,hv hb1 hb2 om⟩
  ·
   cases h
 ·
  split at h
  ·
   rename_i a b e
   split at h
   ·
    rename_i hc
    cases h
    rw[Bz]at hc;obtain⟨ha1,ha2⟩:=hd (yo.1 hc.1).1 om;obtain⟨hb1,hb2⟩:=hd hc.2 om;exact⟨_,_,rfl,wz om,hv (bjt ha1 hb1) (by rw[Bj];omega:_≤40) om,Nat.pow_lt_pow_right om om⟩
   ·
    cases h
  ·
   split at h
   ·
    rename_i hc
    cases h
    obtain⟨ha1,ha2⟩:=hd (yo.1 hc).1 om;exact⟨_,1,rfl,by omega,hv ha1 ha2 om,Nat.one_lt_pow om om⟩
   ·
    cases h
theorem atd (h:n<10^40):je dz 6 (n:Int):=Iz h (by rw[fu];decide)
theorem ahi {l:List UInt8} (h:ou l=some q):Ad 6 q∧0≤q:=by
 obtain⟨n,d,rfl,hd,hn,hdd⟩:=bmd h
 refine⟨⟨ahb (by omega) (atd hn) (atd hdd),by omega⟩,?_⟩
 exact Rat.divInt_nonneg om om
theorem brc {l:List UInt8} {x:Rat} (h:Qt l=some x):Ad 6 x:=by
 have key : ∀ (m:Bool) (k:List UInt8),ado m (ou k)=some x→Ad 6 x:=fun m k hk=>by
  cases e:ou k with
  | none=>rw[e]at hk;cases hk
  | some q =>
   rw[e]at hk;have hk:(if m=true∧q=0 then none else some (if m=true then -q else q))=some x:=hk
   split at hk
   ·
    cases hk
   ·
    cases hk
    split
    ·
     exact(ahi e).1.neg
    ·
     exact(ahi e).1
 unfold Qt at h
 split at h
 ·
  exact key _ _ h
 ·
  exact key _ _ h
theorem bya (l:List UInt8):Lib.hasPrefix l [45]=decide (l.head? = some 45):=by
 cases l with
 | nil=>rfl
 | cons c l =>
  by_cases h:c=45
  ·
   subst h;have e:decide (((45:UInt8)::l).head? = some 45)=true:=dm rfl;rw[e];simp[Lib.hasPrefix]
  ·
   have e:decide ((c::l).head? = some 45)=false:=dw fun k=>h (Az k)
   rw[e,show Lib.hasPrefix (c::l) [45]=((45==c)&&List.isPrefixOf [] l)from rfl,oo.2 (Kq h)];rfl
theorem brt (l:List UInt8):ahj (tx l)=match Qt l with|some x=>decide (0<x.num)|none=>false:=by
 unfold ahj
 rw[Ac,atv]
 cases e:Qt l with
 | none=>rfl
 | some x =>
  show(if (jf x).e=0 then decide ((jf x).n>0)else if (jf x).e=3 then !Lib.hasPrefix l [45]else false)=decide (0<x.num)
  by_cases hf:uw x
  ·
   have ht:jf x=⟨x.num,x.den,0⟩:=if_pos hf;rw[ht];exact if_pos rfl
  ·
   have ht:jf x=⟨0,0,3⟩:=if_neg hf;rw[ht,if_neg de,if_pos rfl,bya];have h0:x≠0:=fun h=>hf (by rw[h];exact(by decide:uw 0))
   have hn0:x.num≠0:=fun h=>h0 (Rat.num_eq_zero.1 h)
   unfold Qt at e
   by_cases hh:l.head? = some 45
   ·
    rw[if_pos hh]at e;rw[dm hh]
    cases ep:ou l.tail with
    | none=>rw[ep]at e;cases e
    | some q =>
     rw[ep]at e;have hk:(if true=true∧q=0 then none else some (if true=true then -q else q))=some x:=e
     split at hk
     ·
      cases hk
     ·
      cases hk
      have h1:=(ahi ep).2;have h2:=ajl.2 h1;exact(dw (by show ¬ 0<(-q).num;rw[ajm];omega)).symm
   ·
    rw[if_neg hh]at e;rw[dw hh]
    cases ep:ou l with
    | none=>rw[ep]at e;cases e
    | some q =>
     rw[ep]at e;have hk:(if false=true∧q=0 then none else some (if false=true then -q else q))=some x:=e;rw[if_neg mi]at hk
     cases hk
     have h1:=(ahi ep).2;have h2:=ajl.2 h1;exact(dm (by show 0<q.num;have:q.num≠0:=hn0;omega)).symm
theorem Ad.bdi {K L:Nat} {x y:Rat} (hx:Ad K x) (hy:Ad L y) (h:K+L≤1000000):Ad (K+L) (x*y):=⟨aor (B:=dz) hx.1 hy.1,h⟩
theorem aky {x:Rat} (h:Af s=some (f,x)):Li f∧Ad 4 x∧0<x:=by
 have h1:=ahm h
 refine⟨h1.1,?_,h1.2.2⟩
 unfold Af at h
 cases e1:zy s Ai with
 | some e =>
  rw[e1]at h
  cases h
  exact(afe (Ti e1).1).mono om om
 | none =>
  rw[e1]at h
  cases e2:s.data.toList with
  | nil=>rw[e2]at h;cases h
  | cons b ls =>
   rw[e2]at h;have h:Qv b ls=some (f,x):=h;unfold Qv at h;obtain⟨p,q,o,e3⟩ : ∃ p q o,Eg b.toNat=(p,q,o):=⟨_,_,_,rfl⟩
   rw[e3]at h
   by_cases g:o=true∧Ld ⟨ls.toArray⟩=false
   ·
    obtain⟨rfl,e5⟩:=g;rw[if_pos ⟨rfl,e5⟩]at h
    cases e4:zy ⟨ls.toArray⟩ Ai with
    | none=>rw[e4]at h;cases h
    | some e =>
     rw[e4]at h
     cases h
     exact Ad.bdi (afe (apk e3).1) (afe (Ti e4).1) om
   ·
    rw[if_neg g]at h;cases h
theorem blz {l:List UInt8} {o:Option ((Nat→Int)×Rat)} {t:Xy} (w:Wq) (hf : ∀ W,Calls prog 122 #[.string (tx l)] W (gp (bop o) W)) (ht:(o=none→t=⟨z7,0,0,4⟩)∧(∀ f x,o=some (f,x)→t=xk f x∧0<x)) :
  Calls prog 51 #[.string (tx l)] w (gp (Kg t) w):=by
 have HF:=ae hf
 have HT:=ae ht
 clear hf ht
 go_enter func51,ntmps51
 go_upto_region 1 with fail
 have hO:=(Own.push (T:=44) (ls:=zU) (Own.nil w) (gy.vs w [.int .i64 0,.int .i64 0,.int .i64 0,.int .i64 0,.int .i64 0,.int .i64 0,.int .i64 0,.int .i64 0,.int .i64 0] rfl) (w.heap.size) rfl)
 generalize w.alloc (.cells #[.int .i64 0,.int .i64 0,.int .i64 0,.int .i64 0,.int .i64 0,.int .i64 0,.int .i64 0,.int .i64 0,.int .i64 0] 44)=W0 at *
 have HO:=ae hO
 clear hO
 cases o with
 | none =>
  have ho:t=⟨z7,0,0,4⟩:=(aa HT).1 rfl;subst ho;clear HT;go_upto_region 1 with fail;refine fw 6 [_,_,_,_,_,_] [5] HO (dh aF (au (sc1 func122 (aT 0) (fun W v0 hG h0=>by cases h0;exact(aa HF) W)) (dh (aT 1) (pq [bz zV,ax (.bool false)] (aT 2) (pq _ (aT 2) (Am Xu ai)))))) ?_
  intro v1 V1 hG1 hv1 hne1;obtain⟨aqn,e5,zo,Cy⟩:=(show qw 113 zV W0.heap.size V1 (v1 5)from hv1 5 de)
  simp only[ay,Act.put,tA,exv (hv1 4 de),e5];have hO:=hG1.1;replace hO:=Own.add (aa HO) hG1.2 zo Cy;clear zo Cy;refine kg hO 0 Aw (hv1 3 de) ?_
  clear hO;intro Ep hO hk0;replace HO:=ae hO;clear hO hG1 hv1 hne1 hk0;try clear e5;go_upto_region 2 with fail;refine fw 2 [_,_] [] HO (dh aF (au (tq rfl (aT 0) rfl rfl) ai)) ?_
  intro v2 V2 hG2 hv2 hne2;simp only[ay,Act.put,tA,exv (hv2 1 de)];replace HO:=ae hG2.1;clear hG2 hv2 hne2;go_upto_region 3 with fail;refine fw 1 [_] [] HO (au (Pv rfl rfl) ai) ?_
  intro v3 V3 hG3 hv3 ji;simp only[ay,Act.put,tA];have hO:=hG3.1;refine kg hO 1 vv (hv3 0 de) ?_
  clear hO;intro Gc hO hk0;replace HO:=ae hO;clear hO hG3 hv3 ji hk0;go_wp2_with fail;exact vo results51 Bq rfl rfl (aa HO) uq rfl rfl
 | some e =>
  obtain⟨f,x⟩:=e;obtain⟨ho,hx⟩:=(aa HT).2 f x rfl;subst ho;have HX:=ae hx;clear HT hx;go_upto_region 1 with fail;refine fw 6 [_,_,_,_,_,_] [5] HO (dh aF (au (sc1 func122 (aT 0) (fun W v0 hG h0=>by cases h0;exact(aa HF) W)) (dh (aT 1) (pq [bz [.k (eK f),.r x],ax (.bool true)] (aT 2) (pq _ (aT 2) (Am Xu ai)))))) ?_
  intro v1 V1 hG1 hv1 hne1;obtain⟨aqn,e5,zo,Cy⟩:=(show qw 113 zV W0.heap.size V1 (v1 5)from hv1 5 de)
  simp only[ay,Act.put,tA,exv (hv1 4 de),e5];have hO:=hG1.1;replace hO:=Own.add (aa HO) hG1.2 zo Cy;clear zo Cy;refine kg hO 0 Aw (hv1 3 de) ?_
  clear hO;intro Ep hO hk0;replace HO:=ae hO;clear hO hG1 hv1 hne1 hk0;try clear e5;go_upto_region 2 with fail;refine fw 2 [_,_] [] HO (dh aF (au (tq rfl (aT 0) rfl rfl) ai)) ?_
  intro v2 V2 hG2 hv2 hne2;simp only[ay,Act.put,tA,exv (hv2 1 de)];replace HO:=ae hG2.1;clear hG2 hv2 hne2;go_upto_region 4 with fail;refine fw 4 [_,_,_,_] [] HO (xh Zb me0 aF (au (sc1 func102 (aT 0) (fun W v0 hG h0=>btm (aa HX) W _ h0)) (pq [bz [.k (eK (xk f x).f),iv (xk f x).n,iv (xk f x).d],ax (.int .i64 (xk f x).e)] (aT 1) (pq _ (aT 1) ai)))) ?_
  intro v3 V3 hG3 hv3 ji;simp only[ay,Act.put,tA,show v3 3 = .int .i64 (xk f x).e from hv3 3 de];have hO:=hG3.1;refine kg hO 1 vv (hv3 2 de) ?_
  clear hO;intro Gc hO hk0;replace HO:=ae hO;clear hO hG3 hv3 ji hk0;go_wp2_with fail;exact vo results51 Bq rfl rfl (aa HO) uq rfl rfl
theorem bqy (s:ByteArray) (w:Wq):Calls prog 51 #[.string s] w (gp (Kg (aha s)) w):=by
 have hs:tx s.data.toList=s:=Fz s
 have h:=blz (l:=s.data.toList) (o:=Af s) (t:=aha s) w (fun W=>by have:=alo s.data.toList W;rwa[hs]at this) ⟨fun h=>by unfold aha;rw[h],fun f x h=>⟨by unfold aha;rw[h],(ahm h).2.2⟩⟩
 rwa[hs]at h
end Sb

end Go.Proofs.YtfgeaakhlcaibaaGreatDoor
