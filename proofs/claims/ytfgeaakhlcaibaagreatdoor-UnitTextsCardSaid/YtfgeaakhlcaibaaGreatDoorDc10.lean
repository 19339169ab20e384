/- Texts beneath a law of layer 1. -/
import Derived.Test.YtfgeaakhlcaibaaGreatDoorDc9
import Derived.Deep.QuietTactic
import Derived.BigQuiet
set_option maxRecDepth 100000
set_option maxHeartbeats 16000000
namespace Go.Proofs.YtfgeaakhlcaibaaGreatDoor
open Go.RowKit
open Go.Proofs.Tryz
open Go renaming World → Wq
open Go renaming Value → Vq
variable {x x0 x1 x2 x3 x4 x5 x6 x7 x8 x9 x10 x11 x12 x13 x14 x15 x16 x17:Operand} {b off off' B k n m K i L:Nat} {s r:ByteArray} {w W w' W':Wq} {p q sg v:Int} {c:UInt8} {f u:Nat→Int} {ls a:List UInt8} {fs:List (ByteArray×Int)} {ty:TypeId} {pos:String} {af:Array Edge} {A ao:Option Addr} {y:Rat} {gd:Option (Nat×Bool)} {ρ:Operand→Vq} {e:ByteArray×(Nat→Int)×Int×Int} {Q:Exit→Act→Wq→Prop}

namespace Sb
variable {Q:Exit→Act→Wq→Prop} {l:List Oper} {n:Nat} {T:Nat→Wq→Vq→Prop} {G:Wq→Prop} {al:List Nat} {a0:Act} {k d:Nat} {ty:TypeId} {pos:String} {af:Array Edge} {gd:Option (Nat×Bool)}
theorem Qf:avr prog 113 [.int .i64 0,.int .i64 0,.int .i64 0,.int .i64 0,.int .i64 0,.int .i64 0,.int .i64 0,.slice none 0 0,.bool false,.slice none 0 0,.bool false]:=by
 intro ρ w d ty pos af gd
 simp only[execOp]
 simp[go_sem]
 try rfl
theorem chx:Ie prog 222 7:=by
 intro ρ w d x b off us ty pos af gd hl hc hx
 match us,hl with
 | [u0,u1,u2,u3,u4,u5,u6],_ =>
 have k0:w.cell? ⟨b,off,none⟩=some u0:=hc 0 om
 have k1:w.cell? ⟨b,off+1,none⟩=some u1:=hc 1 om
 have k2:w.cell? ⟨b,off+2,none⟩=some u2:=hc 2 om
 have k3:w.cell? ⟨b,off+3,none⟩=some u3:=hc 3 om
 have k4:w.cell? ⟨b,off+4,none⟩=some u4:=hc 4 om
 have k5:w.cell? ⟨b,off+5,none⟩=some u5:=hc 5 om
 have k6:w.cell? ⟨b,off+6,none⟩=some u6:=hc 6 om
 clear hc
 simp only[execOp,hx]
 simp[go_sem,k0,k1,k2,k3,k4,k5,k6]
theorem ccs:Cw prog 222 7:=by
 intro ρ w d p x b off cs TB us ty pos af gd hl hu hb ho hp hx
 match us,hl with
 | [u0,u1,u2,u3,u4,u5,u6],_ =>
 have o0:=hu u0 mi
 have o1:=hu u1 mi
 have o2:=hu u2 mi
 have o3:=hu u3 mi
 have o4:=hu u4 mi
 have o5:=hu u5 mi
 have o6:=hu u6 mi
 have f0:w.frozen? ⟨b,off,none⟩=false:=ah hb _
 have f1:w.frozen? ⟨b,off+1,none⟩=false:=ah hb _
 have f2:w.frozen? ⟨b,off+2,none⟩=false:=ah hb _
 have f3:w.frozen? ⟨b,off+3,none⟩=false:=ah hb _
 have f4:w.frozen? ⟨b,off+4,none⟩=false:=ah hb _
 have f5:w.frozen? ⟨b,off+5,none⟩=false:=ah hb _
 have f6:w.frozen? ⟨b,off+6,none⟩=false:=ah hb _
 obtain⟨c0,k0⟩ : ∃ c,w.cell? ⟨b,off,none⟩=some c:=jl hb om
 obtain⟨c1,k1⟩ : ∃ c,w.cell? ⟨b,off+1,none⟩=some c:=jl hb om
 obtain⟨c2,k2⟩ : ∃ c,w.cell? ⟨b,off+2,none⟩=some c:=jl hb om
 obtain⟨c3,k3⟩ : ∃ c,w.cell? ⟨b,off+3,none⟩=some c:=jl hb om
 obtain⟨c4,k4⟩ : ∃ c,w.cell? ⟨b,off+4,none⟩=some c:=jl hb om
 obtain⟨c5,k5⟩ : ∃ c,w.cell? ⟨b,off+5,none⟩=some c:=jl hb om
 obtain⟨c6,k6⟩ : ∃ c,w.cell? ⟨b,off+6,none⟩=some c:=jl hb om
 have hlt:=lt_of_block hb
 clear hb ho hu
 simp only[execOp,hp,hx,setM]
 simp[go_sem,hlt,run_store _ _ _ _ _ o0,o0,run_store _ _ _ _ _ o1,o1,run_store _ _ _ _ _ o2,o2,run_store _ _ _ _ _ o3,o3,run_store _ _ _ _ _ o4,o4,run_store _ _ _ _ _ o5,o5,run_store _ _ _ _ _ o6,o6,k0,k1,k2,k3,k4,k5,k6,f0,f1,f2,f3,f4,f5,f6]
theorem cne:Np prog 222 [.string ⟨#[]⟩,.int .i64 0,.int .i64 0,.int .i64 0,.int .i64 0,.int .i64 0,.int .i64 0]:=by
 intro ρ w d ty pos af gd
 simp only[execOp]
 simp[go_sem]
theorem cfn:Ee prog (fun x => .fieldAddr 222 x 0) 0:=by
 intro a w d x b off ty pos af gd hx
 have hc : ∀ v,a.eval (.const v)=v:=fun _=>rfl
 simp only[execOp,hx,hc]
 simp[go_sem]
theorem axq (hal:al.contains k=false) (hx:cu l n T a0 k x (ax (.pointer (some ⟨b,off,none⟩)))) (ho:off+0=off') (hT:T k=ax (.pointer (some ⟨b,off',none⟩))) :
  ib prog Q l n T G il al a0 k { dst:=some d,op := .fieldAddr 222 x 0,type:=ty,pos:=pos,after:=af,guard:=gd}:=by
 exact Em (P:=prog) (o:=fun x => .fieldAddr 222 x 0) cfn hal hx ho hT
theorem cfm:Ee prog (fun x => .fieldAddr 222 x 1) 1:=by
 intro a w d x b off ty pos af gd hx
 have hc : ∀ v,a.eval (.const v)=v:=fun _=>rfl
 simp only[execOp,hx,hc]
 simp[go_sem]
theorem bqm (hal:al.contains k=false) (hx:cu l n T a0 k x (ax (.pointer (some ⟨b,off,none⟩)))) (ho:off+1=off') (hT:T k=ax (.pointer (some ⟨b,off',none⟩))) :
  ib prog Q l n T G il al a0 k { dst:=some d,op := .fieldAddr 222 x 1,type:=ty,pos:=pos,after:=af,guard:=gd}:=by
 exact Em (P:=prog) (o:=fun x => .fieldAddr 222 x 1) cfm hal hx ho hT
theorem cfl:Ee prog (fun x => .fieldAddr 222 x 2) 2:=by
 intro a w d x b off ty pos af gd hx
 have hc : ∀ v,a.eval (.const v)=v:=fun _=>rfl
 simp only[execOp,hx,hc]
 simp[go_sem]
theorem bql (hal:al.contains k=false) (hx:cu l n T a0 k x (ax (.pointer (some ⟨b,off,none⟩)))) (ho:off+2=off') (hT:T k=ax (.pointer (some ⟨b,off',none⟩))) :
  ib prog Q l n T G il al a0 k { dst:=some d,op := .fieldAddr 222 x 2,type:=ty,pos:=pos,after:=af,guard:=gd}:=by
 exact Em (P:=prog) (o:=fun x => .fieldAddr 222 x 2) cfl hal hx ho hT
theorem cfk:Ee prog (fun x => .fieldAddr 222 x 3) 3:=by
 intro a w d x b off ty pos af gd hx
 have hc : ∀ v,a.eval (.const v)=v:=fun _=>rfl
 simp only[execOp,hx,hc]
 simp[go_sem]
theorem bqk (hal:al.contains k=false) (hx:cu l n T a0 k x (ax (.pointer (some ⟨b,off,none⟩)))) (ho:off+3=off') (hT:T k=ax (.pointer (some ⟨b,off',none⟩))) :
  ib prog Q l n T G il al a0 k { dst:=some d,op := .fieldAddr 222 x 3,type:=ty,pos:=pos,after:=af,guard:=gd}:=by
 exact Em (P:=prog) (o:=fun x => .fieldAddr 222 x 3) cfk hal hx ho hT
theorem cfj:Ee prog (fun x => .fieldAddr 222 x 4) 4:=by
 intro a w d x b off ty pos af gd hx
 have hc : ∀ v,a.eval (.const v)=v:=fun _=>rfl
 simp only[execOp,hx,hc]
 simp[go_sem]
theorem bqj (hal:al.contains k=false) (hx:cu l n T a0 k x (ax (.pointer (some ⟨b,off,none⟩)))) (ho:off+4=off') (hT:T k=ax (.pointer (some ⟨b,off',none⟩))) :
  ib prog Q l n T G il al a0 k { dst:=some d,op := .fieldAddr 222 x 4,type:=ty,pos:=pos,after:=af,guard:=gd}:=by
 exact Em (P:=prog) (o:=fun x => .fieldAddr 222 x 4) cfj hal hx ho hT
theorem cfi:Ee prog (fun x => .fieldAddr 222 x 5) 5:=by
 intro a w d x b off ty pos af gd hx
 have hc : ∀ v,a.eval (.const v)=v:=fun _=>rfl
 simp only[execOp,hx,hc]
 simp[go_sem]
theorem bqi (hal:al.contains k=false) (hx:cu l n T a0 k x (ax (.pointer (some ⟨b,off,none⟩)))) (ho:off+5=off') (hT:T k=ax (.pointer (some ⟨b,off',none⟩))) :
  ib prog Q l n T G il al a0 k { dst:=some d,op := .fieldAddr 222 x 5,type:=ty,pos:=pos,after:=af,guard:=gd}:=by
 exact Em (P:=prog) (o:=fun x => .fieldAddr 222 x 5) cfi hal hx ho hT
theorem cfh:Ee prog (fun x => .fieldAddr 222 x 6) 6:=by
 intro a w d x b off ty pos af gd hx
 have hc : ∀ v,a.eval (.const v)=v:=fun _=>rfl
 simp only[execOp,hx,hc]
 simp[go_sem]
theorem bqh (hal:al.contains k=false) (hx:cu l n T a0 k x (ax (.pointer (some ⟨b,off,none⟩)))) (ho:off+6=off') (hT:T k=ax (.pointer (some ⟨b,off',none⟩))) :
  ib prog Q l n T G il al a0 k { dst:=some d,op := .fieldAddr 222 x 6,type:=ty,pos:=pos,after:=af,guard:=gd}:=by
 exact Em (P:=prog) (o:=fun x => .fieldAddr 222 x 6) cfh hal hx ho hT
abbrev zT:List lg:=[.v (.string ⟨#[]⟩),iv 0,iv 0,iv 0,iv 0,iv 0,iv 0]
theorem Jz {y1 y2 y3 y4 y5 y6:Int} (hal:al.contains k=false) (hT:T k=ax (.agg #[.string s,.int .i64 y1,.int .i64 y2,.int .i64 y3,.int .i64 y4,.int .i64 y5,.int .i64 y6])) :
  ib prog Q l n T G il al a0 k { dst:=some d,op := .build 222 #[(0,.const (.string s)),(1,.const (.int .i64 y1)),(2,.const (.int .i64 y2)),(3,.const (.int .i64 y3)),(4,.const (.int .i64 y4)),(5,.const (.int .i64 y5)),(6,.const (.int .i64 y6))],type:=ty,pos:=pos,after:=af,guard:=gd}:=by
 intro a w hG hO hN
 have hr:(execOp a.eval { dst:=some d,op := .build 222 #[(0,.const (.string s)),(1,.const (.int .i64 y1)),(2,.const (.int .i64 y2)),(3,.const (.int .i64 y3)),(4,.const (.int .i64 y4)),(5,.const (.int .i64 y5)),(6,.const (.int .i64 y6))],type:=ty,pos:=pos,after:=af,guard:=gd}).run prog w = .ok (.value (.agg #[.string s,.int .i64 y1,.int .i64 y2,.int .i64 y3,.int .i64 y4,.int .i64 y5,.int .i64 y6])) w:=by
  have hc : ∀ v,a.eval (.const v)=v:=fun _=>rfl
  simp only[execOp,hc];simp[go_sem,hc]
  try rfl
 exact wvz hr hG hal (by rw[hT];rfl)
def api (e:ByteArray×(Nat→Int)×Int×Int):List Vq:=[.string e.1,.int .i64 (e.2.1 0),.int .i64 (e.2.1 1),.int .i64 (e.2.1 2),.int .i64 (e.2.1 3),.int .i64 e.2.2.1,.int .i64 e.2.2.2]
def bzx:List Vq:=((Ai.drop 7).map api).flatten
def ank:List Vq:=[.string ⟨#[103]⟩,.int .i64 0,.int .i64 1,.int .i64 0,.int .i64 0,.int .i64 1,.int .i64 1000,.string ⟨#[72,122]⟩,.int .i64 0,.int .i64 0,.int .i64 (-1),.int .i64 0,.int .i64 1,.int .i64 1,.string ⟨#[78]⟩,.int .i64 1,.int .i64 1,.int .i64 (-2),.int .i64 0,.int .i64 1,.int .i64 1,.string ⟨#[80,97]⟩,.int .i64 (-1),.int .i64 1,.int .i64 (-2),.int .i64 0,.int .i64 1,.int .i64 1,.string ⟨#[74]⟩,.int .i64 2,.int .i64 1,.int .i64 (-2),.int .i64 0,.int .i64 1,.int .i64 1,.string ⟨#[87]⟩,.int .i64 2,.int .i64 1,.int .i64 (-3),.int .i64 0,.int .i64 1,.int .i64 1,.string ⟨#[67]⟩,.int .i64 0,.int .i64 0,.int .i64 1,.int .i64 1,.int .i64 1,.int .i64 1,.string ⟨#[86]⟩,.int .i64 2,.int .i64 1,.int .i64 (-3),.int .i64 (-1),.int .i64 1,.int .i64 1,.string ⟨#[79,104,109]⟩,.int .i64 2,.int .i64 1,.int .i64 (-3),.int .i64 (-2),.int .i64 1,.int .i64 1,.string ⟨#[83]⟩,.int .i64 (-2),.int .i64 (-1),.int .i64 3,.int .i64 2,.int .i64 1,.int .i64 1,.string ⟨#[70]⟩,.int .i64 (-2),.int .i64 (-1),.int .i64 4,.int .i64 2,.int .i64 1,.int .i64 1,.string ⟨#[87,98]⟩,.int .i64 2,.int .i64 1,.int .i64 (-2),.int .i64 (-1),.int .i64 1,.int .i64 1,.string ⟨#[72]⟩,.int .i64 2,.int .i64 1,.int .i64 (-2),.int .i64 (-2),.int .i64 1,.int .i64 1,.string ⟨#[109,105,110]⟩,.int .i64 0,.int .i64 0,.int .i64 1,.int .i64 0,.int .i64 60,.int .i64 1,.string ⟨#[104]⟩,.int .i64 0,.int .i64 0,.int .i64 1,.int .i64 0,.int .i64 3600,.int .i64 1,.string ⟨#[76]⟩,.int .i64 3,.int .i64 0,.int .i64 0,.int .i64 0,.int .i64 1,.int .i64 1000,.string ⟨#[98,97,114]⟩,.int .i64 (-1),.int .i64 1,.int .i64 (-2),.int .i64 0,.int .i64 100000,.int .i64 1,.string ⟨#[114,97,100]⟩,.int .i64 0,.int .i64 0,.int .i64 0,.int .i64 0,.int .i64 1,.int .i64 1]
theorem cdp:ank=bzx:=by kernel_rfl
theorem bvk {d:Option Tmp} (h0:ρ x0 = .agg #[.string ⟨#[103]⟩,.int .i64 0,.int .i64 1,.int .i64 0,.int .i64 0,.int .i64 1,.int .i64 1000]) (h1:ρ x1 = .agg #[.string ⟨#[72,122]⟩,.int .i64 0,.int .i64 0,.int .i64 (-1),.int .i64 0,.int .i64 1,.int .i64 1]) (h2:ρ x2 = .agg #[.string ⟨#[78]⟩,.int .i64 1,.int .i64 1,.int .i64 (-2),.int .i64 0,.int .i64 1,.int .i64 1]) (h3:ρ x3 = .agg #[.string ⟨#[80,97]⟩,.int .i64 (-1),.int .i64 1,.int .i64 (-2),.int .i64 0,.int .i64 1,.int .i64 1]) (h4:ρ x4 = .agg #[.string ⟨#[74]⟩,.int .i64 2,.int .i64 1,.int .i64 (-2),.int .i64 0,.int .i64 1,.int .i64 1]) (h5:ρ x5 = .agg #[.string ⟨#[87]⟩,.int .i64 2,.int .i64 1,.int .i64 (-3),.int .i64 0,.int .i64 1,.int .i64 1]) (h6:ρ x6 = .agg #[.string ⟨#[67]⟩,.int .i64 0,.int .i64 0,.int .i64 1,.int .i64 1,.int .i64 1,.int .i64 1]) (h7:ρ x7 = .agg #[.string ⟨#[86]⟩,.int .i64 2,.int .i64 1,.int .i64 (-3),.int .i64 (-1),.int .i64 1,.int .i64 1]) (h8:ρ x8 = .agg #[.string ⟨#[79,104,109]⟩,.int .i64 2,.int .i64 1,.int .i64 (-3),.int .i64 (-2),.int .i64 1,.int .i64 1]) (h9:ρ x9 = .agg #[.string ⟨#[83]⟩,.int .i64 (-2),.int .i64 (-1),.int .i64 3,.int .i64 2,.int .i64 1,.int .i64 1]) (h10:ρ x10 = .agg #[.string ⟨#[70]⟩,.int .i64 (-2),.int .i64 (-1),.int .i64 4,.int .i64 2,.int .i64 1,.int .i64 1]) (h11:ρ x11 = .agg #[.string ⟨#[87,98]⟩,.int .i64 2,.int .i64 1,.int .i64 (-2),.int .i64 (-1),.int .i64 1,.int .i64 1]) (h12:ρ x12 = .agg #[.string ⟨#[72]⟩,.int .i64 2,.int .i64 1,.int .i64 (-2),.int .i64 (-2),.int .i64 1,.int .i64 1]) (h13:ρ x13 = .agg #[.string ⟨#[109,105,110]⟩,.int .i64 0,.int .i64 0,.int .i64 1,.int .i64 0,.int .i64 60,.int .i64 1]) (h14:ρ x14 = .agg #[.string ⟨#[104]⟩,.int .i64 0,.int .i64 0,.int .i64 1,.int .i64 0,.int .i64 3600,.int .i64 1]) (h15:ρ x15 = .agg #[.string ⟨#[76]⟩,.int .i64 3,.int .i64 0,.int .i64 0,.int .i64 0,.int .i64 1,.int .i64 1000]) (h16:ρ x16 = .agg #[.string ⟨#[98,97,114]⟩,.int .i64 (-1),.int .i64 1,.int .i64 (-2),.int .i64 0,.int .i64 100000,.int .i64 1]) (h17:ρ x17 = .agg #[.string ⟨#[114,97,100]⟩,.int .i64 0,.int .i64 0,.int .i64 0,.int .i64 0,.int .i64 1,.int .i64 1]) :
  (execOp ρ { dst:=d,op := .buildSlice 223 18 #[(0,x0),(1,x1),(2,x2),(3,x3),(4,x4),(5,x5),(6,x6),(7,x7),(8,x8),(9,x9),(10,x10),(11,x11),(12,x12),(13,x13),(14,x14),(15,x15),(16,x16),(17,x17)],type:=ty,pos:=pos,after:=af,guard:=gd}).run prog w = .ok (.value (.slice (some ⟨w.heap.size,0,none⟩) 18 18)) (w.alloc (.cells ank.toArray 222)):=by
 simp only[execOp]
 simp[go_sem,h0,h1,h2,h3,h4,h5,h6,h7,h8,h9,h10,h11,h12,h13,h14,h15,h16,h17]
 first|done|rfl|kernel_rfl
theorem flat_get {α:Type} : ∀ (L:List (List α)) (k j:Nat),(∀ x∈L,x.length=7)→j<7→L.flatten[7*k+j]? = (L[k]?).bind (fun x=>x[j]?)
 | [],k,j,_,_=>by simp
 | x::L,0,j,h,hj=>by
  have hx:=h x Ah;rw[List.flatten_cons,Nr,Bn,arh om];rfl
 | x::L,k+1,j,h,hj=>by
  have hx:=h x Ah;have ih:=flat_get L k j (fun y hy=>h y (Fw _ hy)) hj;rw[List.flatten_cons,bkn om,hx,show 7*(k+1)+j-7=7*k+j by omega,ih];rfl
def anu:Wq→Vq→Prop:=fun W v => ∃ b,v = .slice (some ⟨b,0,none⟩) 18 18∧b<W.heap.size ∧ ∀ k e,Ai[7+k]? = some e → ∀ j,j<7→W.cell? ⟨b,7*k+j,none⟩=(api e)[j]?
theorem axo:yu il anu:=by
 rintro w w' v hb ⟨b,rfl,h1,h2⟩
 exact⟨b,rfl,zh h1 hb.size,fun k e he j hj=>(hb.cell (p:=⟨b,7*k+j,none⟩) h1).trans (h2 k e he j hj)⟩
theorem cgy (hal:al.contains k=false) (Qe : ∀ W W',G W→il W W'→G W') (g0:cu l n T a0 k x0 (ax (.agg #[.string ⟨#[103]⟩,.int .i64 0,.int .i64 1,.int .i64 0,.int .i64 0,.int .i64 1,.int .i64 1000]))) (g1:cu l n T a0 k x1 (ax (.agg #[.string ⟨#[72,122]⟩,.int .i64 0,.int .i64 0,.int .i64 (-1),.int .i64 0,.int .i64 1,.int .i64 1]))) (g2:cu l n T a0 k x2 (ax (.agg #[.string ⟨#[78]⟩,.int .i64 1,.int .i64 1,.int .i64 (-2),.int .i64 0,.int .i64 1,.int .i64 1]))) (g3:cu l n T a0 k x3 (ax (.agg #[.string ⟨#[80,97]⟩,.int .i64 (-1),.int .i64 1,.int .i64 (-2),.int .i64 0,.int .i64 1,.int .i64 1]))) (g4:cu l n T a0 k x4 (ax (.agg #[.string ⟨#[74]⟩,.int .i64 2,.int .i64 1,.int .i64 (-2),.int .i64 0,.int .i64 1,.int .i64 1]))) (g5:cu l n T a0 k x5 (ax (.agg #[.string ⟨#[87]⟩,.int .i64 2,.int .i64 1,.int .i64 (-3),.int .i64 0,.int .i64 1,.int .i64 1]))) (g6:cu l n T a0 k x6 (ax (.agg #[.string ⟨#[67]⟩,.int .i64 0,.int .i64 0,.int .i64 1,.int .i64 1,.int .i64 1,.int .i64 1]))) (g7:cu l n T a0 k x7 (ax (.agg #[.string ⟨#[86]⟩,.int .i64 2,.int .i64 1,.int .i64 (-3),.int .i64 (-1),.int .i64 1,.int .i64 1]))) (g8:cu l n T a0 k x8 (ax (.agg #[.string ⟨#[79,104,109]⟩,.int .i64 2,.int .i64 1,.int .i64 (-3),.int .i64 (-2),.int .i64 1,.int .i64 1]))) (g9:cu l n T a0 k x9 (ax (.agg #[.string ⟨#[83]⟩,.int .i64 (-2),.int .i64 (-1),.int .i64 3,.int .i64 2,.int .i64 1,.int .i64 1]))) (g10:cu l n T a0 k x10 (ax (.agg #[.string ⟨#[70]⟩,.int .i64 (-2),.int .i64 (-1),.int .i64 4,.int .i64 2,.int .i64 1,.int .i64 1]))) (g11:cu l n T a0 k x11 (ax (.agg #[.string ⟨#[87,98]⟩,.int .i64 2,.int .i64 1,.int .i64 (-2),.int .i64 (-1),.int .i64 1,.int .i64 1]))) (g12:cu l n T a0 k x12 (ax (.agg #[.string ⟨#[72]⟩,.int .i64 2,.int .i64 1,.int .i64 (-2),.int .i64 (-2),.int .i64 1,.int .i64 1]))) (g13:cu l n T a0 k x13 (ax (.agg #[.string ⟨#[109,105,110]⟩,.int .i64 0,.int .i64 0,.int .i64 1,.int .i64 0,.int .i64 60,.int .i64 1]))) (g14:cu l n T a0 k x14 (ax (.agg #[.string ⟨#[104]⟩,.int .i64 0,.int .i64 0,.int .i64 1,.int .i64 0,.int .i64 3600,.int .i64 1]))) (g15:cu l n T a0 k x15 (ax (.agg #[.string ⟨#[76]⟩,.int .i64 3,.int .i64 0,.int .i64 0,.int .i64 0,.int .i64 1,.int .i64 1000]))) (g16:cu l n T a0 k x16 (ax (.agg #[.string ⟨#[98,97,114]⟩,.int .i64 (-1),.int .i64 1,.int .i64 (-2),.int .i64 0,.int .i64 100000,.int .i64 1]))) (g17:cu l n T a0 k x17 (ax (.agg #[.string ⟨#[114,97,100]⟩,.int .i64 0,.int .i64 0,.int .i64 0,.int .i64 0,.int .i64 1,.int .i64 1]))) (hT:T k=anu) :
  ib prog Q l n T G il al a0 k { dst:=some d,op := .buildSlice 223 18 #[(0,x0),(1,x1),(2,x2),(3,x3),(4,x4),(5,x5),(6,x6),(7,x7),(8,x8),(9,x9),(10,x10),(11,x11),(12,x12),(13,x13),(14,x14),(15,x15),(16,x16),(17,x17)],type:=ty,pos:=pos,after:=af,guard:=gd}:=by
 intro a w hG hO hN
 have hb:il w (w.alloc (.cells ank.toArray 222)):=ic (df _ _) _
 have hN:anu (w.alloc (.cells ank.toArray 222)) (.slice (some ⟨w.heap.size,0,none⟩) 18 18):=⟨w.heap.size,rfl,lt_of_block (heap_alloc_new w _),fun k e he j hj=>by
  have h1:=ag (heap_alloc_new w (.cells ank.toArray 222)) (7*k+j);rw[h1];have h2:(bzx)[7*k+j]? = _:=flat_get ((Ai.drop 7).map api) k j (fun x hx=>by obtain⟨e,_,rfl⟩:=Nv.1 hx;rfl) hj;have h3:(Ai.drop 7)[k]? = some e:=by rw[Sd];exact he
  rw[aad,h3,← cdp]at h2;have h4:ank[7*k+j]? = (api e)[j]? := h2;rw[List.getElem?_toArray];exact h4⟩
 exact Dp (P:=prog) (bvk (h0:=g0 a w hO (by assumption)) (h1:=g1 a w hO (by assumption)) (h2:=g2 a w hO (by assumption)) (h3:=g3 a w hO (by assumption)) (h4:=g4 a w hO (by assumption)) (h5:=g5 a w hO (by assumption)) (h6:=g6 a w hO (by assumption)) (h7:=g7 a w hO (by assumption)) (h8:=g8 a w hO (by assumption)) (h9:=g9 a w hO (by assumption)) (h10:=g10 a w hO (by assumption)) (h11:=g11 a w hO (by assumption)) (h12:=g12 a w hO (by assumption)) (h13:=g13 a w hO (by assumption)) (h14:=g14 a w hO (by assumption)) (h15:=g15 a w hO (by assumption)) (h16:=g16 a w hO (by assumption)) (h17:=g17 a w hO (by assumption))) ⟨_,rfl,Qe _ _ hG hb,hb,by rw[hT];exact hN,fun h=>by rw[hal]at h;cases h⟩
theorem cdc {y:Operand} (hal:al.contains k=false) (hx:cu l n T a0 k x (ax (.slice (some ⟨b,0,none⟩) 18 18))) (hy:cu l n T a0 k y (ax (.int .i64 (i:Int)))) (hi:i<18) (hT:T k=ax (.pointer (some ⟨b,7*i,none⟩))) :
  ib prog Q l n T G il al a0 k { dst:=some d,op := .indexAddr 223 x y,type:=ty,pos:=pos,after:=af,guard:=gd}:=by
 intro a w hG hO hN
 have h1:a.eval x = .slice (some ⟨b,0,none⟩) 18 18:=hx a w hO hN
 have h2:a.eval y = .int .i64 (i:Int):=hy a w hO hN
 have hr:(execOp a.eval { dst:=some d,op := .indexAddr 223 x y,type:=ty,pos:=pos,after:=af,guard:=gd}).run prog w = .ok (.value (.pointer (some ⟨b,7*i,none⟩))) w:=by
  simp only[execOp,h1,h2];simp[go_sem,hi,og]
  try (intro h;exfalso;omega)
 exact wvz hr hG hal (by rw[hT];rfl)
theorem biq {c:Nat} (hal:al.contains k=false) (hx:cu l n T a0 k x (ax (.slice A m c))) (hT:T k=ax (.int .i64 m)) :
  ib prog Q l n T G il al a0 k { dst:=some d,op := .call { callee := .builtin .len,args:=#[x],argTypes:=#[223]},type:=ty,pos:=pos,after:=af,guard:=gd}:=by
 intro a w hG hO hN
 have h:a.eval x = .slice A m c:=hx a w hO hN
 have hr:(execOp a.eval { dst:=some d,op := .call { callee := .builtin .len,args:=#[x],argTypes:=#[223]},type:=ty,pos:=pos,after:=af,guard:=gd}).run prog w = .ok (.value (.int .i64 m)) w:=by
  simp only[execOp,resolve,invoke,h,Rk,Gr,Rl];simp[go_sem,h,Builtin.len_]
 exact wvz hr hG hal (by rw[hT];rfl)
theorem cdb (hb : ∀ W,G W → ∀ j,j<7→W.cell? ⟨b,7*i+j,none⟩=(api e)[j]?) (hal:al.contains k=false) (hx:cu l n T a0 k x (ax (.pointer (some ⟨b,7*i,none⟩)))) (hT:T k=bz [.v (.string e.1),iv (e.2.1 0),iv (e.2.1 1),iv (e.2.1 2),iv (e.2.1 3),iv e.2.2.1,iv e.2.2.2]) :
  ib prog Q l n T G il al a0 k { dst:=some d,op := .load 222 x,type:=ty,pos:=pos,after:=af,guard:=gd}:=by
 intro a w hG hO hN
 have hr:=chx a.eval w (some d) x b (7*i) (api e) ty pos af gd rfl (hb w hG) (hx a w hO hN)
 exact wvz hr hG hal (by rw[hT];exact⟨_,rfl,gy.vs w (api e) rfl⟩)
theorem chf {d:Option Tmp} (h0:ρ x0 = .int .i64 (f 0)) (h1:ρ x1 = .int .i64 (f 1)) (h2:ρ x2 = .int .i64 (f 2)) (h3:ρ x3 = .int .i64 (f 3)) (hz:f 4=0∧f 5=0∧f 6=0) :
  (execOp ρ { dst:=d,op := .build 42 #[(0,x0),(1,x1),(2,x2),(3,x3)],type:=ty,pos:=pos,after:=af,guard:=gd}).run prog w = .ok (.value (.agg #[.int .i64 (f 0),.int .i64 (f 1),.int .i64 (f 2),.int .i64 (f 3),.int .i64 (f 4),.int .i64 (f 5),.int .i64 (f 6)])) w:=by
 simp only[execOp]
 rw[hz.1,hz.2.1,hz.2.2]
 simp[go_sem,h0,h1,h2,h3]
 try rfl
theorem cqw (hal:al.contains k=false) (g0:cu l n T a0 k x0 (ax (.int .i64 (f 0)))) (g1:cu l n T a0 k x1 (ax (.int .i64 (f 1)))) (g2:cu l n T a0 k x2 (ax (.int .i64 (f 2)))) (g3:cu l n T a0 k x3 (ax (.int .i64 (f 3)))) (hz:f 4=0∧f 5=0∧f 6=0) (hT:T k=bz [.k (eK f)]) :
  ib prog Q l n T G il al a0 k { dst:=some d,op := .build 42 #[(0,x0),(1,x1),(2,x2),(3,x3)],type:=ty,pos:=pos,after:=af,guard:=gd}:=by
 intro a w hG hO hN
 have hr:=chf (w:=w) (d:=some d) (ty:=ty) (pos:=pos) (af:=af) (gd:=gd) (g0 a w hO hN) (g1 a w hO hN) (g2 a w hO hN) (g3 a w hO hN) hz
 exact wvz hr hG hal (by rw[hT];exact⟨_,rfl,gy.e (f:=f) rfl⟩)
theorem Nz {P:Program} {ops:Array Oper} {rest:List Oper} {a:Act} {w0:Wq} {TL TB:TypeId} {p:Operand} {bs:List yz} (hO:Own w0 bs w) (i:Nat) (pre old new post:List lg)
  (hi:bs[i]? = some (b,TB,pre++(old++post))) (hS:Cw P TL m) (hp:a.eval p = .pointer (some ⟨b,off,none⟩)) (hv:bz new w (a.eval x)) (hm:ry new=m) (hl:ry new=ry old) (ho:off=ry pre)
  (hk : ∀ w',Own w0 (bs.set i (b,TB,pre++(new++post))) w'→(∀ ks u,bz ks w u→bz ks w' u)→(∀ V0:Wq,V0.heap.size≤b→il V0 w→il V0 w')→wpList P ops Q rest a w') :
  wpList P ops Q ({ dst:=none,op := .store TL p x,type:=ty,pos:=pos,after:=af,guard:=none}::rest) a w:=by
 obtain⟨hlt,he⟩:=agj.1 hi
 have hbs:bs=bs.take i++(b,TB,pre++(old++post))::bs.drop (i+1):=by
  rw[← he,← Si hlt,Lu]
 have hset:bs.set i (b,TB,pre++(new++post))=bs.take i++(b,TB,pre++(new++post))::bs.drop (i+1):=aey .. |>.trans (if_pos hlt)
 rw[hset]at hk
 rw[hbs]at hO
 obtain⟨us,e,hu⟩:=hv
 have hbx:=hO.box b TB _ (Ht _ Ah)
 obtain⟨hge,cs,hb,hls⟩:=hbx
 have hr:=hS a.eval w none p x b off cs TB us ty pos af none (by rw[hu.len,hm]) (fun u h=>(hu.noW u h).2.1) hb (by
  obtain⟨c,cd,rfl,k1,k2⟩:=hls.cut;obtain⟨o,d,rfl,k3,k4⟩:=k2.cut;have e1:=k1.len;have e3:=k3.len;simp only[Bj];omega) hp e
 unfold wpList
 rw[if_pos (by simp[Region.wanted])]
 refine .inl ?_
 unfold Oper.wp
 rw[hr]
 exact hk _ (hO.set hu hl ho) (fun ks u h=>abk ⟨cs,hb,hls⟩ h) (fun V0 h1 h2=>h2.grown (Al b us off w w (wy _ _)) h2.size (fun g hg=>by injection hg with hg;subst hg;exact h1))
theorem apr : ∀ {L:List (ByteArray×(Nat→Int)×Int×Int)} {i:Nat} {e:ByteArray×(Nat→Int)×Int×Int},L[i]? = some e→(∀ j x,j<i→L[j]? = some x→s≠x.1)→s=e.1→zy s L=some e.2
 | [],i,e,h,_,_=>by simp at h
 | x::L,0,e,h,_,hs=>by
  simp only[List.getElem?_cons_zero,bbh]at h;subst h;show(if s=x.1 then some x.2 else zy s L)=_;rw[if_pos hs]
 | x::L,i+1,e,h,hn,hs=>by
  show(if s=x.1 then some x.2 else zy s L)=_;rw[if_neg (hn 0 x om rfl)];exact apr (i:=i) (by simpa using h) (fun j y hj hy=>hn (j+1) y om (by simpa using hy)) hs
theorem bdk : ∀ {L:List (ByteArray×(Nat→Int)×Int×Int)},(∀ (j:Nat) (x:ByteArray×(Nat→Int)×Int×Int),L[j]? = some x→s≠x.1)→zy s L=none
 | [],_=>rfl
 | x::L,h=>by
  show(if s=x.1 then some x.2 else zy s L)=_;rw[if_neg (h 0 x rfl)];exact bdk fun j y hy=>h (j+1) y (by simpa using hy)
theorem ast {b:List UInt8} (h:tx a=tx b):a=b:=by
 have:=Ez (fun s:ByteArray=>s.data.toList) h
 rwa[Ac,Ac]at this
theorem aww : ∀ {k:Nat},k<7 → ∃ f,Ai[k]? = some (tx (bn k),f,1,1) ∧ ∀ j,j<7→(if j=k then 1 else z7 j)=f j:=fun {k} h=>by
 have hc:k=0∨k=1∨k=2∨k=3∨k=4∨k=5∨k=6:=by omega
 rcases hc with rfl|rfl|rfl|rfl|rfl|rfl|rfl<;>exact⟨_,rfl,by decide⟩
theorem chg (h:Ai[7+k]? = some e):(e.2.1 4=0∧e.2.1 5=0∧e.2.1 6=0)∧qi e.2.2.1 e.2.2.2:=by
 have h3:(Ai.drop 7)[k]? = some e:=by rw[Sd];exact h
 have hall : ∀ x∈Ai.drop 7,(x.2.1 4=0∧x.2.1 5=0∧x.2.1 6=0)∧qi x.2.2.1 x.2.2.2:=by decide +kernel
 exact hall _ (Kt h3)
theorem bfr {l:List UInt8} (hb : ∀ j,j<7→bn j≠l) (hr : ∀ j,j<k → ∀ e,Ai[7+j]? = some e→tx l≠e.1) : ∀ j x,j<7+k→Ai[j]? = some x→tx l≠x.1:=fun j x hj hx=>by
 by_cases g:j<7
 ·
  obtain⟨f,h1,_⟩:=aww g;rw[h1]at hx
  cases hx
  intro h;exact hb j g (ast h).symm
 ·
  obtain⟨i,rfl⟩ : ∃ i,j=7+i:=⟨j-7,by omega⟩
  exact hr i om x hx
def boj:Option ((Nat→Int)×Int×Int)→Wq→Vq→Prop
 | some e=>ko [bz [.k (eK e.1),.r (jw e.2.1 e.2.2)],ax (.bool true)]
 | none=>ko [bz zV,ax (.bool false)]
theorem cew (w:Wq):Calls prog 106 #[] w (gp (bz [.k (eK z7),.r (jw 1 1)]) w):=bti w
theorem chl (ok:qi p q) (W:Wq):Calls prog 145 #[.int .i64 p,.int .i64 q] W (gp (bz [.r (jw p q)]) W):=by
 obtain⟨h1,h2,h3,h4,_⟩:=ok
 exact(Go.Proofs.YtfgeaakhlcaibaaGreatDoor.ckt p q om om om om om W).mono fun e w' h=>ato h
theorem cez {l:List UInt8} (h : ∀ j,j<k→bn j≠l) (hk:k<7) (j:Nat) (x:ByteArray×(Nat→Int)×Int×Int) (hj:j<k) (hx:Ai[j]? = some x):tx l≠x.1:=by
 obtain⟨f,h1,_⟩:=aww (show j<7 by omega)
 rw[h1]at hx
 cases hx
 exact fun e=>h j hj (ast e).symm
theorem ahl {l:List UInt8} {o:Option ((Nat→Int)×Int×Int)} (w:Wq) (ho:o=zy (tx l) Ai) :
  Calls prog 174 #[.string (tx l)] w (gp (boj o) w):=by
 have Jo:=ae ho
 clear ho
 go_enter func174,ntmps174
 go_upto_region 1 with fail
 have hO:=(Own.push (T:=113) (ls:=zV) (Own.nil w) (gy.vs w [.int .i64 0,.int .i64 0,.int .i64 0,.int .i64 0,.int .i64 0,.int .i64 0,.int .i64 0,.slice none 0 0,.bool false,.slice none 0 0,.bool false] rfl) (w.heap.size) rfl)
 generalize w.alloc (.cells #[.int .i64 0,.int .i64 0,.int .i64 0,.int .i64 0,.int .i64 0,.int .i64 0,.int .i64 0,.slice none 0 0,.bool false,.slice none 0 0,.bool false] 113)=W0 at *
 have HO:=ae hO
 clear hO
 refine yc 2 75 (ui [agb,agb]) (iw w _ W0) il [] kr rfl (qm.pick ⟨atf,atf,trivial⟩) (iw.begin (aa HO))
  (au (ccy rfl iw.step rfl)
  (au (zu rfl (aT 0))
  ai)) ?_
 intro v1 V1 hG1 hv1 hne1
 simp only[ay,Act.put,tA]
 obtain⟨b,em,hbb,hbn⟩:=(show agb V1 (v1 1)from hv1 1 de)
 simp only[em]
 have HBB:=ae hbb
 have HBN:=ae hbn
 clear hbb hbn
 replace HO:=ae hG1.1
 clear hG1 hv1 hne1
 go_wp2_with fail
 go_loopw [5] (fun vk wr => ∃ k:Nat,k≤7∧vk = .int .i64 ((k:Nat):Int)∧Hid (∀ j,j<k→bn j≠l)∧Hid (Own w [(w.heap.size,113,zV)] wr∧il V1 wr)) (fun vk _=>7-(intOf vk).toNat)
 case atStart=>exact⟨0,by omega,rfl,ae (fun j hj=>absurd hj om),ae ⟨aa HO,df _ _⟩⟩
 case round =>
  clear HO;obtain⟨k,hk,rfl,Qp,HOA⟩:=hrel;have HK:=ae hk;clear hk;have HO:=ae (aa HOA).1;have HVB:=ae (aa HOA).2;clear HOA;have ru:=ae (show il wr wr from df _ _)
  by_cases g1:k<7
  ·
   have d1:decide ((k:Int)<7)=true:=dm om;have qp:=ae g1;clear g1;go_upto_region 3 with fail;refine fw 2 [_,_] [] HO (dh aF (au (wu rfl (aT 0) (fe _) rfl d1) ai)) ?_
   intro v2 V2 hG2 hv2 hne2;simp only[ay,Act.put,tA,exv (hv2 1 de)];replace ru:=ae (az (aa ru) hG2.2);replace HO:=ae hG2.1;clear hG2 hv2 hne2;clear d1
   by_cases g2:bn k=l
   ·
    have d2:decide (bn k=l)=true:=dm g2;obtain⟨f,hf1,hf2⟩:=aww (aa qp);have ho:o=some (f,1,1):=by rw[aa Jo,apr hf1 (fun j x hj hx=>cez (aa Qp) (aa qp) j x hj hx) (by rw[g2])]
    subst ho;have HFK:=ae hf2;clear hf1 hf2 g2 Jo;go_upto_region 5 with fail;refine fw 6 [_,_,_,_,_,_] [] HO (dh aF (dh aF (au (bir rfl (aT 0) (aT 1) (aa qp) rfl) (au (baw (fun W h=>((az (aa HVB) (az (aa ru) h.2)).cell (p:=⟨b,k,none⟩) (aa HBB)).trans ((aa HBN) k (aa qp))) rfl (aT 2) rfl) (dh aF (au (Gq (p:=bn k) (q:=l) rfl (aT 3) (aT 4) d2 rfl) ai)))))) ?_
    intro v3 V3 hG3 hv3 ji;simp only[ay,Act.put,tA,exv (hv3 5 de)];replace ru:=ae (az (aa ru) hG3.2);replace HO:=ae hG3.1;clear hG3 hv3 ji;clear d2;go_upto_region 6 with fail;refine fw 2 [_,_] [1] HO (au (Uc func106 kr rfl iw.step  (fun W  hG  => cew W)) (Am Xu ai)) ?_
    intro v4 V4 hG4 hv4 ma;obtain⟨byu,e1,Zr,hz1⟩:=(show qw 113 zV V3.heap.size V4 (v4 1)from hv4 1 de)
    simp only[ay,Act.put,tA,e1];have hO  := hG4.1;replace hO:=Own.add (aa HO) hG4.2 Zr hz1;clear Zr hz1;refine kg hO 0 Aw (hv4 0 de) ?_
    clear hO;intro Dy hO hk0;replace HO:=ae hO;clear hO hG4 hv4 ma hk0;try clear e1;go_upto_region 7 with fail;refine fw 3 [_,_,_] [] HO (dh aF (au (Pw (b:=byu) (off:=0) rfl aF rfl rfl) (au (Lx (b:=byu) (k:=k) rfl (aT 1) (aT 0) (aa qp) rfl) ai))) ?_
    intro v5 V5 mo hv5 hne5;simp only[ay,Act.put,tA,show v5 2 = .pointer (some ⟨byu,k,none⟩)from hv5 2 de];have hO  := mo.1;refine asy (f:=z7) (g:=f) (k:=k) (v:=1) hO 0 [.r (jw 1 1)] rfl (aa qp) rfl rfl (aa HFK) ?_
    intro Jv rf hk0;replace hO:=rf;clear rf;replace HO:=ae hO;clear hO mo hv5 hne5 hk0;go_upto_region 8 with fail;refine fw 1 [_] [] HO (xh Zb me0 aF ai) ?_
    intro v6 V6 qb hv6 vw;simp only[ay,Act.put,tA];have hO  := qb.1;refine kg hO 1 Aw (hv6 0 de) ?_
    clear hO;intro ais hO hk0;replace HO:=ae hO;clear hO qb hv6 vw hk0;go_wp2_with fail;exact vo results174 Ik rfl rfl (aa HO) uq rfl rfl
   ·
    have d2:decide (bn k=l)=false:=dw g2;have HNX:=ae (show ∀ j,j<k+1→bn j≠l from fun j hj=>by
     rcases ajr.1 hj with h|rfl
     ·
      exact(aa Qp) j h
     ·
      exact g2)
    clear g2;go_upto_region 5 with fail;refine fw 6 [_,_,_,_,_,_] [] HO (dh aF (dh aF (au (bir rfl (aT 0) (aT 1) (aa qp) rfl) (au (baw (fun W h=>((az (aa HVB) (az (aa ru) h.2)).cell (p:=⟨b,k,none⟩) (aa HBB)).trans ((aa HBN) k (aa qp))) rfl (aT 2) rfl) (dh aF (au (Gq (p:=bn k) (q:=l) rfl (aT 3) (aT 4) d2 rfl) ai)))))) ?_
    intro v3 V3 hG3 hv3 ji;simp only[ay,Act.put,tA,exv (hv3 5 de)];replace ru:=ae (az (aa ru) hG3.2);replace HO:=ae hG3.1;clear hG3 hv3 ji;clear d2;go_wp2_with fail
    go_roundw
    case rel =>
     exact⟨k+1,by have:=aa qp;omega,cmm (aa qp),HNX,ae ⟨aa HO,az (aa HVB) (aa ru)⟩⟩
    case measure =>
     have h1:=aa qp;clear HO;rw[Ih h1 om];exact measS h1
  ·
   have d1:decide ((k:Int)<7)=false:=dw om;obtain rfl:k=7:=by have:=aa HK;omega
   clear g1;go_upto_region 3 with fail;refine fw 2 [_,_] [] HO (dh aF (au (wu rfl (aT 0) (fe _) rfl d1) ai)) ?_
   intro v2 V2 hG2 hv2 hne2;simp only[ay,Act.put,tA,exv (hv2 1 de)];replace HO:=ae hG2.1;clear hG2 hv2 hne2;clear d1;go_upto_region 9 with fail;refine yc 20 75 (ui [ax (.agg #[.string ⟨#[103]⟩,.int .i64 0,.int .i64 1,.int .i64 0,.int .i64 0,.int .i64 1,.int .i64 1000]),ax (.agg #[.string ⟨#[72,122]⟩,.int .i64 0,.int .i64 0,.int .i64 (-1),.int .i64 0,.int .i64 1,.int .i64 1]),ax (.agg #[.string ⟨#[78]⟩,.int .i64 1,.int .i64 1,.int .i64 (-2),.int .i64 0,.int .i64 1,.int .i64 1]),ax (.agg #[.string ⟨#[80,97]⟩,.int .i64 (-1),.int .i64 1,.int .i64 (-2),.int .i64 0,.int .i64 1,.int .i64 1]),ax (.agg #[.string ⟨#[74]⟩,.int .i64 2,.int .i64 1,.int .i64 (-2),.int .i64 0,.int .i64 1,.int .i64 1]),ax (.agg #[.string ⟨#[87]⟩,.int .i64 2,.int .i64 1,.int .i64 (-3),.int .i64 0,.int .i64 1,.int .i64 1]),ax (.agg #[.string ⟨#[67]⟩,.int .i64 0,.int .i64 0,.int .i64 1,.int .i64 1,.int .i64 1,.int .i64 1]),ax (.agg #[.string ⟨#[86]⟩,.int .i64 2,.int .i64 1,.int .i64 (-3),.int .i64 (-1),.int .i64 1,.int .i64 1]),ax (.agg #[.string ⟨#[79,104,109]⟩,.int .i64 2,.int .i64 1,.int .i64 (-3),.int .i64 (-2),.int .i64 1,.int .i64 1]),ax (.agg #[.string ⟨#[83]⟩,.int .i64 (-2),.int .i64 (-1),.int .i64 3,.int .i64 2,.int .i64 1,.int .i64 1]),ax (.agg #[.string ⟨#[70]⟩,.int .i64 (-2),.int .i64 (-1),.int .i64 4,.int .i64 2,.int .i64 1,.int .i64 1]),ax (.agg #[.string ⟨#[87,98]⟩,.int .i64 2,.int .i64 1,.int .i64 (-2),.int .i64 (-1),.int .i64 1,.int .i64 1]),ax (.agg #[.string ⟨#[72]⟩,.int .i64 2,.int .i64 1,.int .i64 (-2),.int .i64 (-2),.int .i64 1,.int .i64 1]),ax (.agg #[.string ⟨#[109,105,110]⟩,.int .i64 0,.int .i64 0,.int .i64 1,.int .i64 0,.int .i64 60,.int .i64 1]),ax (.agg #[.string ⟨#[104]⟩,.int .i64 0,.int .i64 0,.int .i64 1,.int .i64 0,.int .i64 3600,.int .i64 1]),ax (.agg #[.string ⟨#[76]⟩,.int .i64 3,.int .i64 0,.int .i64 0,.int .i64 0,.int .i64 1,.int .i64 1000]),ax (.agg #[.string ⟨#[98,97,114]⟩,.int .i64 (-1),.int .i64 1,.int .i64 (-2),.int .i64 0,.int .i64 100000,.int .i64 1]),ax (.agg #[.string ⟨#[114,97,100]⟩,.int .i64 0,.int .i64 0,.int .i64 0,.int .i64 0,.int .i64 1,.int .i64 1]),anu,anu]) (iw w _ V2) il [] kr rfl (qm.pick ⟨fo _,fo _,fo _,fo _,fo _,fo _,fo _,fo _,fo _,fo _,fo _,fo _,fo _,fo _,fo _,fo _,fo _,fo _,axo,axo,trivial⟩) (iw.begin (aa HO))
    (au (Jz rfl rfl)
    (au (Jz rfl rfl)
    (au (Jz rfl rfl)
    (au (Jz rfl rfl)
    (au (Jz rfl rfl)
    (au (Jz rfl rfl)
    (au (Jz rfl rfl)
    (au (Jz rfl rfl)
    (au (Jz rfl rfl)
    (au (Jz rfl rfl)
    (au (Jz rfl rfl)
    (au (Jz rfl rfl)
    (au (Jz rfl rfl)
    (au (Jz rfl rfl)
    (au (Jz rfl rfl)
    (au (Jz rfl rfl)
    (au (Jz rfl rfl)
    (au (Jz rfl rfl)
    (au (cgy rfl iw.step (aT 0) (aT 1) (aT 2) (aT 3) (aT 4) (aT 5) (aT 6) (aT 7) (aT 8) (aT 9) (aT 10) (aT 11) (aT 12) (aT 13) (aT 14) (aT 15) (aT 16) (aT 17) rfl)
    (au (zu rfl (aT 18))
    ai)))))))))))))))))))) ?_
   intro v3 V3 hG3 hv3 ji;simp only[ay,Act.put,tA];obtain⟨b2,em2,cjq,cjp⟩:=(show anu V3 (v3 19)from hv3 19 de)
   simp only[em2];have HRB:=ae cjq;have HRN:=ae cjp;clear cjq cjp;clear HBB HBN HVB ru;replace HO:=ae hG3.1;clear hG3 hv3 ji;go_wp2_with fail
   go_loopw [8] (fun vk wr => ∃ k:Nat,k≤18∧vk = .int .i64 ((k:Nat):Int)∧Hid (∀ j,j<k → ∀ e,Ai[7+j]? = some e→tx l≠e.1)∧Hid (Own w [(w.heap.size,113,zV)] wr∧il V3 wr)) (fun vk _=>18-(intOf vk).toNat)
   case atStart=>exact⟨0,by omega,rfl,ae (fun j hj=>absurd hj om),ae ⟨aa HO,df _ _⟩⟩
   case round =>
    clear HO HK;obtain⟨k,hk,rfl,HNR,HOA⟩:=hrel;have HK:=ae hk;clear hk;have HO:=ae (aa HOA).1;have HVB:=ae (aa HOA).2;clear HOA;have ru:=ae (show il wr wr from df _ _)
    by_cases g1:k<18
    ·
     have d1:decide ((k:Int)<18)=true:=dm om;have qp:=ae g1;clear g1;obtain⟨⟨nm,f,p,q⟩,he⟩ : ∃ e,Ai[7+k]? = some e:=⟨_,Cj (by show 7+k<25;have:=aa qp;omega)⟩
     obtain⟨nl,rfl⟩ : ∃ nl,nm=tx nl:=⟨nm.data.toList,(Fz nm).symm⟩
     have HE:=ae he;clear he;go_upto_region 11 with fail;refine fw 4 [_,_,_,_] [] HO (dh aF (dh aF (au (biq (m:=18) rfl (aT 1) rfl) (au (wu rfl (aT 0) (aT 2) rfl d1) ai)))) ?_
     intro v4 V4 hG4 hv4 ma;simp only[ay,Act.put,tA,exv (hv4 3 de)];replace ru:=ae (az (aa ru) hG4.2);replace HO:=ae hG4.1;clear hG4 hv4 ma;clear d1;have HSW:=bg (show wr.heap.size≤_ from(aa ru).size);go_upto_region 13 with fail;refine fw 5 [_,_,_,_,_] [4] HO (dh aF (dh aF (au (cdc rfl (aT 0) (aT 1) (aa qp) rfl) (au (cdb (e:=(tx nl,f,p,q)) (fun W h j hj=>((az (aa HVB) (az (aa ru) h.2)).cell (p:=⟨b2,7*k+j,none⟩) (aa HRB)).trans ((aa HRN) k _ (aa HE) j hj)) rfl (aT 2) rfl) (Am cne ai))))) ?_
     intro v5 V5 mo hv5 hne5;obtain⟨alu,e4,hge4,Mq⟩:=(show qw 222 zT V4.heap.size V5 (v5 4)from hv5 4 de)
     simp only[ay,Act.put,tA,e4];replace ru:=ae (az (aa ru) mo.2);have hO:=mo.1;replace hO:=Own.add (aa HO) mo.2 hge4 Mq;clear Mq;have HGE:=ae (xy HSW.out hge4);clear hge4;refine Nz hO 0 [] zT [.v (.string (tx nl)),iv (f 0),iv (f 1),iv (f 2),iv (f 3),iv p,iv q] [] rfl ccs rfl (show bz [.v (.string (tx nl)),iv (f 0),iv (f 1),iv (f 2),iv (f 3),iv p,iv q] V5 (v5 3)from hv5 3 de) rfl rfl rfl ?_
     intro Jv rf hk0 hb0;replace ru:=ae (hb0 _ (aa HGE) (aa ru));clear hb0 HGE;replace hO:=rf;clear rf;replace HO:=ae hO;clear hO mo hv5 hne5 hk0;try clear e4
     by_cases g2:nl=l
     ·
      have d2:decide (nl=l)=true:=dm g2;have ho:o=some (f,p,q):=by rw[aa Jo,apr (aa HE) (bfr (aa Qp) (aa HNR)) (by rw[g2])]
      subst ho;have HFZ:=ae (chg (aa HE));clear g2 Jo;go_upto_region 14 with fail;refine fw 4 [_,_,_,_] [] HO (au (axq (b:=alu) (off:=0) rfl aF rfl rfl) (au (Jd abg me0 (aT 0) [] [iv (f 0),iv (f 1),iv (f 2),iv (f 3),iv p,iv q] rfl) (dh aF (au (Gq (p:=nl) (q:=l) rfl (aT 1) (aT 2) d2 rfl) ai)))) ?_
      intro v6 V6 qb hv6 vw;simp only[ay,Act.put,tA,exv (hv6 3 de)];replace ru:=ae (az (aa ru) qb.2);replace HO:=ae qb.1;clear qb hv6 vw;clear d2;go_upto_region 15 with fail;refine Nw 15 [_,_,_,_,_,_,_,_,_,_,_,_,_,_,_] [] HO (au (bqm (b:=alu) (off:=0) rfl aF rfl rfl) (au (Jd Fe me0 (aT 0) [.v (.string (tx nl))] [iv (f 1),iv (f 2),iv (f 3),iv p,iv q] rfl) (au (bql (b:=alu) (off:=0) rfl aF rfl rfl) (au (Jd Fe me0 (aT 2) [.v (.string (tx nl)),iv (f 0)] [iv (f 2),iv (f 3),iv p,iv q] rfl) (au (bqk (b:=alu) (off:=0) rfl aF rfl rfl) (au (Jd Fe me0 (aT 4) [.v (.string (tx nl)),iv (f 0),iv (f 1)] [iv (f 3),iv p,iv q] rfl) (au (bqj (b:=alu) (off:=0) rfl aF rfl rfl) (au (Jd Fe me0 (aT 6) [.v (.string (tx nl)),iv (f 0),iv (f 1),iv (f 2)] [iv p,iv q] rfl) (au (cqw rfl (aT 1) (aT 3) (aT 5) (aT 7) (aa HFZ).1 rfl) (au (bqi (b:=alu) (off:=0) rfl aF rfl rfl) (au (Jd Fe me0 (aT 9) [.v (.string (tx nl)),iv (f 0),iv (f 1),iv (f 2),iv (f 3)] [iv q] rfl) (au (bqh (b:=alu) (off:=0) rfl aF rfl rfl) (au (Jd Fe me0 (aT 11) [.v (.string (tx nl)),iv (f 0),iv (f 1),iv (f 2),iv (f 3),iv p] [] rfl) (au (sc2 func145 (aT 10) (aT 12) (fun W v0 v1 hG h0 h1=>by cases h0;cases h1;exact chl (aa HFZ).2 W)) (au (Gu cex rfl (aT 8) (aT 13) rfl rfl rfl) ai))))))))))))))) ?_
      intro v7 V7 vg hv7 zw;simp only[ay,Act.put,tA];replace ru:=ae (az (aa ru) vg.2);have hO:=vg.1;refine kg hO 1 Aw (hv7 14 de) ?_
      clear hO;intro Xm hO hk0;replace HO:=ae hO;clear hO vg hv7 zw hk0;go_wp2_with fail;exact vo results174 Ik rfl rfl (aa HO) uq rfl rfl
     ·
      have d2:decide (nl=l)=false:=dw g2;have HNX:=ae (show ∀ j,j<k+1 → ∀ e,Ai[7+j]? = some e→tx l≠e.1 from fun j hj e he=>by
       rcases ajr.1 hj with h|rfl
       ·
        exact(aa HNR) j h e he
       ·
        have h2:=(aa HE).symm.trans he
        cases h2
        exact fun h=>g2 (ast h).symm)
      clear g2;go_upto_region 14 with fail;refine fw 4 [_,_,_,_] [] HO (au (axq (b:=alu) (off:=0) rfl aF rfl rfl) (au (Jd abg me0 (aT 0) [] [iv (f 0),iv (f 1),iv (f 2),iv (f 3),iv p,iv q] rfl) (dh aF (au (Gq (p:=nl) (q:=l) rfl (aT 1) (aT 2) d2 rfl) ai)))) ?_
      intro v6 V6 qb hv6 vw;simp only[ay,Act.put,tA,exv (hv6 3 de)];replace ru:=ae (az (aa ru) qb.2);replace HO:=ae qb.1;clear qb hv6 vw;clear d2;go_wp2_with fail
      go_roundw
      case rel =>
       exact⟨k+1,by have:=aa qp;omega,He (aa qp) om,HNX,ae ⟨(aa HO).tl,az (aa HVB) (aa ru)⟩⟩
      case measure =>
       have h1:=aa qp;clear HO;rw[Ih h1 om];exact measS h1
    ·
     have d1:decide ((k:Int)<18)=false:=dw om;obtain rfl:k=18:=by have:=aa HK;omega
     have ho:o=none:=by
      rw[aa Jo];refine bdk fun j x hx=>bfr (aa Qp) (aa HNR) j x ?_ hx
      rcases Fa j 25 with h|h
      ·
       exact h
      ·
       rw[Ha (show 25≤j from h)]at hx;cases hx
     subst ho;clear g1 Jo;go_upto_region 11 with fail;refine fw 4 [_,_,_,_] [] HO (dh aF (dh aF (au (biq (m:=18) rfl (aT 1) rfl) (au (wu rfl (aT 0) (aT 2) rfl d1) ai)))) ?_
     intro v4 V4 hG4 hv4 ma;simp only[ay,Act.put,tA,exv (hv4 3 de)];replace HO:=ae hG4.1;clear hG4 hv4 ma;clear d1;go_upto_region 16 with fail;refine fw 1 [_] [] HO (au (Gv Qf rfl rfl rfl) ai) ?_
     intro v5 V5 mo hv5 hne5;simp only[ay,Act.put,tA];have hO:=mo.1;refine kg hO 0 Aw (hv5 0 de) ?_
     clear hO;intro Jv hO hk0;replace HO:=ae hO;clear hO mo hv5 hne5 hk0;go_wp2_with fail;exact vo results174 Ik rfl rfl (aa HO) me0 rfl rfl
end Sb


namespace Sb
theorem cdr (s:ByteArray) (m:Nat) (hlm:m<s.size) (hm:m=0) (hl : ∀ j (h:j<s.size),j<m→su (s[j].toNat:Int)=true) (hcl:su (s[m].toNat:Int)=false) (hz:s.size≤1000000) (w:Wq) :
  Calls prog 209 #[.string s] w (gp (Kl ⟨#[]⟩ 0 false) w):=by
 have HL:=ae (fun W b=>La b W)
 have HH:=ae hl
 have HZ:=ae hz
 have HM:=ae hlm
 have z0:((m:Int)==0)=true:=by rw[hm];rfl
 clear hm
 have z1:((m:Int)==(s.size:Int))=false:=oo.2 om
 have hms:m≤s.size:=by omega
 have hd:su (s[m].toNat:Int)=false:=hcl
 clear hz hl hcl
 go_enter func209,ntmps209
 go_wp2_with fail
 go_loop [4] (fun i => ∃ k:Nat,k≤m∧i = .int .i64 k) (fun i=>m-(intOf i).toNat)
 case atStart=>exact⟨0,ug _,rfl⟩
 case round =>
  obtain⟨k,hk,rfl⟩:=hrel
  by_cases g:k<m
  ·
   have hlt:k<s.size:=by omega
   have e1:=(aa HH) k hlt g;have HG:=ae g;have hz2:=aa HZ;clear hd
   go_wp2_with (go_at_call 235;refine((aa HL) _ _).mono ?_;rintro e w' ⟨rfl,rfl⟩;rw[e1])
   go_round
   case rel=>exact⟨k+1,by have:=aa HG;omega,by go_num⟩
   case measure=>have:=aa HG;simp[intOf];omega
  ·
   obtain rfl:k=m:=by omega
   go_wp2_with (go_at_call 235;refine((aa HL) _ _).mono ?_;rintro e w' ⟨rfl,rfl⟩;generalize hx:su _=x;obtain rfl:x=false:=hx.symm.trans hd)
   exact bodyPost_ret (v := .tuple #[.agg #[.string ⟨#[]⟩,.int .i64 0],.bool false]) (by simp[results,results209,go_sem]) rfl ⟨_,rfl,ic (df _ _) _,Qw⟩
theorem cdt (s:ByteArray) (m:Nat) {b:Bool} (hlm:m<s.size) (h0:0<m) (hcp : ∀ W,Calls prog 85 #[.string (s.extract m s.size),.string ⟨#[45]⟩] W fun e w'=>e = .returned (.tuple #[.string r,.bool b])∧w'=W) (hr:r.size≠1) (hl : ∀ j (h:j<s.size),j<m→su (s[j].toNat:Int)=true) (hcl:su (s[m].toNat:Int)=false) (hz:s.size≤1000000) (w:Wq) :
  Calls prog 209 #[.string s] w (gp (Kl ⟨#[]⟩ 0 false) w):=by
 have HL:=ae (fun W b=>La b W)
 have HH:=ae hl
 have HZ:=ae hz
 have HM:=ae hlm
 have z0:((m:Int)==0)=false:=oo.2 om
 have HC:=ae hcp
 clear hcp
 have HR:=ae hr
 clear hr
 have z1:((m:Int)==(s.size:Int))=false:=oo.2 om
 have hms:m≤s.size:=by omega
 have hd:su (s[m].toNat:Int)=false:=hcl
 clear hz hl hcl
 go_enter func209,ntmps209
 go_wp2_with fail
 go_loop [4] (fun i => ∃ k:Nat,k≤m∧i = .int .i64 k) (fun i=>m-(intOf i).toNat)
 case atStart=>exact⟨0,ug _,rfl⟩
 case round =>
  obtain⟨k,hk,rfl⟩:=hrel
  by_cases g:k<m
  ·
   have hlt:k<s.size:=by omega
   have e1:=(aa HH) k hlt g;have HG:=ae g;have hz2:=aa HZ;clear hd
   go_wp2_with (go_at_call 235;refine((aa HL) _ _).mono ?_;rintro e w' ⟨rfl,rfl⟩;rw[e1])
   go_round
   case rel=>exact⟨k+1,by have:=aa HG;omega,by go_num⟩
   case measure=>have:=aa HG;simp[intOf];omega
  ·
   obtain rfl:k=m:=by omega
   go_wp2_with (go_at_call 235;refine((aa HL) _ _).mono ?_;rintro e w' ⟨rfl,rfl⟩;generalize hx:su _=x;obtain rfl:x=false:=hx.symm.trans hd)
   refine((aa HC) _).mono ?_
   rintro e w' ⟨rfl,rfl⟩
   dsimp only
   have hq:((r.size:Int) != 1)=true:=by have:=aa HR;simp only[aes,ne_eq];omega
   go_wp2_with fail;exact bodyPost_ret (v := .tuple #[.agg #[.string ⟨#[]⟩,.int .i64 0],.bool false]) (by simp[results,results209,go_sem]) rfl ⟨_,rfl,ic (df _ _) _,Qw⟩
theorem cds (s:ByteArray) (m:Nat) {b:Bool} (hlm:m<s.size) (h0:0<m) (hcp : ∀ W,Calls prog 85 #[.string (s.extract m s.size),.string ⟨#[45]⟩] W fun e w'=>e = .returned (.tuple #[.string r,.bool b])∧w'=W) (hr:r.size=1 ∧ ∀ h:0<r.size,r[0]=c) (hc:c.toNat<49) (hl : ∀ j (h:j<s.size),j<m→su (s[j].toNat:Int)=true) (hcl:su (s[m].toNat:Int)=false) (hz:s.size≤1000000) (w:Wq) :
  Calls prog 209 #[.string s] w (gp (Kl ⟨#[]⟩ 0 false) w):=by
 have HL:=ae (fun W b=>La b W)
 have HH:=ae hl
 have HZ:=ae hz
 have HM:=ae hlm
 have z0:((m:Int)==0)=false:=oo.2 om
 have HC:=ae hcp
 clear hcp
 have HR:=ae hr
 have HX:=ae hc
 clear hr hc
 have z1:((m:Int)==(s.size:Int))=false:=oo.2 om
 have hms:m≤s.size:=by omega
 have hd:su (s[m].toNat:Int)=false:=hcl
 clear hz hl hcl
 go_enter func209,ntmps209
 go_wp2_with fail
 go_loop [4] (fun i => ∃ k:Nat,k≤m∧i = .int .i64 k) (fun i=>m-(intOf i).toNat)
 case atStart=>exact⟨0,ug _,rfl⟩
 case round =>
  obtain⟨k,hk,rfl⟩:=hrel
  by_cases g:k<m
  ·
   have hlt:k<s.size:=by omega
   have e1:=(aa HH) k hlt g;have HG:=ae g;have hz2:=aa HZ;clear hd
   go_wp2_with (go_at_call 235;refine((aa HL) _ _).mono ?_;rintro e w' ⟨rfl,rfl⟩;rw[e1])
   go_round
   case rel=>exact⟨k+1,by have:=aa HG;omega,by go_num⟩
   case measure=>have:=aa HG;simp[intOf];omega
  ·
   obtain rfl:k=m:=by omega
   go_wp2_with (go_at_call 235;refine((aa HL) _ _).mono ?_;rintro e w' ⟨rfl,rfl⟩;generalize hx:su _=x;obtain rfl:x=false:=hx.symm.trans hd)
   refine((aa HC) _).mono ?_
   rintro e w' ⟨rfl,rfl⟩
   dsimp only
   have hrs:=(aa HR).1;have hq:((r.size:Int) != 1)=false:=by rw[hrs];rfl
   have hr1:0<r.size:=by omega
   have Vo:r[0]'hr1=c:=(aa HR).2 hr1;have e4:decide ((r[0].toNat:Int)<49)=true:=dm (by have:=aa HX;rw[Vo];omega);clear Vo hrs;go_wp2_with fail;exact bodyPost_ret (v := .tuple #[.agg #[.string ⟨#[]⟩,.int .i64 0],.bool false]) (by simp[results,results209,go_sem]) rfl ⟨_,rfl,ic (df _ _) _,Qw⟩
theorem bvx (s:ByteArray) (m:Nat) {b:Bool} (hlm:m<s.size) (h0:0<m) (hcp : ∀ W,Calls prog 85 #[.string (s.extract m s.size),.string ⟨#[45]⟩] W fun e w'=>e = .returned (.tuple #[.string r,.bool b])∧w'=W) (hr:r.size=1 ∧ ∀ h:0<r.size,r[0]=c) (hc:57<c.toNat) (hl : ∀ j (h:j<s.size),j<m→su (s[j].toNat:Int)=true) (hcl:su (s[m].toNat:Int)=false) (hz:s.size≤1000000) (w:Wq) :
  Calls prog 209 #[.string s] w (gp (Kl ⟨#[]⟩ 0 false) w):=by
 have HL:=ae (fun W b=>La b W)
 have HH:=ae hl
 have HZ:=ae hz
 have HM:=ae hlm
 have z0:((m:Int)==0)=false:=oo.2 om
 have HC:=ae hcp
 clear hcp
 have HR:=ae hr
 have HX:=ae hc
 clear hr hc
 have z1:((m:Int)==(s.size:Int))=false:=oo.2 om
 have hms:m≤s.size:=by omega
 have hd:su (s[m].toNat:Int)=false:=hcl
 clear hz hl hcl
 go_enter func209,ntmps209
 go_wp2_with fail
 go_loop [4] (fun i => ∃ k:Nat,k≤m∧i = .int .i64 k) (fun i=>m-(intOf i).toNat)
 case atStart=>exact⟨0,ug _,rfl⟩
 case round =>
  obtain⟨k,hk,rfl⟩:=hrel
  by_cases g:k<m
  ·
   have hlt:k<s.size:=by omega
   have e1:=(aa HH) k hlt g;have HG:=ae g;have hz2:=aa HZ;clear hd
   go_wp2_with (go_at_call 235;refine((aa HL) _ _).mono ?_;rintro e w' ⟨rfl,rfl⟩;rw[e1])
   go_round
   case rel=>exact⟨k+1,by have:=aa HG;omega,by go_num⟩
   case measure=>have:=aa HG;simp[intOf];omega
  ·
   obtain rfl:k=m:=by omega
   go_wp2_with (go_at_call 235;refine((aa HL) _ _).mono ?_;rintro e w' ⟨rfl,rfl⟩;generalize hx:su _=x;obtain rfl:x=false:=hx.symm.trans hd)
   refine((aa HC) _).mono ?_
   rintro e w' ⟨rfl,rfl⟩
   dsimp only
   have hrs:=(aa HR).1;have hq:((r.size:Int) != 1)=false:=by rw[hrs];rfl
   have hr1:0<r.size:=by omega
   have Vo:r[0]'hr1=c:=(aa HR).2 hr1;have e4:decide ((r[0].toNat:Int)<49)=false:=dw (by have:=aa HX;rw[Vo];omega);have e5:decide ((57:Int)<(r[0].toNat:Int))=true:=dm (by have:=aa HX;rw[Vo];omega);clear Vo hrs;go_wp2_with fail;exact bodyPost_ret (v := .tuple #[.agg #[.string ⟨#[]⟩,.int .i64 0],.bool false]) (by simp[results,results209,go_sem]) rfl ⟨_,rfl,ic (df _ _) _,Qw⟩
theorem chk (s:ByteArray) (m:Nat) (hlm:m<s.size) (h0:0<m) (hcp : ∀ W,Calls prog 85 #[.string (s.extract m s.size),.string ⟨#[45]⟩] W fun e w'=>e = .returned (.tuple #[.string r,.bool false])∧w'=W) (hr:r.size=1 ∧ ∀ h:0<r.size,r[0]=c) (hc:49≤c.toNat∧c.toNat≤57) (hp:p=(c.toNat:Int)-48) (hl : ∀ j (h:j<s.size),j<m→su (s[j].toNat:Int)=true) (hcl:su (s[m].toNat:Int)=false) (hz:s.size≤1000000) (w:Wq) :
  Calls prog 209 #[.string s] w (gp (Kl (s.extract 0 m) p true) w):=by
 have HL:=ae (fun W b=>La b W)
 have HH:=ae hl
 have HZ:=ae hz
 have HM:=ae hlm
 have z0:((m:Int)==0)=false:=oo.2 om
 have HC:=ae hcp
 clear hcp
 have HR:=ae hr
 have HX:=ae hc
 have HP:=ae hp
 clear hr hc hp
 have z1:((m:Int)==(s.size:Int))=false:=oo.2 om
 have hms:m≤s.size:=by omega
 have hd:su (s[m].toNat:Int)=false:=hcl
 clear hz hl hcl
 go_enter func209,ntmps209
 go_wp2_with fail
 go_loop [4] (fun i => ∃ k:Nat,k≤m∧i = .int .i64 k) (fun i=>m-(intOf i).toNat)
 case atStart=>exact⟨0,ug _,rfl⟩
 case round =>
  obtain⟨k,hk,rfl⟩:=hrel
  by_cases g:k<m
  ·
   have hlt:k<s.size:=by omega
   have e1:=(aa HH) k hlt g;have HG:=ae g;have hz2:=aa HZ;clear hd
   go_wp2_with (go_at_call 235;refine((aa HL) _ _).mono ?_;rintro e w' ⟨rfl,rfl⟩;rw[e1])
   go_round
   case rel=>exact⟨k+1,by have:=aa HG;omega,by go_num⟩
   case measure=>have:=aa HG;simp[intOf];omega
  ·
   obtain rfl:k=m:=by omega
   go_wp2_with (go_at_call 235;refine((aa HL) _ _).mono ?_;rintro e w' ⟨rfl,rfl⟩;generalize hx:su _=x;obtain rfl:x=false:=hx.symm.trans hd)
   refine((aa HC) _).mono ?_
   rintro e w' ⟨rfl,rfl⟩
   dsimp only
   have hrs:=(aa HR).1;have hq:((r.size:Int) != 1)=false:=by rw[hrs];rfl
   have hr1:0<r.size:=by omega
   have Vo:r[0]'hr1=c:=(aa HR).2 hr1;have e4:decide ((r[0].toNat:Int)<49)=false:=dw (by have:=aa HX;rw[Vo];omega);have e5:decide ((57:Int)<(r[0].toNat:Int))=false:=dw (by have:=aa HX;rw[Vo];omega);have e6:IntKind.u8.wrap ((r[0].toNat:Int)-48)=p:=by rw[Vo,aa HP];exact wrap_u8 (by have:=aa HX;omega) (by have:=aa HX;omega)
   have e7:IntKind.i64.wrap p=p:=Es _ (by have:=aa HX;have:=aa HP;omega);have e8:wrap64 p=p:=Cs _ (by have:=aa HX;have:=aa HP;omega);have e9:wrap64 (-p) = -p:=Cs _ (by have:=aa HX;have:=aa HP;omega);have e10:IntKind.i64.wrap (-p) = -p:=Es _ (by have:=aa HX;have:=aa HP;omega);clear Vo hrs;go_wp2_with fail;exact bodyPost_ret (v := .tuple #[.agg #[.string (s.extract 0 k),.int .i64 p],.bool true]) (by simp[results,results209,go_sem]) rfl ⟨_,rfl,ic (df _ _) _,Qw⟩
theorem cdu (s:ByteArray) (m:Nat) (hlm:m<s.size) (h0:0<m) (hcp : ∀ W,Calls prog 85 #[.string (s.extract m s.size),.string ⟨#[45]⟩] W fun e w'=>e = .returned (.tuple #[.string r,.bool true])∧w'=W) (hr:r.size=1 ∧ ∀ h:0<r.size,r[0]=c) (hc:49≤c.toNat∧c.toNat≤57) (hp:p=(c.toNat:Int)-48) (hl : ∀ j (h:j<s.size),j<m→su (s[j].toNat:Int)=true) (hcl:su (s[m].toNat:Int)=false) (hz:s.size≤1000000) (w:Wq) :
  Calls prog 209 #[.string s] w (gp (Kl (s.extract 0 m) (-p) true) w):=by
 have HL:=ae (fun W b=>La b W)
 have HH:=ae hl
 have HZ:=ae hz
 have HM:=ae hlm
 have z0:((m:Int)==0)=false:=oo.2 om
 have HC:=ae hcp
 clear hcp
 have HR:=ae hr
 have HX:=ae hc
 have HP:=ae hp
 clear hr hc hp
 have z1:((m:Int)==(s.size:Int))=false:=oo.2 om
 have hms:m≤s.size:=by omega
 have hd:su (s[m].toNat:Int)=false:=hcl
 clear hz hl hcl
 go_enter func209,ntmps209
 go_wp2_with fail
 go_loop [4] (fun i => ∃ k:Nat,k≤m∧i = .int .i64 k) (fun i=>m-(intOf i).toNat)
 case atStart=>exact⟨0,ug _,rfl⟩
 case round =>
  obtain⟨k,hk,rfl⟩:=hrel
  by_cases g:k<m
  ·
   have hlt:k<s.size:=by omega
   have e1:=(aa HH) k hlt g;have HG:=ae g;have hz2:=aa HZ;clear hd
   go_wp2_with (go_at_call 235;refine((aa HL) _ _).mono ?_;rintro e w' ⟨rfl,rfl⟩;rw[e1])
   go_round
   case rel=>exact⟨k+1,by have:=aa HG;omega,by go_num⟩
   case measure=>have:=aa HG;simp[intOf];omega
  ·
   obtain rfl:k=m:=by omega
   go_wp2_with (go_at_call 235;refine((aa HL) _ _).mono ?_;rintro e w' ⟨rfl,rfl⟩;generalize hx:su _=x;obtain rfl:x=false:=hx.symm.trans hd)
   refine((aa HC) _).mono ?_
   rintro e w' ⟨rfl,rfl⟩
   dsimp only
   have hrs:=(aa HR).1;have hq:((r.size:Int) != 1)=false:=by rw[hrs];rfl
   have hr1:0<r.size:=by omega
   have Vo:r[0]'hr1=c:=(aa HR).2 hr1;have e4:decide ((r[0].toNat:Int)<49)=false:=dw (by have:=aa HX;rw[Vo];omega);have e5:decide ((57:Int)<(r[0].toNat:Int))=false:=dw (by have:=aa HX;rw[Vo];omega);have e6:IntKind.u8.wrap ((r[0].toNat:Int)-48)=p:=by rw[Vo,aa HP];exact wrap_u8 (by have:=aa HX;omega) (by have:=aa HX;omega)
   have e7:IntKind.i64.wrap p=p:=Es _ (by have:=aa HX;have:=aa HP;omega);have e8:wrap64 p=p:=Cs _ (by have:=aa HX;have:=aa HP;omega);have e9:wrap64 (-p) = -p:=Cs _ (by have:=aa HX;have:=aa HP;omega);have e10:IntKind.i64.wrap (-p) = -p:=Es _ (by have:=aa HX;have:=aa HP;omega);clear Vo hrs;go_wp2_with fail;exact bodyPost_ret (v := .tuple #[.agg #[.string (s.extract 0 k),.int .i64 (-p)],.bool true]) (by simp[results,results209,go_sem]) rfl ⟨_,rfl,ic (df _ _) _,Qw⟩
theorem bvy (s:ByteArray) (h0:s.size=0) (w:Wq) :
  Calls prog 209 #[.string s] w (gp (Kl ⟨#[]⟩ 0 false) w):=by
 go_enter func209,ntmps209
 go_wp2_with fail
 go_loop [4] (fun i => ∃ k:Nat,k≤s.size∧i = .int .i64 k) (fun i=>s.size-(intOf i).toNat)
 case atStart=>exact⟨0,ug _,rfl⟩
 case round =>
  obtain⟨k,hk,rfl⟩:=hrel;obtain rfl:k=0:=by omega
  have hlt : ¬ 0<s.size:=by omega
  go_wp2_with fail;exact bodyPost_ret (v := .tuple #[.agg #[.string ⟨#[]⟩,.int .i64 0],.bool false]) (by simp[results,results209,go_sem]) rfl ⟨_,rfl,ic (df _ _) _,Qw⟩
end Sb



namespace Sb
end Sb


namespace Sb
theorem zb (hf:Li f) (hsg:sg=1∨sg = -1) : ∀ j,j<7→wrap64 (sg*f j)=(fun j=>f j*sg) j ∧ -9≤(fun j=>f j*sg) j∧(fun j=>f j*sg) j≤9:=fun j hj=>by
 have h1:=hf j hj
 show wrap64 (sg*f j)=f j*sg ∧ -9≤f j*sg∧f j*sg≤9
 rcases hsg with rfl|rfl
 ·
  exact⟨(Cs _ om).trans om,by omega,by omega⟩
 ·
  exact⟨(Cs _ om).trans om,by omega,by omega⟩
end Sb

namespace Sb
theorem bsg : ∀ {x r:List UInt8},c ∉ x→Lib.indexByte (x++c::r) c=(x.length:Int)
 | [],r,_=>by rw[Pm,Lib.indexByte];simp
 | b::x,r,h=>by
  have h1 : ¬ b=c:=fun e=>h (by rw[e];exact Ah)
  have h2:=bsg (x:=x) (r:=r) (fun e=>h (Fw _ e));have h3 : ¬ ((x.length:Int) = -1):=by omega
  rw[Ut,Lib.indexByte,h2];simp[h1,h3]
theorem bxb (x y:List UInt8) (r:List (List UInt8)):Lib.join (x::y::r) [46]=x++46::Lib.join (y::r) [46]:=by
 rw[amu,amu]
 unfold Lib.joinTail
 simp
theorem atg : ∀ {ps:List (List UInt8)},ps≠[]→(∀ p∈ps,(46:UInt8) ∉ p)→Lib.splitK [46] 0 ((Lib.join ps [46]).count 46) (Lib.join ps [46])=ps
 | [],h,_=>absurd rfl h
 | [x],_,h=>by
  rw[Lib.join_one,List.count_eq_zero.2 (h x Ah)];rfl
 | x::y::r,_,h=>by
  have hx:=h x Ah;have ih:=atg (ps:=y::r) mi (fun p hp=>h p (Fw _ hp));rw[bxb];have hc:(x++46::Lib.join (y::r) [46]).count 46=(Lib.join (y::r) [46]).count 46+1:=by
   rw[List.count_append,List.count_eq_zero.2 hx,List.count_cons_self];omega
  have hi:Lib.index (x++46::Lib.join (y::r) [46]) [46]=(x.length:Int):=by rw[Lib.index_one,bsg hx]
  rw[hc,Lib.splitK,hi,if_neg mi,agm,Hr];have e1:(x++46::Lib.join (y::r) [46]).take x.length=x:=List.take_left;have e2:(x++46::Lib.join (y::r) [46]).drop (x.length+[46].length)=Lib.join (y::r) [46]:=by
   rw[← arj,List.drop_left];rfl
  rw[e1];exact Ez (x :: ·) ((Ez (Lib.splitK [46] 0 _) e2).trans ih)
theorem bgz {ps:List (List UInt8)} (h0:ps≠[]) (h : ∀ p∈ps,(46:UInt8) ∉ p):Lib.splitB ⟨#[46]⟩ 0 (Lib.countB (tx (Lib.join ps [46])) ⟨#[46]⟩) (tx (Lib.join ps [46]))=ps.map tx:=by
 have hc:Lib.countB (tx (Lib.join ps [46])) ⟨#[46]⟩=(Lib.join ps [46]).count 46:=Lib.count_one 46 (Lib.join ps [46])
 have h1:=Lib.splitB_data ⟨#[46]⟩ 0 (Lib.countB (tx (Lib.join ps [46])) ⟨#[46]⟩) (tx (Lib.join ps [46]))
 rw[hc]at h1
 have h2:=h1.trans (atg h0 h)
 rw[hc]
 have h3:=Ez (List.map tx) h2
 rw[List.map_map]at h3
 have h4:(tx ∘ fun(x:ByteArray)=>x.data.toList)=id:=funext fun s=>Fz s
 rw[h4,List.map_id]at h3
 exact h3
end Sb

namespace Sb
def Cc (c:UInt8):Bool:=su (c.toNat:Int)
def ako (r:List UInt8):Bool×List UInt8:=if r.head? = some 45 then(true,r.tail)else(false,r)
def digU (b:Bool):List UInt8→Option Int
 | [c]=>if 49≤c.toNat∧c.toNat≤57 then some (if b then -((c.toNat:Int)-48)else(c.toNat:Int)-48)else none
 | _=>none
def Ow (l:List UInt8):Option (List UInt8×Int) :=
 if l.takeWhile Cc=[]then none
 else if l.dropWhile Cc=[]then some (l,1)
 else(digU (ako (l.dropWhile Cc)).1 (ako (l.dropWhile Cc)).2).map fun p=>(l.takeWhile Cc,p)
theorem bbs : ∀ (l:List UInt8) (j:Nat),j<(l.takeWhile Cc).length → ∀ h:j<l.length,Cc l[j]=true
 | [],j,h,_=>absurd h (arv _)
 | c::l,j,h,h2=>by
  by_cases g:Cc c=true
  ·
   rw[asl g]at h
   cases j with
   | zero=>exact g
   | succ j=>exact bbs l j (by simpa using h) (by simpa using h2)
  ·
   rw[asn g]at h;exact absurd h (arv _)
theorem awq : ∀ l:List UInt8,l.dropWhile Cc=l.drop (l.takeWhile Cc).length
 | []=>rfl
 | c::l=>by
  by_cases g:Cc c=true
  ·
   rw[bae g,asl g,Db,bkq];exact awq l
  ·
   rw[baf g,asn g];rfl
theorem bii (l:List UInt8):l.takeWhile Cc=l.take (l.takeWhile Cc).length:=by
 have h:=bbo (p:=Cc) (l:=l)
 have h2:l.take (l.takeWhile Cc).length=(l.takeWhile Cc++l.dropWhile Cc).take (l.takeWhile Cc).length:=by rw[h]
 rw[h2,List.take_left]
theorem dw_head {l:List UInt8} {r:List UInt8} (h:l.dropWhile Cc=c::r):Cc c=false:=by
 induction l with
 | nil=>cases h
 | cons x l ih =>
  by_cases g:Cc x=true
  ·
   rw[bae g]at h;exact ih h
  ·
   rw[baf g]at h
   cases h
   simpa using g
def cmc (o:Option (List UInt8×Int)):Wq→Vq→Prop:=match o with
 | some (a,p)=>Kl (tx a) p true
 | none=>Kl ⟨#[]⟩ 0 false
theorem brb (s:ByteArray) (hz:s.size≤1000000) (w:Wq):Calls prog 209 #[.string s] w (gp (cmc (Ow s.data.toList)) w):=by
 obtain⟨l,hl⟩ : ∃ l,l=s.data.toList:=⟨_,rfl⟩
 have hs:s.size=l.length:=by rw[hl,oq]
 obtain⟨m,hm⟩ : ∃ m,m=(l.takeWhile Cc).length:=⟨_,rfl⟩
 have hml:m≤l.length:=by
  have h:=Ez List.length (bbo (p:=Cc) (l:=l));rw[Bj]at h;omega
 have hlet : ∀ j (h:j<s.size),j<m→su (s[j].toNat:Int)=true:=fun j h hj=>by
  have h2:j<l.length:=by omega
  have h3:=bbs l j om h2;subst hl;exact h3
 have hdw:=awq l
 rw[← hm]at hdw
 rw[← hl]
 cases hr:l.dropWhile Cc with
 | nil =>
  have he:m=l.length:=by
   rw[hr]at hdw;have:=Ez List.length hdw;rw[Kv]at this;have h0:([]:List UInt8).length=0:=rfl;omega
  by_cases h0:l.takeWhile Cc=[]
  ·
   have hl0:l.length=0:=by rw[← he,hm,h0];rfl
   unfold Ow;rw[if_pos h0];exact bvy s om w
  ·
   unfold Ow;rw[if_neg h0,if_pos hr];have h9:tx l=s:=by rw[hl];exact Fz s
   show Calls _ _ _ _ (gp (Kl (tx l) 1 true) w);rw[h9];have hp:0<m:=by rw[hm];exact bbq.2 h0
   exact awd s (fun j h=>hlet j h om) om hz w
 | cons c r =>
  have hlm:m<s.size:=by
   rw[hr]at hdw;have:=Ez List.length hdw;rw[Kv,Db]at this;omega
  have hcl:su (s[m].toNat:Int)=false:=by
   have h1:=dw_head hr;have h2:l[m]? = some c:=by
    have h3:(l.drop m)[0]? = some c:=by rw[← hdw,hr];rfl
    rw[Sd]at h3;exact h3
   have h4:l[m]'(by omega)=c:=by
    rw[Cj om]at h2;exact Az h2
   subst hl;have h5:s[m]=c:=h4;rw[h5];exact h1
  by_cases h0:l.takeWhile Cc=[]
  ·
   unfold Ow;rw[if_pos h0];exact cdr s m hlm (by rw[hm,h0];rfl) hlet hcl hz w
  ·
   have hp:0<m:=by rw[hm];exact bbq.2 h0
   unfold Ow;rw[if_neg h0,hr,if_neg mi];have hex:(s.extract m s.size).data.toList=c::r:=by
    have h1:(s.extract m s.size).data.toList=(s.data.extract m s.size).toList:=by rw[bap]
    rw[h1,bkv,← hr,hdw,hl,bko,Fb (by rw[Kv,← hl];omega)]
   have bxz:s.extract m s.size=tx (c::r):=by rw[← Fz (s.extract m s.size),hex];rfl
   have e0 : ∀ a b:UInt8,Cc a=Cc b→True:=fun _ _ _=>trivial
   have hname:tx (l.takeWhile Cc)=s.extract 0 m:=by
    rw[← Fz (s.extract 0 m),Lib.extract_from_zero,bii,← hm,hl];rfl
   have fin : ∀ (b:Bool) (d:List UInt8),(∀ W,Calls prog 85 #[.string (s.extract m s.size),.string ⟨#[45]⟩] W fun e w'=>e = .returned (.tuple #[.string (tx d),.bool b])∧w'=W) →
     Calls prog 209 #[.string s] w (gp (cmc ((digU b d).map fun p=>(l.takeWhile Cc,p))) w):=fun b d hcp=>by
    by_cases g1:d.length=1
    ·
     obtain⟨x,rfl⟩:=List.length_eq_one_iff.1 g1;have hx:(tx [x]).size=1 ∧ ∀ h:0<(tx [x]).size,(tx [x])[0]=x:=⟨rfl,fun _=>rfl⟩
     by_cases g2:x.toNat<49
     ·
      rw[show digU b [x]=none from if_neg om];exact cds s m hlm hp hcp hx g2 hlet hcl hz w
     ·
      by_cases g3:57<x.toNat
      ·
       rw[show digU b [x]=none from if_neg om];exact bvx s m hlm hp hcp hx g3 hlet hcl hz w
      ·
       rw[show digU b [x]=_ from if_pos ⟨by omega,by omega⟩];show Calls _ _ _ _ (gp (Kl (tx (l.takeWhile Cc)) _ true) w);rw[hname]
       cases b with
       | false=>exact chk s m hlm hp hcp hx ⟨by omega,by omega⟩ rfl hlet hcl hz w
       | true=>exact cdu s m hlm hp hcp hx ⟨by omega,by omega⟩ rfl hlet hcl hz w
    ·
     have hd:digU b d=none:=by
      match d,g1 with
      | [],_=>rfl
      | [x],g1=>exact absurd rfl g1
      | x::y::t,_=>rfl
     rw[hd];exact cdt s m hlm hp hcp (by rw[xw];exact g1) hlet hcl hz w
   by_cases g:c=45
   ·
    have hsg:ako (c::r)=(true,r):=by unfold ako;rw[if_pos (by rw[g];rfl)];rfl
    rw[hsg];exact fin true r fun W=>by
     have h:=bfj (s.extract m s.size) (by rw[hex,g];rfl) W;rw[hex]at h;exact h
   ·
    have hsg:ako (c::r)=(false,c::r):=by unfold ako;rw[if_neg (by intro h;exact g (Az h))]
    rw[hsg];exact fin false (c::r) fun W=>by
     have h:=aws (s.extract m s.size) (by rw[hex];intro h;exact g (Az h)) W;rw[bxz]at h ⊢;exact h
end Sb

namespace Sb
theorem cdy (s:ByteArray) (ps:List ByteArray) (fs:List (ByteArray×Int)) (l:List (ByteArray×Int)) (sg:Int) (v:Vq) (w0 w:Wq)
  (hsp:Lib.splitB ⟨#[46]⟩ 0 (Lib.countB s ⟨#[46]⟩) s=ps) (hs:s.size≤600) (hlen:fs.length<ps.length) (hl:l.length≤1000000)
  (hrf : ∀ (k:Nat) (p:ByteArray) (f:ByteArray×Int),ps[k]? = some p→fs[k]? = some f → ∀ W,Calls prog 209 #[.string p] W (gp (Kl f.1 f.2 true) W))
  (hbad : ∀ p,ps[fs.length]? = some p → ∀ W,Calls prog 209 #[.string p] W (gp (Kl ⟨#[]⟩ 0 false) W))
  (hown:Dz w w0.heap.size v l) (hb0:Below w0.heap.size w0 w) :
  Calls prog 170 #[v,.string s,.int .i64 sg] w fun e w'=>e = .returned (.tuple #[.slice none 0 0,.bool false])∧Below w0.heap.size w0 w':=by
 have hcount:Lib.countB s ⟨#[46]⟩+1=ps.length:=by rw[← hsp];exact(Lib.splitB_all ⟨#[46]⟩ (gu 1) 0 _ s rfl).symm
 have hps:ps.length≤601:=by
  have:=bah ⟨#[46]⟩ (gu 1) s.size s (gu _);omega
 have HS:=ae (bpt s 46 w om)
 rw[hsp,hcount]at HS
 obtain⟨gs,hgs⟩ : ∃ gs,gs=fs.map (fun(f:ByteArray×Int)=>(f.1,wrap64 (f.2*sg))):=⟨_,rfl⟩
 have hg : ∀ (k:Nat) (f:ByteArray×Int),fs[k]? = some f→gs[k]? = some (f.1,wrap64 (f.2*sg)):=fun k f hf=>by rw[hgs,aad,hf];rfl
 have hgl:gs.length=fs.length:=by rw[hgs,Rm]
 obtain⟨N,hN⟩ : ∃ N,N=ps.length:=⟨_,rfl⟩
 obtain⟨n,hn⟩ : ∃ n,n=fs.length:=⟨_,rfl⟩
 rw[← hN]at HS hlen hps
 rw[← hn]at hgl hlen hbad
 have HRF:=ae hrf
 have HB:=ae hbad
 have HG:=ae (And.intro hg (And.intro hgl hn))
 have HN:=ae (And.intro hN hlen)
 obtain⟨i0,hi0,hz0,hz1,hz2⟩:=info_parts bjg
 clear hsp hcount hrf hgs hg hgl hlen hn hs hN hbad
 go_enter func170,ntmps170
 go_wp2_with fail
 refine(aa HS).mono ?_
 rintro e W1 ⟨rfl,hW1⟩
 have hP:W1.heap[w.heap.size]? = some (.cells (ps.map Value.string).toArray 9 (0,0)):=by rw[hW1];exact heap_alloc_new w _
 have hbW:Below w.heap.size w W1:=by rw[hW1];exact ic (df _ _) _
 replace hown:=hown.below hbW
 replace hb0:=az hb0 hbW
 obtain⟨pb,hpb⟩ : ∃ pb,pb=w.heap.size:=⟨_,rfl⟩
 rw[← hpb]at hP
 rw[← hpb]
 clear hW1 hbW HS hpb
 try dsimp only
 go_wp2_with fail
 go_loopw [0,15] (fun lv kv wr => ∃ k:Nat,k≤n∧kv = .int .i64 ((k:Nat):Int)∧Dz wr w0.heap.size lv (l++gs.take k)∧wr.heap[pb]? = some (.cells (ps.map Value.string).toArray 9 (0,0))∧Below w0.heap.size w0 wr) (fun _ kv _=>n-(intOf kv).toNat)
 case atStart=>exact⟨0,ug _,rfl,by simpa using hown,hP,hb0⟩
 case round =>
  clear hown hP hb0;obtain⟨k,hk,rfl,hown,hP,hb0⟩:=hrel;have cyx:k<N:=by have:=(aa HN).2;omega
  by_cases hkn:k<n
  ·
   have HK:=ae hkn;clear hkn;obtain⟨p,hp⟩ : ∃ p,ps[k]? = some p:=⟨_,Cj (by have:=(aa HN).1;omega)⟩
   obtain⟨f,hf⟩ : ∃ f,fs[k]? = some f:=⟨_,Cj (by have:=(aa HG).2.2;have:=aa HK;omega)⟩
   have Ki:=ae ((aa HG).1 k f hf);have HR:=ae ((aa HRF) k p f hp hf);have hc:wr.cell? ⟨pb,k,none⟩=some (.string p):=by rw[ag hP];simp[hp]
   clear hp hf;go_wp2_with fail;refine((aa HR) _).mono ?_
   rintro e W2 ⟨u,rfl,hb2,hu⟩;obtain rfl:=aqh hu;replace hown:=hown.below hb2;replace hP:=(hb2.block _ (lt_of_block hP)).trans hP;replace hb0:=az hb0 hb2;clear hu hb2 hc
   try dsimp only
   go_wp2_with (first|(at_builtin;go_loud (refine wpList_append_own _ rfl _ _ 127 rfl w0.heap.size 181 i0 (.agg #[.string ⟨#[]⟩,.int .i64 0]) 2 24 underlying127 hi0 hz0 hz1 hz2 rfl de _ _ _ rfl ((hown.alloc _).alloc _) ⟨_,0,none⟩ 1 1 [.string f.1,.int .i64 (wrap64 (f.2*sg))] rfl rfl (axj (by simp only[yw])) ane (by unfold maxLen;simp;omega) (by simp;omega) (by simp;have:=hb0.size;omega) ?_;intro v' w1 hown1 hgrow1 _))|fail)
   have hbX:Below W2.heap.size W2 ((W2.alloc (.cells #[.string f.1,.int .i64 (wrap64 (f.2*sg))] 181)).alloc (.cells #[.string f.1,.int .i64 (wrap64 (f.2*sg))] 181)):=ic (ic (df _ _) _) _;have hne:=hown.ne hP;have hb1:=az hb0 hbX;have ht:gs.take (k+1)=gs.take k++[(f.1,wrap64 (f.2*sg))]:=by rw[Pk,aa Ki];rfl
   refine⟨⟨k+1,by have:=aa HK;omega,by push_cast;rfl,?_,?_,hb1.grown hgrow1 hb1.size hown.ge⟩,by have:=aa HK;simp[intOf];omega⟩
   ·
    rw[ht,← Lm];unfold Dz;rw[Xi (l++gs.take k),show(l++gs.take k++[(f.1,wrap64 (f.2*sg))]).length=(l++gs.take k).length+1 from Bj];exact hown1
   ·
    have hlt1:pb<W2.heap.size:=lt_of_block hP;exact(hgrow1.block pb (zh hlt1 hbX.size) hne).trans ((hbX.block pb hlt1).trans hP)
  ·
   obtain rfl:k=n:=by omega
   clear hkn;obtain⟨p,hp⟩ : ∃ p,ps[k]? = some p:=⟨_,Cj (by have:=(aa HN).1;omega)⟩
   have HR:=ae ((aa HB) p hp);have hc:wr.cell? ⟨pb,k,none⟩=some (.string p):=by rw[ag hP];simp[hp]
   clear hp;go_wp2_with fail;refine((aa HR) _).mono ?_
   rintro e W2 ⟨u,rfl,hb2,hu⟩;obtain rfl:=aqh hu;replace hb0:=az hb0 hb2;clear hu hb2 hc hown hP
   try dsimp only
   go_wp2_with fail
   go_ret2
   exact⟨rfl,ic hb0 _⟩
end Sb

namespace Sb
theorem axw (s a b:ByteArray) (d:Bool) (w:Wq)
  (hcut : ∀ W,Calls prog 155 #[.string s,.string ⟨#[47]⟩] W fun e w'=>e = .returned (.tuple #[.string a,.string b,.bool d])∧Below W.heap.size W w') (ha:(a.toList==[49])=false)
  (h1 : ∀ w0 W v,Dz W w0.heap.size v []→Below w0.heap.size w0 W→Calls prog 170 #[v,.string a,.int .i64 1] W fun e w'=>e = .returned (.tuple #[.slice none 0 0,.bool false])∧Below w0.heap.size w0 w') :
  Calls prog 115 #[.string s] w (gp (ko [ax (.slice none 0 0),ax (.bool false)]) w):=by
 have HC:=ae hcut
 have H1:=ae h1
 clear hcut h1
 go_enter func115,ntmps115
 go_wp2_with fail
 refine((aa HC) _).mono ?_
 rintro e W1 ⟨rfl,hb⟩
 try dsimp only
 go_wp2_with fail
 refine((aa H1) w W1 _ (Dz.nil _ _) hb).mono ?_
 rintro e W2 ⟨rfl,hbX⟩
 clear hb
 try dsimp only
 go_wp2_with fail
 go_ret2
 exact⟨_,rfl,hbX,[_,_],rfl,_,_,rfl,rfl,_,_,rfl,rfl,rfl⟩
theorem brl (s a b:ByteArray) (l1:List (ByteArray×Int)) (w:Wq)
  (hcut : ∀ W,Calls prog 155 #[.string s,.string ⟨#[47]⟩] W fun e w'=>e = .returned (.tuple #[.string a,.string b,.bool true])∧Below W.heap.size W w') (ha:(a.toList==[49])=false)
  (h1 : ∀ w0 W v,Dz W w0.heap.size v []→Below w0.heap.size w0 W→Calls prog 170 #[v,.string a,.int .i64 1] W fun e w'=>aiw w0 l1 e w')
  (h2 : ∀ w0 W v,Dz W w0.heap.size v l1→Below w0.heap.size w0 W→Calls prog 170 #[v,.string b,.int .i64 (-1)] W fun e w'=>e = .returned (.tuple #[.slice none 0 0,.bool false])∧Below w0.heap.size w0 w') :
  Calls prog 115 #[.string s] w (gp (ko [ax (.slice none 0 0),ax (.bool false)]) w):=by
 have HC:=ae hcut
 have H1:=ae h1
 have H2:=ae h2
 clear hcut h1 h2
 go_enter func115,ntmps115
 go_wp2_with fail
 refine((aa HC) _).mono ?_
 rintro e W1 ⟨rfl,hb⟩
 try dsimp only
 go_wp2_with fail
 refine((aa H1) w W1 _ (Dz.nil _ _) hb).mono ?_
 rintro e W2 ⟨v1,rfl,hf1,hb1⟩
 try dsimp only
 go_wp2_with fail
 refine((aa H2) w W2 _ hf1 hb1).mono ?_
 rintro e W3 ⟨rfl,hbX⟩
 clear hb1 hf1
 clear hb
 try dsimp only
 go_wp2_with fail
 go_ret2
 exact⟨_,rfl,hbX,[_,_],rfl,_,_,rfl,rfl,_,_,rfl,rfl,rfl⟩
theorem brj (s a b:ByteArray) (w:Wq)
  (hcut : ∀ W,Calls prog 155 #[.string s,.string ⟨#[47]⟩] W fun e w'=>e = .returned (.tuple #[.string a,.string b,.bool true])∧Below W.heap.size W w') (ha:(a.toList==[49])=true)
  (h1 : ∀ w0 W v,Dz W w0.heap.size v []→Below w0.heap.size w0 W→Calls prog 170 #[v,.string b,.int .i64 (-1)] W fun e w'=>e = .returned (.tuple #[.slice none 0 0,.bool false])∧Below w0.heap.size w0 w') :
  Calls prog 115 #[.string s] w (gp (ko [ax (.slice none 0 0),ax (.bool false)]) w):=by
 have HC:=ae hcut
 have H1:=ae h1
 clear hcut h1
 go_enter func115,ntmps115
 go_wp2_with fail
 refine((aa HC) _).mono ?_
 rintro e W1 ⟨rfl,hb⟩
 try dsimp only
 go_wp2_with fail
 refine((aa H1) w W1 _ (Dz.nil _ _) hb).mono ?_
 rintro e W2 ⟨rfl,hbX⟩
 clear hb
 try dsimp only
 go_wp2_with fail
 go_ret2
 exact⟨_,rfl,hbX,[_,_],rfl,_,_,rfl,rfl,_,_,rfl,rfl,rfl⟩
end Sb

namespace Sb
theorem Ve (sep:ByteArray) (save:Nat) : ∀ (k:Nat) (s p:ByteArray),p∈Lib.splitB sep save k s→p.size≤s.size
 | 0,s,p,h=>by
  rw[Lib.splitB_zero,Rj]at h;rw[h];exact gu _
 | k+1,s,p,h=>by
  unfold Lib.splitB at h
  split at h
  ·
   rw[Rj]at h;rw[h];exact gu _
  ·
   rcases yx.1 h with h|h
   ·
    rw[h,bkt];omega
   ·
    have:=Ve sep save k _ p h;rw[bkt]at this;omega
def Ni (s:ByteArray):Option (ByteArray×Int):=(Ow s.data.toList).map fun e=>(tx e.1,e.2)
theorem bjn (hz:s.size≤1000000) {f:ByteArray×Int} (h:Ni s=some f) (W:Wq):Calls prog 209 #[.string s] W (gp (Kl f.1 f.2 true) W):=by
 have h1:=brb s hz W
 unfold Ni at h
 cases e:Ow s.data.toList with
 | none=>rw[e]at h;cases h
 | some v =>
  rw[e]at h h1
  cases h
  exact h1
theorem ceq (hz:s.size≤1000000) (h:Ni s=none) (W:Wq):Calls prog 209 #[.string s] W (gp (Kl ⟨#[]⟩ 0 false) W):=by
 have h1:=brb s hz W
 unfold Ni at h
 cases e:Ow s.data.toList with
 | none=>rw[e]at h1;exact h1
 | some v=>rw[e]at h;cases h
def readAll:List ByteArray→List (ByteArray×Int)×Bool
 | []=>([],true)
 | p::r=>match Ni p with
  | none=>([],false)
  | some f=>(f::(readAll r).1,(readAll r).2)
theorem anm {p:ByteArray} {r:List ByteArray} (h:Ni p=none):readAll (p::r)=([],false):=by
 show(match Ni p with|none=>([],false)|some f=>(f::(readAll r).1,(readAll r).2))=_
 rw[h]
theorem anl {p:ByteArray} {f:ByteArray×Int} {r:List ByteArray} (h:Ni p=some f):readAll (p::r)=(f::(readAll r).1,(readAll r).2):=by
 show(match Ni p with|none=>([],false)|some f=>(f::(readAll r).1,(readAll r).2))=_
 rw[h]
theorem afi : ∀ {ps:List ByteArray},(readAll ps).2=true→(readAll ps).1.length=ps.length
 | [],_=>rfl
 | p::r,h=>by
  cases e:Ni p with
  | none=>rw[anm e]at h;cases h
  | some f =>
   rw[anl e]at h ⊢;rw[Db,Db,afi h]
theorem Xc : ∀ {ps:List ByteArray},(readAll ps).2=false→(readAll ps).1.length<ps.length ∧ ∀ p,ps[(readAll ps).1.length]? = some p→Ni p=none
 | [],h=>by cases h
 | p::r,h=>by
  cases e:Ni p with
  | none =>
   rw[anm e];exact⟨Nat.succ_pos _,fun q hq=>by cases hq;exact e⟩
  | some f =>
   rw[anl e]at h ⊢;have ih:=Xc h;refine⟨by rw[Db,Db];have:=ih.1;omega,fun q hq=>ih.2 q ?_⟩
   rw[Db,List.getElem?_cons_succ]at hq;exact hq
theorem atp : ∀ {ps:List ByteArray} {k:Nat} {p:ByteArray} {f:ByteArray×Int},ps[k]? = some p→(readAll ps).1[k]? = some f→Ni p=some f
 | [],k,p,f,h,_=>by cases h
 | q::r,k,p,f,h,h2=>by
  cases e:Ni q with
  | none=>rw[anm e]at h2;cases h2
  | some g =>
   rw[anl e]at h2
   cases k with
   | zero =>
    cases h
    cases h2
    exact e
   | succ k=>exact atp (show r[k]? = some p from h) (show(readAll r).1[k]? = some f from by simpa using h2)
def parts (s:ByteArray):List ByteArray:=Lib.splitB ⟨#[46]⟩ 0 (Lib.countB s ⟨#[46]⟩) s
def ze (sg:Int) (l:List (ByteArray×Int)):List (ByteArray×Int):=l.map fun f=>(f.1,wrap64 (f.2*sg))
theorem abx (s:ByteArray) (l:List (ByteArray×Int)) (sg:Int) (hs:s.size≤600) (hl:l.length≤1000000) (h:(readAll (parts s)).2=true) (w0 W:Wq) (v:Vq) (hown:Dz W w0.heap.size v l) (hb:Below w0.heap.size w0 W) :
  Calls prog 170 #[v,.string s,.int .i64 sg] W fun e w'=>aiw w0 (l++ze sg (readAll (parts s)).1) e w' :=
 awg s (parts s) (readAll (parts s)).1 l sg v w0 W rfl hs (afi h) hl (fun k p f hp hf W=>bjn (by have:=Ve _ _ _ _ _ (Kt hp);omega) (atp hp hf) W) hown hb
theorem ahh (s:ByteArray) (l:List (ByteArray×Int)) (sg:Int) (hs:s.size≤600) (hl:l.length≤1000000) (h:(readAll (parts s)).2=false) (w0 W:Wq) (v:Vq) (hown:Dz W w0.heap.size v l) (hb:Below w0.heap.size w0 W) :
  Calls prog 170 #[v,.string s,.int .i64 sg] W fun e w'=>e = .returned (.tuple #[.slice none 0 0,.bool false])∧Below w0.heap.size w0 w' :=
 cdy s (parts s) (readAll (parts s)).1 l sg v w0 W rfl hs (Xc h).1 hl (fun k p f hp hf W=>bjn (by have:=Ve _ _ _ _ _ (Kt hp);omega) (atp hp hf) W)
  (fun p hp W=>ceq (by have:=Ve _ _ _ _ _ (Kt hp);omega) ((Xc h).2 p hp) W) hown hb
end Sb

namespace Sb
def uv (i:Nat):Nat→Int:=fun j=>if j=i then 1 else 0
theorem ckm (hn:c ∉ s.data.toList) (hs:s.size≤1000) (W:Wq) :
  Calls prog 155 #[.string s,.string ⟨#[c]⟩] W fun e w'=>e = .returned (.tuple #[.string s,.string ⟨#[]⟩,.bool false])∧Below W.heap.size W w':=by
 refine(Yn s ⟨#[c]⟩ c rfl W om).mono ?_
 rintro e w' ⟨x,y,f,rfl,hb,⟨rfl,h1,h2⟩|⟨rfl,rfl,h1,h2⟩⟩
 ·
  exact absurd (by rw[h1];exact Ht _ Ah) hn
 ·
  have e:y=⟨#[]⟩:=(Fz y).symm.trans (by rw[h1]);subst e;exact⟨rfl,hb⟩
theorem bpr {a b:ByteArray} (h:s.data.toList=a.data.toList++32::b.data.toList) (hn:(32:UInt8) ∉ a.data.toList) (hs:s.size≤600) (w:Wq) :
  Calls prog 114 #[.string s] w (gp (ko [ax (.string a),ax (.string b)]) w):=by
 have HC:=ae (fun W=>awt (c:=32) h hn om W)
 clear h hn hs
 go_enter func114,ntmps114
 go_wp2_with fail
 refine((aa HC) _).mono ?_
 rintro e W1 ⟨rfl,hb⟩
 dsimp only
 go_wp2_with fail
 go_ret2
 exact⟨_,rfl,hb,[_,_],rfl,_,_,rfl,rfl,_,_,rfl,rfl,rfl⟩
end Sb

namespace Sb
def Au (c:UInt8) (l:List UInt8):List UInt8:=l.takeWhile fun x=>x != c
def xu (c:UInt8) (l:List UInt8):List UInt8:=(l.dropWhile fun x=>x != c).tail
theorem Um : ∀ {l:List UInt8},c∈l→l=Au c l++c::xu c l∧c ∉ Au c l
 | [],h=>by cases h
 | x::l,h=>by
  by_cases g:x=c
  ·
   subst g;have h1:Au x (x::l)=[]:=asn mi;have h2:xu x (x::l)=l:=by unfold xu;rw[baf mi];rfl
   rw[h1,h2];exact⟨rfl,by simp⟩
  ·
   have hm:c∈l:=by
    rcases yx.1 h with h|h
    ·
     exact absurd h.symm g
    ·
     exact h
   have ih:=Um hm;have h1:Au c (x::l)=x::Au c l:=asl (by simpa using g);have h2:xu c (x::l)=xu c l:=by unfold xu;rw[bae (by simpa using g)]
   rw[h1,h2];refine⟨by rw[Ut,← ih.1],fun hc => ?_⟩
   rcases yx.1 hc with hc|hc
   ·
    exact g hc.symm
   ·
    exact ih.2 hc
def Pz (s:ByteArray):Option (List (ByteArray×Int)) :=
 if (47:UInt8)∈s.data.toList then
  if Au 47 s.data.toList=[49]then(if (readAll (parts (tx (xu 47 s.data.toList)))).2=true then some (ze (-1) (readAll (parts (tx (xu 47 s.data.toList)))).1)else none)
  else if (readAll (parts (tx (Au 47 s.data.toList)))).2=true∧(readAll (parts (tx (xu 47 s.data.toList)))).2=true then some (ze 1 (readAll (parts (tx (Au 47 s.data.toList)))).1++ze (-1) (readAll (parts (tx (xu 47 s.data.toList)))).1)else none
 else if s.data.toList=[49]then some []
 else if (readAll (parts s)).2=true then some (ze 1 (readAll (parts s)).1)else none
theorem bno (a:List UInt8):((tx a).toList==[49])=decide (a=[49]):=by
 rw[akh]
 by_cases h:a=[49]
 ·
  rw[dm h,h];exact Yc _
 ·
  rw[dw h];exact oo.2 h
theorem bct : ∀ ps:List ByteArray,(readAll ps).1.length≤ps.length:=fun ps=>by
 cases h:(readAll ps).2 with
 | true=>rw[afi h];exact gu _
 | false=>exact Lt (Xc h).1
theorem aya (s:ByteArray):(parts s).length≤s.size+1:=by
 have h1:=Lib.splitB_length_le ⟨#[46]⟩ 0 (Lib.countB s ⟨#[46]⟩) s
 have h2:=bah ⟨#[46]⟩ (gu 1) s.size s (gu _)
 unfold parts
 omega
theorem bwf (s:ByteArray) (hs:s.size≤600) :
  (∃ fs,Pz s=some fs ∧ ∀ w,Calls prog 115 #[.string s] w (gp (ko [zz fs,ax (.bool true)]) w)) ∨
  (Pz s=none ∧ ∀ w,Calls prog 115 #[.string s] w (gp (ko [ax (.slice none 0 0),ax (.bool false)]) w)):=by
 obtain⟨l,hl⟩ : ∃ l,l=s.data.toList:=⟨_,rfl⟩
 have hls:l.length=s.size:=by rw[hl,oq]
 have hsl:tx l=s:=by rw[hl];exact Fz s
 unfold Pz
 rw[← hl]
 by_cases hc:(47:UInt8)∈l
 ·
  obtain⟨e1,e2⟩:=Um hc;rw[if_pos hc];have hlen:=Ez List.length e1;rw[Bj,Db]at hlen;obtain⟨a,ea⟩ : ∃ a,a=Au 47 l:=⟨_,rfl⟩
  obtain⟨b,eb⟩ : ∃ b,b=xu 47 l:=⟨_,rfl⟩
  rw[← ea,← eb]at e1 hlen ⊢;rw[← ea]at e2;have hcut : ∀ W,Calls prog 155 #[.string s,.string ⟨#[47]⟩] W fun e w'=>e = .returned (.tuple #[.string (tx a),.string (tx b),.bool true])∧Below W.heap.size W w' :=
   fun W=>awt (by rw[Ac,Ac,← hl];exact e1) (by rw[Ac];exact e2) om W
  have hza:(tx a).size≤600:=by rw[xw];omega
  have hzb:(tx b).size≤600:=by rw[xw];omega
  by_cases g:a=[49]
  ·
   rw[if_pos g];have ha:((tx a).toList==[49])=true:=by rw[bno];exact dm g
   cases h:(readAll (parts (tx b))).2 with
   | true =>
    rw[if_pos rfl];exact .inl ⟨_,rfl,fun w=>bwe s (tx a) (tx b) _ w hcut ha fun w0 W v h1 h2=>abx (tx b) [] (-1) hzb de h w0 W v h1 h2⟩
   | false =>
    rw[if_neg mi];exact .inr ⟨rfl,fun w=>brj s (tx a) (tx b) w hcut ha fun w0 W v h1 h2=>ahh (tx b) [] (-1) hzb de h w0 W v h1 h2⟩
  ·
   rw[if_neg g];have ha:((tx a).toList==[49])=false:=by rw[bno];exact dw g
   have hll:(ze 1 (readAll (parts (tx a))).1).length≤1000000:=by
    unfold ze;rw[Rm];have h1:=bct (parts (tx a));have h2:=aya (tx a);omega
   cases h:(readAll (parts (tx a))).2 with
   | false =>
    rw[if_neg mi];exact .inr ⟨rfl,fun w=>axw s (tx a) (tx b) true w hcut ha fun w0 W v h1 h2=>ahh (tx a) [] 1 hza de h w0 W v h1 h2⟩
   | true =>
    cases h9:(readAll (parts (tx b))).2 with
    | true =>
     rw[if_pos ⟨rfl,rfl⟩];exact .inl ⟨_,rfl,fun w=>biv s (tx a) (tx b) (ze 1 (readAll (parts (tx a))).1) _ w hcut ha (fun w0 W v h1 h2=>abx (tx a) [] 1 hza de h w0 W v h1 h2) fun w0 W v h1 h2=>abx (tx b) _ (-1) hzb hll h9 w0 W v h1 h2⟩
    | false =>
     rw[if_neg mi];exact .inr ⟨rfl,fun w=>brl s (tx a) (tx b) (ze 1 (readAll (parts (tx a))).1) w hcut ha (fun w0 W v h1 h2=>abx (tx a) [] 1 hza de h w0 W v h1 h2) fun w0 W v h1 h2=>ahh (tx b) _ (-1) hzb hll h9 w0 W v h1 h2⟩
 ·
  rw[if_neg hc];have hcut : ∀ W,Calls prog 155 #[.string s,.string ⟨#[47]⟩] W fun e w'=>e = .returned (.tuple #[.string s,.string ⟨#[]⟩,.bool false])∧Below W.heap.size W w' :=
   fun W=>ckm (by rw[← hl];exact hc) om W
  by_cases g:l=[49]
  ·
   rw[if_pos g];have ha:(s.toList==[49])=true:=by rw[← hsl,bno];exact dm g
   exact .inl ⟨_,rfl,fun w=>bri s s ⟨#[]⟩ [] w hcut ha rfl⟩
  ·
   rw[if_neg g];have ha:(s.toList==[49])=false:=by rw[← hsl,bno];exact dw g
   cases h:(readAll (parts s)).2 with
   | true =>
    rw[if_pos rfl];exact .inl ⟨_,rfl,fun w=>bwc s s ⟨#[]⟩ _ w hcut ha fun w0 W v h1 h2=>abx s [] 1 hs de h w0 W v h1 h2⟩
   | false =>
    rw[if_neg mi];exact .inr ⟨rfl,fun w=>axw s s ⟨#[]⟩ false w hcut ha fun w0 W v h1 h2=>ahh s [] 1 hs de h w0 W v h1 h2⟩
end Sb

namespace Sb
theorem cel {c:Nat} {F:Nat→Nat→Int} {X:Nat→Rat} (w:Wq) (hT:yg w) (hn:n≤1000000) (hnm:n<m) (hF0:F 0=z7) (hX0:jw 1 1=X 0) (ok:qi 1 1)
  (hh : ∀ k,k<n → ∃ g,ao=some ⟨g,0,none⟩ ∧ ∃ nm p,Xz w g k nm p (F k) (X k) (F (k+1)) (X (k+1)))
  (hbad : ∃ g,ao=some ⟨g,0,none⟩ ∧ ∃ nm p,Qy w g n nm p ∧ ∀ W r,Cm W r Co→Calls prog 121 #[.map (some r),.string nm] W (gp (ko [bz zM,ax (.bool false)]) W)) :
  Calls prog 117 #[.slice ao m c] w (gp (ko [bz zM,ax (.bool false)]) w):=by
 have HT:=ae hT
 have HN:=ae (And.intro hn hnm)
 have HF0:=ae hF0
 have HX0:=ae hX0
 have Mw:=ae ok
 have HH:=ae hh
 have HBAD:=ae hbad
 clear hT hn hnm hF0 hX0 ok hh hbad
 go_enter func117,ntmps117
 go_upto_region 1 with fail
 have hO:=(Own.push (T:=118) (ls:=zM) (Own.nil w) (gy.vs w [.int .i64 0,.int .i64 0,.int .i64 0,.int .i64 0,.int .i64 0,.int .i64 0,.int .i64 0,.int .i64 0,.bool false,.slice none 0 0,.int .i64 0,.bool false,.slice none 0 0] rfl) (w.heap.size) rfl)
 generalize w.alloc (.cells #[.int .i64 0,.int .i64 0,.int .i64 0,.int .i64 0,.int .i64 0,.int .i64 0,.int .i64 0,.int .i64 0,.bool false,.slice none 0 0,.int .i64 0,.bool false,.slice none 0 0] 118)=W0 at *
 have HO:=ae hO
 clear hO
 refine yc 2 37 (ui [aeo Co,aeo Co]) (iw w _ W0) il [] kr rfl (qm.pick ⟨Wx,Wx,trivial⟩) (iw.begin (aa HO))
  (au (Uc func120 kr rfl iw.step  (fun W  hG  => aif W))
  (au (zu rfl (aT 0))
  ai)) ?_
 intro v1 V1 hG1 hv1 hne1
 simp only[ay,Act.put,tA]
 obtain⟨mr,em,hm⟩:=(show aeo Co V1 (v1 1)from hv1 1 de)
 simp only[em]
 have xg:=ae hm
 clear hm
 replace HO:=ae hG1.1
 clear hG1 hv1 hne1
 go_upto_region 2 with fail
 refine fw 3 [_,_,_] [2] HO (au (apg rfl (fe _) (fe _) rfl) (au (sc1 func118 (aT 0) (fun W v0 hG h0=>(aa HX0) ▸ auu (aa Mw) W _ h0)) (Am Xv ai))) ?_
 intro v2 V2 hG2 hv2 hne2
 obtain⟨Iq,e2,Mf,hz2⟩:=(show qw 118 zM V1.heap.size V2 (v2 2)from hv2 2 de)
 simp only[ay,Act.put,tA,e2]
 have hO:=hG2.1
 replace xg:=ae ((aa xg).below hG2.2)
 replace hO:=Own.add (aa HO) hG2.2 Mf hz2
 clear Mf hz2
 refine Ny hO 0 [] zM [.k (eK z7),.q (X 0)] [] rfl Bc rfl (show bz [.k (eK z7),.q (X 0)] V2 (v2 1)from hv2 1 de) rfl rfl rfl ?_
 intro Oy rf hk0 hm0
 replace xg:=ae (hm0 _ _ (aa xg))
 clear hm0
 replace hO:=rf
 clear rf
 replace HO:=ae hO
 clear hO hG2 hv2 hne2 hk0
 try clear e2
 go_upto_region 3 with fail
 refine fw 3 [_,_,_] [] HO (dh aF (au (bqe rfl (aT 0) rfl) (dh (fe _) ai))) ?_
 intro v3 V3 hG3 hv3 ji
 simp only[ay,Act.put,tA,show v3 0 = .slice ao m c from hv3 0 de,show v3 1 = .int .i64 m from hv3 1 de,exv (hv3 2 de)]
 have hO:=hG3.1
 replace xg:=ae ((aa xg).below hG3.2)
 replace HO:=ae hO
 clear hO hG3 hv3 ji
 have HOM:=ae (And.intro (aa HO) (aa xg))
 clear HO xg
 go_wp2_with fail
 go_loopw [15] (fun vk wr => ∃ k:Nat,k≤n∧vk = .int .i64 ((k:Nat):Int)∧Hid (Own w [(Iq,118,[.k (eK (F k)),.q (X k)]),(w.heap.size,118,zM)] wr∧Cm wr mr Co)) (fun vk _=>n-(intOf vk).toNat)
 case atStart=>exact⟨0,by omega,rfl,by rw[aa HF0];exact HOM⟩
 case round =>
  clear HOM;obtain⟨k,hk,rfl,HOM⟩:=hrel;have HK:=ae hk;clear hk;have HO:=ae (aa HOM).1;have xg:=ae (aa HOM).2;clear HOM
  by_cases g1:k<n
  ·
   have qp:=ae (show k<n by omega);have HLM:=ae (show k<m by have:=(aa HN).2;omega);have d1:decide ((k:Int)<(m:Int))=true:=dm (by have:=aa HLM;omega);obtain⟨g,rfl,nm,p,HS⟩ : ∃ g,ao=some ⟨g,0,none⟩ ∧ ∃ nm p,Hid (Xz w g k nm p (F k) (X k) (F (k+1)) (X (k+1))):=by
    obtain⟨g,e,nm,p,h⟩:=(aa HH) k (aa qp);exact⟨g,e,nm,p,ae h⟩
   obtain⟨u,y,q,z,HS⟩:=Xz.parts HS;go_upto_region 4 with fail;refine fw 1 [_] [] HO (au (wu rfl aF aF rfl d1) ai) ?_
   intro v4 V4 hG4 hv4 ma;simp only[ay,Act.put,tA,exv (hv4 0 de)];have hO:=hG4.1;replace xg:=ae ((aa xg).below hG4.2);replace HO:=ae hO;clear hO hG4 hv4 ma;clear d1 g1;go_upto_region 5 with fail;refine fw 3 [_,_,_] [2] HO (au (bcn (i:=k) (m:=m) (c:=c) rfl aF aF (aa HLM) rfl) (au (avz (i:=k) (fun W h=>(aa HS).at_.below h.1.bel (aa HS).at_.lt) rfl (aT 0) rfl) (Am bmk ai))) ?_
   intro v5 V5 mo hv5 hne5;obtain⟨aqm,e2,Mf,hz2⟩:=(show qw 181 zF V4.heap.size V5 (v5 2)from hv5 2 de)
   simp only[ay,Act.put,tA,e2];have hO:=mo.1;replace xg:=ae ((aa xg).below mo.2);replace hO:=Own.add (aa HO) mo.2 Mf hz2;clear Mf hz2;refine Ny hO 0 [] zF [.v (.string nm),iv p] [] rfl avw rfl (show bz [.v (.string nm),iv p] V5 (v5 1)from hv5 1 de) rfl rfl rfl ?_
   intro Jv rf hk0 hm0;replace xg:=ae (hm0 _ _ (aa xg));clear hm0;replace hO:=rf;clear rf;replace HO:=ae hO;clear hO mo hv5 hne5 hk0;try clear e2;go_upto_region 6 with fail;refine fw 8 [_,_,_,_,_,_,_,_] [7] HO (dh aF (au (akr (b:=aqm) (off:=0) rfl aF rfl rfl) (au (Jd abg me0 (aT 1) [] [iv p] rfl) (au (sc2 func121 (aT 0) (aT 2) (fun W v0 v1 hG h0 h1=>by cases h0;cases h1;exact(aa HS).find W mr ((aa HT).below hG.bel) ((aa xg).below hG.2))) (dh (aT 3) (pq [bz [.k (eK u),.q y],ax (.bool true)] (aT 4) (pq _ (aT 4) (Am Xv ai)))))))) ?_
   intro v6 V6 qb hv6 vw;obtain⟨ckw,e7,Fy,Lb⟩:=(show qw 118 zM Jv.heap.size V6 (v6 7)from hv6 7 de)
   simp only[ay,Act.put,tA,exv (hv6 6 de),e7];have hO:=qb.1;replace xg:=ae ((aa xg).below qb.2);replace hO:=Own.add (aa HO) qb.2 Fy Lb;clear Fy Lb;refine Ny hO 0 [] zM [.k (eK u),.q y] [] rfl Bc rfl (show bz [.k (eK u),.q y] V6 (v6 5)from hv6 5 de) rfl rfl rfl ?_
   intro ais rf hk0 hm0;replace xg:=ae (hm0 _ _ (aa xg));clear hm0;replace hO:=rf;clear rf;replace HO:=ae hO;clear hO qb hv6 vw hk0;try clear e7;go_upto_region 7 with fail;refine fw 2 [_,_] [] HO (dh aF (au (tq rfl (aT 0) rfl rfl) ai)) ?_
   intro v7 V7 vg hv7 zw;simp only[ay,Act.put,tA,exv (hv7 1 de)];have hO:=vg.1;replace xg:=ae ((aa xg).below vg.2);replace HO:=ae hO;clear hO vg hv7 zw;go_upto_region 9 with fail;refine Nw 6 [_,_,_,_,_,_] [] HO (xh Vk Ed aF (xh Vk me0 aF (au (axs (b:=aqm) (off:=0) rfl aF rfl rfl) (au (Jd Fe uq (aT 2) [.v (.string nm)] [] rfl) (au (sc2 func104 (aT 1) (aT 3) (fun W v0 v1 hG h0 h1=>by cases h1;exact(aa HS).pow W _ ((aa HT).below hG.bel) h0)) (au (sc2 func119 (aT 0) (aT 4) (fun W v0 v1 hG h0 h1=>(aa HS).tim W _ _ ((aa HT).below hG.bel) h0 h1)) ai)))))) ?_
   intro v8 V8 Eb En Ju;simp only[ay,Act.put,tA];have hO:=Eb.1;replace xg:=ae ((aa xg).below Eb.2);refine Ny hO 2 [] [.k (eK (F k)),.q (X k)] [.k (eK (F (k+1))),.q (X (k+1))] [] rfl Bc rfl (show bz [.k (eK (F (k+1))),.q (X (k+1))] V8 (v8 5)from En 5 de) rfl rfl rfl ?_
   intro air rf hk0 hm0;replace xg:=ae (hm0 _ _ (aa xg));clear hm0;replace hO:=rf;clear rf;replace HO:=ae hO;clear hO Eb En Ju hk0;go_wp2_with fail
   go_roundw
   case rel =>
    exact⟨k+1,by have:=aa qp;omega,He (aa qp) (aa HN).1,ae ⟨(aa HO).tl.tl,aa xg⟩⟩
   case measure =>
    have h1:=aa qp;have h2:=(aa HN).1;clear HO xg;rw[Ih h1 h2];exact measS h1
  ·
   obtain rfl:k=n:=by have:=aa HK;omega
   have HLM:=ae (show k<m by have:=(aa HN).2;omega);have d1:decide ((k:Int)<(m:Int))=true:=dm (by have:=aa HLM;omega);obtain⟨g,rfl,nm,p,HA,HFN⟩ : ∃ g,ao=some ⟨g,0,none⟩ ∧ ∃ nm p,Hid (Qy w g k nm p)∧Hid (∀ W r,Cm W r Co→Calls prog 121 #[.map (some r),.string nm] W (gp (ko [bz zM,ax (.bool false)]) W)):=by
    obtain⟨g,e,nm,p,h,h2⟩:=aa HBAD;exact⟨g,e,nm,p,ae h,ae h2⟩
   go_upto_region 4 with fail;refine fw 1 [_] [] HO (au (wu rfl aF aF rfl d1) ai) ?_
   intro v4 V4 hG4 hv4 ma;simp only[ay,Act.put,tA,exv (hv4 0 de)];have hO:=hG4.1;replace xg:=ae ((aa xg).below hG4.2);replace HO:=ae hO;clear hO hG4 hv4 ma;clear d1 g1;go_upto_region 5 with fail;refine fw 3 [_,_,_] [2] HO (au (bcn (i:=k) (m:=m) (c:=c) rfl aF aF (aa HLM) rfl) (au (avz (i:=k) (fun W h=>(aa HA).below h.1.bel (aa HA).lt) rfl (aT 0) rfl) (Am bmk ai))) ?_
   intro v5 V5 mo hv5 hne5;obtain⟨aqm,e2,Mf,hz2⟩:=(show qw 181 zF V4.heap.size V5 (v5 2)from hv5 2 de)
   simp only[ay,Act.put,tA,e2];have hO:=mo.1;replace xg:=ae ((aa xg).below mo.2);replace hO:=Own.add (aa HO) mo.2 Mf hz2;clear Mf hz2;refine Ny hO 0 [] zF [.v (.string nm),iv p] [] rfl avw rfl (show bz [.v (.string nm),iv p] V5 (v5 1)from hv5 1 de) rfl rfl rfl ?_
   intro Jv rf hk0 hm0;replace xg:=ae (hm0 _ _ (aa xg));clear hm0;replace hO:=rf;clear rf;replace HO:=ae hO;clear hO mo hv5 hne5 hk0;try clear e2;go_upto_region 6 with fail;refine fw 8 [_,_,_,_,_,_,_,_] [7] HO (dh aF (au (akr (b:=aqm) (off:=0) rfl aF rfl rfl) (au (Jd abg me0 (aT 1) [] [iv p] rfl) (au (sc2 func121 (aT 0) (aT 2) (fun W v0 v1 hG h0 h1=>by cases h0;cases h1;exact(aa HFN) W mr ((aa xg).below hG.2))) (dh (aT 3) (pq [bz zM,ax (.bool false)] (aT 4) (pq _ (aT 4) (Am Xv ai)))))))) ?_
   intro v6 V6 qb hv6 vw;obtain⟨ckw,e7,Fy,Lb⟩:=(show qw 118 zM Jv.heap.size V6 (v6 7)from hv6 7 de)
   simp only[ay,Act.put,tA,exv (hv6 6 de),e7];have hO:=qb.1;replace xg:=ae ((aa xg).below qb.2);replace hO:=Own.add (aa HO) qb.2 Fy Lb;clear Fy Lb;refine Ny hO 0 [] zM zM [] rfl Bc rfl (show bz zM V6 (v6 5)from hv6 5 de) rfl rfl rfl ?_
   intro ais rf hk0 hm0;replace xg:=ae (hm0 _ _ (aa xg));clear hm0;replace hO:=rf;clear rf;replace HO:=ae hO;clear hO qb hv6 vw hk0;try clear e7;go_upto_region 7 with fail;refine fw 2 [_,_] [] HO (dh aF (au (tq rfl (aT 0) rfl rfl) ai)) ?_
   intro v7 V7 vg hv7 zw;simp only[ay,Act.put,tA,exv (hv7 1 de)];have hO:=vg.1;replace xg:=ae ((aa xg).below vg.2);replace HO:=ae hO;clear hO vg hv7 zw;go_upto_region 8 with fail;refine fw 1 [_] [] HO (au (Gv acs rfl rfl rfl) ai) ?_
   intro v8 V8 Eb En Ju;simp only[ay,Act.put,tA];have hO:=Eb.1;replace xg:=ae ((aa xg).below Eb.2);refine Ny hO 3 [] zM zM [] rfl Bc rfl (show bz zM V8 (v8 0)from En 0 de) rfl rfl rfl ?_
   intro air rf hk0 hm0;replace xg:=ae (hm0 _ _ (aa xg));clear hm0;replace hO:=rf;clear rf;replace HO:=ae hO;clear hO Eb En Ju hk0;go_wp2_with fail;exact vo results117 Km rfl rfl (aa HO) Uh rfl rfl
end Sb


def gi (l:List Int) (i:Nat):Int:=l.getD i 0
def Zs (w:Wq) (B:Nat) (A:Option Addr) (l:List Int):Prop:=0<l.length → ∃ b off,A=some ⟨b,off,none⟩∧b<B ∧ ∀ j,j<l.length→w.cell? ⟨b,off+j,none⟩=some (.int .i64 (gi l j))
theorem Zs.below {l:List Int} (h:Zs w w.heap.size A l) (hb:Below w.heap.size w w'):Zs w' w'.heap.size A l:=fun hl=>by
 obtain⟨b,off,rfl,h1,h2⟩:=h hl
 exact⟨b,off,rfl,zh h1 hb.size,fun j hj=>(hb.cell (p:=⟨b,off+j,none⟩) h1).trans (h2 j hj)⟩




def rn (l:List (Int×Int)) (i:Nat):Int:=(l.getD i (0,0)).1
def rd (l:List (Int×Int)) (i:Nat):Int:=(l.getD i (0,0)).2
def Rs (w:Wq) (B:Nat) (A:Option Addr) (l:List (Int×Int)):Prop:=0<l.length → ∃ b off,A=some ⟨b,off,none⟩∧b<B ∧ ∀ j,j<l.length→w.cell? ⟨b,off+j*2,none⟩=some (.int .i64 (rn l j))∧w.cell? ⟨b,off+j*2+1,none⟩=some (.int .i64 (rd l j))
theorem Rs.below {l:List (Int×Int)} (h:Rs w B A l) (hb:Below B w w'):Rs w' B A l:=fun hl=>by
 obtain⟨b,off,rfl,h1,h2⟩:=h hl
 exact⟨b,off,rfl,h1,fun j hj=>⟨(hb.cell (p:=⟨b,off+j*2,none⟩) h1).trans (h2 j hj).1,(hb.cell (p:=⟨b,off+j*2+1,none⟩) h1).trans (h2 j hj).2⟩⟩
theorem Rs.up {l:List (Int×Int)} {C:Nat} (h:Rs w B A l) (hb:B≤C):Rs w C A l:=fun hl=>by
 obtain⟨b,off,rfl,h1,h2⟩:=h hl
 exact⟨b,off,rfl,zh h1 hb,h2⟩
def Oks (l:List (Int×Int)):Prop := ∀ i,i<l.length→qi (rn l i) (rd l i)
noncomputable instance (l:List (Int×Int)):Decidable (Oks l):=Classical.propDecidable _

theorem bhr {n d:Int} (hd:d≠0) (hn:je B K n) (hdd:je B K d):Bt B K (Rat.divInt n d):=by
 obtain⟨h1,h2⟩:=Lg n d hd
 exact⟨by rw[h1];exact hn.tdiv _,by rw[h2];exact hdd.tdiv _⟩
theorem aor {x:Rat} (hx:Bt B K x) (hy:Bt B L y):Bt B (K+L) (x*y):=by
 rw[acx]
 have d1:=x.den_nz;have d2:=y.den_nz
 exact bhr (agn om om) (hx.1.mul hy.1) (hx.2.mul hy.2)


namespace Sb
noncomputable instance (l:List (Int×Int)):Decidable (∀ j,j<7→1≤rn l j):=Classical.propDecidable _
theorem cnb {n d:Int} (ok:qi n d) (h:1≤n):0<jw n d:=ceh (f:=z7) ⟨fun j _=>by unfold z7;omega,ok,h⟩
def bog (W:Wq) (b o:Nat) (n d:Int):Prop:=W.cell? ⟨b,o,none⟩=some (.int .i64 n)∧W.cell? ⟨b,o+1,none⟩=some (.int .i64 d)
theorem bog.below {o:Nat} {n d:Int} (h:bog W b o n d) (hb:Below B W W') (hg:b<B):bog W' b o n d:=by
 have e:=hb.block b hg
 exact⟨(Re e).trans h.1,(Re e).trans h.2⟩
end Sb


namespace Sb
theorem Sm.bdi {x:Rat} (hx:Sm K x) (hy:Sm L y) (h:K+L≤1000000):Sm (K+L) (x*y):=⟨aor (B:=eu) hx.1 hy.1,h⟩
theorem aks {n d:Int} (ok:qi n d) (h:1≤n):0<jw n d:=cnb ok h
theorem ahm {x:Rat} (h:Af s=some (f,x)):Li f∧Sm 2 x∧0<x:=by
 unfold Af at h
 cases e1:zy s Ai with
 | some e =>
  rw[e1]at h
  cases h
  have ok:=Ti e1;exact⟨ok.2.2,(Oa ok.1).mono om om,aks ok.1 ok.2.1⟩
 | none =>
  rw[e1]at h
  cases e2:s.data.toList with
  | nil=>rw[e2]at h;cases h
  | cons b ls =>
   rw[e2]at h;have h:Qv b ls=some (f,x):=h;unfold Qv at h;obtain⟨p,q,o,e3⟩ : ∃ p q o,Eg b.toNat=(p,q,o):=⟨_,_,_,rfl⟩
   rw[e3]at h
   by_cases g:o=true∧Ld ⟨ls.toArray⟩=false
   ·
    obtain⟨rfl,e5⟩:=g;rw[if_pos ⟨rfl,e5⟩]at h
    cases e4:zy ⟨ls.toArray⟩ Ai with
    | none=>rw[e4]at h;cases h
    | some e =>
     rw[e4]at h
     cases h
     have ok:=Ti e4;have okp:=apk e3;exact⟨ok.2.2,Sm.bdi (Oa okp.1) (Oa ok.1) om,Rat.mul_pos (aks okp.1 okp.2) (aks ok.1 ok.2.1)⟩
   ·
    rw[if_neg g]at h;cases h
def awp (f:ByteArray×Int):(Nat→Int)×Rat:=(Af f.1).getD (z7,jw 1 1)
def Ew (l:List (ByteArray×Int)) (j:Nat):Int:=l.foldl (fun a f=>a+(awp f).1 j*f.2) 0
noncomputable def Gp (l:List (ByteArray×Int)):Rat:=l.foldl (fun x f=>x*Ec (awp f).2 f.2) (jw 1 1)
theorem aly (l:List (ByteArray×Int)) (f:ByteArray×Int) (j:Nat):Ew (l++[f]) j=Ew l j+(awp f).1 j*f.2:=by unfold Ew;rw[bab];rfl
theorem Zk (l:List (ByteArray×Int)) (f:ByteArray×Int):Gp (l++[f])=Gp l*Ec (awp f).2 f.2:=by unfold Gp;rw[bab];rfl
theorem atz {a:Int} (ha : -9≤a∧a≤9) (hp : -9≤p∧p≤9) : -81≤a*p∧a*p≤81:=by
 have hc:a = -9∨a = -8∨a = -7∨a = -6∨a = -5∨a = -4∨a = -3∨a = -2∨a = -1∨a=0∨a=1∨a=2∨a=3∨a=4∨a=5∨a=6∨a=7∨a=8∨a=9:=by omega
 rcases hc with rfl|rfl|rfl|rfl|rfl|rfl|rfl|rfl|rfl|rfl|rfl|rfl|rfl|rfl|rfl|rfl|rfl|rfl|rfl<;>omega
theorem Zi {f:ByteArray×Int} (h:Af f.1=some (u,y)):awp f=(u,y):=by unfold awp;rw[h];rfl
structure ajb (l:List (ByteArray×Int)):Prop where
 bd : ∀ j,j<7 → -(81*(l.length:Int))≤Ew l j∧Ew l j≤81*(l.length:Int)
 sm:l.length≤1300→Sm (19*l.length+1) (Gp l)
theorem ajb.nil:ajb []:=⟨fun j hj=>by show -(81*((0:Nat):Int))≤0∧0≤81*((0:Nat):Int);omega,fun _=>Oa Ou⟩
theorem ajb.snoc {l:List (ByteArray×Int)} {f:ByteArray×Int} (h:ajb l) (hn:Af f.1=some (u,y)) (hp : -9≤f.2∧f.2≤9):ajb (l++[f]):=by
 obtain⟨o1,o2,o3⟩:=ahm hn
 have e:=Zi hn
 have hl:(l++[f]).length=l.length+1:=Bj
 refine⟨fun j hj => ?_,fun hlen => ?_⟩
 ·
  have h1:=h.bd j hj;have h2:=atz (o1 j hj) hp;rw[aly,e,hl];show -(81*((l.length+1:Nat):Int))≤Ew l j+u j*f.2∧Ew l j+u j*f.2≤81*((l.length+1:Nat):Int);omega
 ·
  rw[Zk,e,hl];rw[hl]at hlen;have h3:=Sm.Ec o2 (Qu o3) (k:=f.2) (b:=9) ⟨by omega,by omega⟩ (by omega);exact(Sm.bdi (h.sm om) h3 om).mono om om
theorem aim (hp : ∀ f∈fs,-9≤f.2∧f.2≤9) : ∀ n,(∀ k f,k<n→fs[k]? = some f → ∃ u y,Af f.1=some (u,y))→ajb (fs.take n)
 | 0,_=>by rw[Nu];exact ajb.nil
 | n+1,h=>by
  have ih:=aim hp n fun k f hk=>h k f om
  rw[Pk]
  cases e:fs[n]? with
  | none=>rw[show(none:Option (ByteArray×Int)).toList=[]from rfl,Oz];exact ih
  | some f =>
   obtain⟨u,y,hn⟩:=h n f om e;exact ih.snoc hn (hp f (Kt e))
theorem bbz (hp : ∀ f∈fs,-9≤f.2∧f.2≤9) (hl:fs.length≤1300) (hn:n≤fs.length) (hk : ∀ k f,k<n→fs[k]? = some f → ∃ u y,Af f.1=some (u,y)) (hf:Pj W ao fs) :
  ∀ k,k<n → ∃ g,ao=some ⟨g,0,none⟩ ∧ ∃ nm p,Xz W g k nm p (Ew (fs.take k)) (Gp (fs.take k)) (Ew (fs.take (k+1))) (Gp (fs.take (k+1))):=fun k hkn=>by
 obtain⟨f,e⟩ : ∃ f,fs[k]? = some f:=⟨_,Cj om⟩
 obtain⟨u,y,hu⟩:=hk k f hkn e
 obtain⟨g,eg,hat⟩:=hf k f e
 obtain⟨o1,o2,o3⟩:=ahm hu
 have hpf:=hp f (Kt e)
 have ha:=aim hp k fun i x hi=>hk i x om
 have hgu:=Zi hu
 have hlt:(fs.take k).length≤1300:=by rw[uy];omega
 have ht:fs.take (k+1)=fs.take k++[f]:=by rw[Pk,e];rfl
 have hpz:=Sm.Ec o2 (Qu o3) (k:=f.2) (b:=9) ⟨by omega,by omega⟩ (by omega)
 rw[ht]
 refine⟨g,eg,f.1,f.2,u,y,fun j=>u j*f.2,Ec y f.2,hat,fun W r hT hm=>find_ok f.1 W r hT hm hu,fun W v0 hT h0=>axz W v0 h0 (fun j hj => ?_) (fun W' v0' hb h=>btk (b:=9) o2 (Qu o3) ⟨by omega,by omega⟩ (by omega) om W' _ h),fun W v0 v1 hT h0 h1=>Ym W v0 h0 v1 h1 (fun j hj => ?_) (fun W' x' y' hb g0 g1 => ?_)⟩
 ·
  have:=atz (o1 j hj) hpf;exact Cs _ om
 ·
  rw[aly,hgu];have h1:=atz (o1 j hj) hpf;have h2:=ha.bd j hj;exact Cs _ (by show _≤Ew (fs.take k) j+u j*f.2∧Ew (fs.take k) j+u j*f.2≤_;omega)
 ·
  rw[Zk,hgu];exact aih (hT.below hb) ((ha.sm hlt).mono (L:=25000) om om) (hpz.mono om om) g0 g1
theorem bdh (hp : ∀ f∈fs,-9≤f.2∧f.2≤9) (hl:fs.length≤1300) (hk : ∀ k f,k<fs.length→fs[k]? = some f → ∃ u y,Af f.1=some (u,y)) (W:Wq) (ao:Option Addr) (c:Nat) (hT:yg W) (hf:Pj W ao fs) :
  Calls prog 117 #[.slice ao fs.length c] W (gp (ko [bz [.k (eK (Ew fs)),.q (Gp fs)],ax (.bool true)]) W):=by
 have h:=aye (ao:=ao) (n:=fs.length) (c:=c) (F:=fun k=>Ew (fs.take k)) (X:=fun k=>Gp (fs.take k)) W hT om (by rw[Nu];rfl) (by rw[Nu];rfl) Ou (bbz hp hl (gu _) hk hf)
 rw[abq]at h
 exact h
theorem bwr (hp : ∀ f∈fs,-9≤f.2∧f.2≤9) (hl:fs.length≤1300) {x:ByteArray×Int} (hx:fs[n]? = some x) (hno:Af x.1=none) (hk : ∀ k f,k<n→fs[k]? = some f → ∃ u y,Af f.1=some (u,y)) (W:Wq) (ao:Option Addr) (c:Nat) (hT:yg W) (hf:Pj W ao fs) :
  Calls prog 117 #[.slice ao fs.length c] W (gp (ko [bz zM,ax (.bool false)]) W):=by
 have hn:n<fs.length:=by
  rcases Fa n fs.length with h|h
  ·
   exact h
  ·
   rw[Ha h]at hx;cases hx
 obtain⟨g,eg,hat⟩:=hf n x hx
 exact cel (F:=fun k=>Ew (fs.take k)) (X:=fun k=>Gp (fs.take k)) W hT om hn (by rw[Nu];rfl) (by rw[Nu];rfl) Ou (bbz hp hl om hk hf) ⟨g,eg,x.1,x.2,hat,fun W r hm=>bjm x.1 W r hm hno⟩
end Sb

namespace Sb
def entB:List (Int×Int)→Nat→List MapEntry
 | [],_=>[]
 | (k,v)::l,j=>{ key := .int .u8 k,val := .int .i64 v,born:=j}::entB l (j+1)
def Xo (W:Wq) (r:Nat) (l:List (Int×Int)):Prop:=W.heap[r]? = some (.map (entB l 0).toArray l.length)
def findB (b:Int):List (Int×Int)→Option Int
 | []=>none
 | (k,v)::l=>if b=k then some v else findB b l
theorem Xo.below {r:Nat} {l:List (Int×Int)} (h:Xo W r l) (hb:Below W.heap.size W W'):Xo W' r l:=(hb.block _ (lt_of_block h)).trans h
theorem ayz : ∀ (l:List (Int×Int)) (k v:Int) (j:Nat),entB (l++[(k,v)]) j=entB l j++[{ key := .int .u8 k,val := .int .i64 v,born:=j+l.length}]
 | [],_,_,_=>rfl
 | (k',v')::l,k,v,j=>by
  rw[Ut,entB,ayz l k v (j+1),entB,Db,show j+1+l.length=j+(l.length+1)by omega];rfl
theorem alq (b:Int) : ∀ (l:List (Int×Int)) (i j:Nat),∃ o,Instr.findNow (.int .u8) (.int .u8 b) (entB l j) i=some o∧o.map (·.2)=(findB b l).map (fun v=>Value.int .i64 v)
 | [],_,_=>⟨none,rfl,rfl⟩
 | (k,v)::l,i,j=>by
  by_cases h:b=k
  ·
   subst h;refine⟨some (i,.int .i64 v),?_,?_⟩
   ·
    have hb:(b==b)=true:=Yc b;rw[entB,Instr.findNow];simp only[Instr.sameNow,if_pos,hb]
   ·
    rw[findB,if_pos rfl];rfl
  ·
   obtain⟨o,h1,h2⟩:=alq b l (i+1) (j+1);refine⟨o,?_,?_⟩
   ·
    have hb:(b==k)=false:=oo.2 h;rw[entB,Instr.findNow];simp only[Instr.sameNow,if_pos,hb,h1]
   ·
    rw[findB,if_neg h,h2]
theorem bdn (k:Int) (e:Bool) (w:Wq):(Instr.checkKey e 10000 5 (.int .u8 k)).run prog w = .ok () w :=
 MapKept.run_checkKey (n:=9999) underlying5 (show MapKept.IsKey (.int .u8) (.int .u8 k)by simp[MapKept.IsKey]) e
theorem bvp {r:Nat} {l:List (Int×Int)} {k:Int} (h:Xo w r l) (hk:findB k l=none) :
  (Instr.mapUpdate 184 (.map (some r)) (.int .u8 k) (.int .i64 v)).run prog w = .ok () { w with heap:=w.heap.setIfInBounds r (.map (entB (l++[(k,v)]) 0).toArray (l.length+1))}:=by
 obtain⟨o,h1,h2⟩:=alq k l 0 0
 have ho:o=none:=by
  cases o with
  | none=>rfl
  | some p=>rw[hk]at h2;cases h2
 subst ho
 have hf:=asj (P:=prog) (w:=w) underlying5 h1
 have hg:=asi (P:=prog) h
 have hs:=MapKept.run_setObj_map (P:=prog) (.map (entB (l++[(k,v)]) 0).toArray (l.length+1)) h
 have hc:=bdn k false w
 have he:(entB l 0).toArray.push { key := .int .u8 k,val := .int .i64 v,born:=l.length}=(entB (l++[(k,v)]) 0).toArray:=by rw[ayz];simp
 unfold Instr.mapUpdate
 simp only[ajk,run_underlying underlying184,Result.andThen,hg,hc,hf,he,hs]
theorem bqo {r:Nat} {l:List (Int×Int)} {b:Int} (h:Xo w r l) :
  (Instr.lookup 184 (.map (some r)) (.int .u8 b) true).run prog w = .ok (.tuple #[.int .i64 ((findB b l).getD 0),.bool (findB b l).isSome]) w:=by
 obtain⟨o,h1,h2⟩:=alq b l 0 0
 have hf:=asj (P:=prog) (w:=w) underlying5 h1
 have hg:=asi (P:=prog) h
 have hc:=bdn b (entB l 0).toArray.isEmpty w
 have hz:(zeroValue 3).run prog w = .ok (.int .i64 0) w:=by simp[go_sem]
 unfold Instr.lookup
 simp only[ajk,run_underlying underlying184,Result.andThen,hg,hc,hf,Sem.run_pure]
 cases hfb:findB b l with
 | none =>
  rw[hfb]at h2
  cases o with
  | none=>simp[Result.andThen,hz]
  | some p=>cases h2
 | some v =>
  rw[hfb]at h2
  cases o with
  | none=>cases h2
  | some p => 
   have h3:p.2=Value.int .i64 v:=Az h2;simp[h3]
theorem Xo.set {r:Nat} {l:List (Int×Int)} {k:Int} (h:Xo w r l):Xo { w with heap:=w.heap.setIfInBounds r (.map (entB (l++[(k,v)]) 0).toArray (l.length+1))} r (l++[(k,v)]):=by
 have:=(bbn (o' := .map (entB (l++[(k,v)]) 0).toArray (l.length+1)) h).1
 unfold Xo
 rw[this,Bj];rfl
structure aqv (w W:Wq) (l:List (Int×Int)):Prop where
 below:Below w.heap.size w W
 map:Xo W w.heap.size l
theorem aqv.ins {l:List (Int×Int)} (h:aqv w W l) (k v:Int) (hk:findB k l=none) :
  ∃ W',(Instr.mapUpdate 184 (.map (some w.heap.size)) (.int .u8 k) (.int .i64 v)).run prog W = .ok () W'∧aqv w W' (l++[(k,v)]) :=
 ⟨_,bvp h.map hk,als h.below (gu _),h.map.set⟩
theorem aqv.start (w:Wq):aqv w (w.alloc (.map #[] 0)) []:=⟨ic (df _ _) _,heap_alloc_new w _⟩
def pwL:List (Int×Int):=[(110,(-9)),(117,(-6)),(109,(-3)),(107,3),(77,6),(71,9)]
theorem avy {l:List Oper} {T:Nat→Wq→Vq→Prop} {G:Wq→Prop} {al:List Nat} {a0:Act} {d:Nat} {y:Operand} {b n':Int} {r:Nat} {L:List (Int×Int)} {c:Bool} (hal:al.contains k=false) (hx:cu l n T a0 k x (ax (.map (some r)))) (hy:cu l n T a0 k y (ax (.int .u8 b))) (hm : ∀ W,G W→Xo W r L) (hu:(findB b L).getD 0=n') (hc:(findB b L).isSome=c) (hT:T k=ko [ax (.int .i64 n'),ax (.bool c)]) :
  ib prog Q l n T G il al a0 k { dst:=some d,op := .lookup 184 x y true,type:=ty,pos:=pos,after:=af,guard:=gd}:=by
 intro a w hG hO hN
 have h1:a.eval x = .map (some r):=hx a w hO hN
 have h2:a.eval y = .int .u8 b:=hy a w hO hN
 have key:=bqo (b:=b) (hm w hG)
 rw[hu,hc]at key
 have hr:(execOp a.eval { dst:=some d,op := .lookup 184 x y true,type:=ty,pos:=pos,after:=af,guard:=gd}).run prog w = .ok (.value (.tuple #[.int .i64 n',.bool c])) w:=by
  simp only[execOp,h1,h2];simp[key,Result.andThen]
 exact wvz hr hG hal (by rw[hT];exact⟨[_,_],rfl,_,_,rfl,rfl,_,_,rfl,rfl,rfl⟩)
def bop:Option ((Nat→Int)×Rat)→Wq→Vq→Prop
 | some e=>ko [bz [.k (eK e.1),.r e.2],ax (.bool true)]
 | none=>ko [bz zV,ax (.bool false)]
theorem bwq {e:(Nat→Int)×Int×Int} (h:zy s Ai=some e):Af s=some (e.1,jw e.2.1 e.2.2):=by unfold Af;rw[h]
theorem Yw {b:UInt8} (h:zy (tx (b::ls)) Ai=none):Af (tx (b::ls))=Qv b ls:=ahn h
theorem bhj {l:List UInt8} (h:zy (tx l) Ai=none) (hl:l.length<2):Af (tx l)=none:=by
 match l,hl with
 | [],_=>exact ahn h
 | [b],_ =>
  rw[Yw h];unfold Qv
  split
  ·
   rfl
  ·
   rfl
theorem aak {b:UInt8} (h:zy (tx (b::ls)) Ai=none) (hb:Ld (tx ls)=true):Af (tx (b::ls))=none:=by
 rw[Yw h]
 exact if_neg fun k=>by rw[show Ld ⟨ls.toArray⟩=true from hb]at k;exact absurd k.2 de
theorem bdg {b:UInt8} (h:zy (tx (b::ls)) Ai=none) (hb:zy (tx ls) Ai=none):Af (tx (b::ls))=none:=by
 rw[Yw h]
 unfold Qv
 split
 ·
  rw[show zy ⟨ls.toArray⟩ Ai=none from hb];rfl
 ·
  rfl
theorem cmw {b:Int} (h:findB b pwL=none):(Eg b).2.2=false:=by
 unfold Eg
 simp only[findB,pwL]at h
 repeat' split at h
 all_goals first|cases h|skip
 rename_i h1 h2 h3 h4 h5 h6
 rw[if_neg h1,if_neg h2,if_neg h3,if_neg h4,if_neg h5,if_neg h6]
theorem brr {b n:Int} (h:findB b pwL=some n):(Eg b).2.2=true∧jw (Eg b).1 (Eg b).2.1=Ec (Rat.divInt 10 1) n ∧ -((9:Nat):Int)≤n∧n≤(9:Nat):=by
 simp only[findB,pwL]at h
 repeat' split at h
 all_goals first|(cases h;rename_i e;subst e;exact⟨by decide,by unfold Ec;decide +kernel,by decide,by decide⟩)|cases h
theorem bhk {b:UInt8} (h:zy (tx (b::ls)) Ai=none) (hb:findB b.toNat pwL=none):Af (tx (b::ls))=none:=by
 rw[Yw h]
 exact if_neg fun k=>by rw[cmw hb]at k;exact absurd k.1 de
theorem brz {b:UInt8} {n:Int} (h:zy (tx (b::ls)) Ai=none) (hb:findB b.toNat pwL=some n) (h2:Ld (tx ls)=false) (h3:zy (tx ls) Ai=some (f,p,q)):Af (tx (b::ls))=some (f,jw p q*Ec (Rat.divInt 10 1) n):=by
 rw[Yw h]
 obtain⟨k1,k2,_⟩:=brr hb
 have e:Qv b ls=(zy ⟨ls.toArray⟩ Ai).map fun e=>(e.1,jw (Eg b.toNat).1 (Eg b.toNat).2.1*jw e.2.1 e.2.2):=if_pos ⟨k1,h2⟩
 rw[e,show zy ⟨ls.toArray⟩ Ai=some (f,p,q)from h3,k2]
 show some (f,_*jw p q)=_
 rw[Rat.mul_comm]
theorem bat {k:List UInt8}:tx ls=tx k↔ls=k:=⟨ast,fun h=>by rw[h]⟩
theorem acu (ls:List UInt8):Ld (tx ls)=true↔ls=[107,103]∨ls=[109,105,110]∨ls=[104]∨ls=[114,97,100]:=by
 have e1:tx ls=⟨#[107,103]⟩↔ls=[107,103]:=bat (k:=[107,103])
 have e2:tx ls=⟨#[109,105,110]⟩↔ls=[109,105,110]:=bat (k:=[109,105,110])
 have e3:tx ls=⟨#[104]⟩↔ls=[104]:=bat (k:=[104])
 have e4:tx ls=⟨#[114,97,100]⟩↔ls=[114,97,100]:=bat (k:=[114,97,100])
 unfold Ld
 rw[← e1,← e2,← e3,← e4]
 constructor
 ·
  intro h
  repeat' split at h
  all_goals first|(rename_i k;simp only[k,true_or,or_true];done)|cases h
 ·
  intro h
  repeat' split
  all_goals first|rfl|(simp_all)
theorem bsz {l:List UInt8} (w:Wq) (hn : ∀ W,Calls prog 174 #[.string (tx l)] W (gp (boj (some (f,p,q))) W)) :
  Calls prog 122 #[.string (tx l)] w (gp (bop (some (f,jw p q))) w):=by
 have HN:=ae hn
 clear hn
 go_enter func122,ntmps122
 go_upto_region 1 with fail
 have hO:=(Own.push (T:=113) (ls:=zV) (Own.nil w) (gy.vs w [.int .i64 0,.int .i64 0,.int .i64 0,.int .i64 0,.int .i64 0,.int .i64 0,.int .i64 0,.slice none 0 0,.bool false,.slice none 0 0,.bool false] rfl) (w.heap.size) rfl)
 generalize w.alloc (.cells #[.int .i64 0,.int .i64 0,.int .i64 0,.int .i64 0,.int .i64 0,.int .i64 0,.int .i64 0,.slice none 0 0,.bool false,.slice none 0 0,.bool false] 113)=W0 at *
 have HO:=ae hO
 clear hO
 refine fw 6 [_,_,_,_,_,_] [5] HO (dh aF (au (sc1 func174 (aT 0) (fun W v0 hG h0=>by cases h0;exact(aa HN) W)) (dh (aT 1) (pq [bz [.k (eK f),.r (jw p q)],ax (.bool true)] (aT 2) (pq _ (aT 2) (Am Xu ai)))))) ?_
 intro v1 V1 hG1 hv1 hne1
 obtain⟨aqn,e5,zo,Cy⟩:=(show qw 113 zV W0.heap.size V1 (v1 5)from hv1 5 de)
 simp only[ay,Act.put,tA,exv (hv1 4 de),e5]
 have hO:=hG1.1
 replace hO:=Own.add (aa HO) hG1.2 zo Cy
 clear zo Cy
 refine kg hO 0 Aw (hv1 3 de) ?_
 clear hO
 intro Ep hO hk0
 replace HO:=ae hO
 clear hO hG1 hv1 hne1 hk0
 try clear e5
 go_upto_region 2 with fail
 refine fw 1 [_] [] HO (dh aF ai) ?_
 intro v2 V2 hG2 hv2 hne2
 simp only[ay,Act.put,tA,exv (hv2 0 de)]
 replace HO:=ae hG2.1
 clear hG2 hv2 hne2
 go_upto_region 3 with fail
 refine fw 1 [_] [] HO (xh Zb me0 aF ai) ?_
 intro v3 V3 hG3 hv3 ji
 simp only[ay,Act.put,tA]
 have hO:=hG3.1
 refine kg hO 1 Aw (hv3 0 de) ?_
 clear hO
 intro Gc hO hk0
 replace HO:=ae hO
 clear hO hG3 hv3 ji hk0
 go_wp2_with fail
 exact vo results122 Ik rfl rfl (aa HO) uq rfl rfl
theorem bnk {l:List UInt8} {o:Option ((Nat→Int)×Rat)} (w:Wq) (hu:zy (tx l) Ai=none) (ho:o=Af (tx l)) :
  Calls prog 122 #[.string (tx l)] w (gp (bop o) w):=by
 have HN:=ae (show ∀ W,Calls prog 174 #[.string (tx l)] W (gp (boj none) W)from fun W=>ahl W hu.symm)
 have HU:=ae hu
 have Jo:=ae ho
 clear hu ho
 go_enter func122,ntmps122
 go_upto_region 1 with fail
 have hO:=(Own.push (T:=113) (ls:=zV) (Own.nil w) (gy.vs w [.int .i64 0,.int .i64 0,.int .i64 0,.int .i64 0,.int .i64 0,.int .i64 0,.int .i64 0,.slice none 0 0,.bool false,.slice none 0 0,.bool false] rfl) (w.heap.size) rfl)
 generalize w.alloc (.cells #[.int .i64 0,.int .i64 0,.int .i64 0,.int .i64 0,.int .i64 0,.int .i64 0,.int .i64 0,.slice none 0 0,.bool false,.slice none 0 0,.bool false] 113)=W0 at *
 have HO:=ae hO
 clear hO
 refine fw 6 [_,_,_,_,_,_] [5] HO (dh aF (au (sc1 func174 (aT 0) (fun W v0 hG h0=>by cases h0;exact(aa HN) W)) (dh (aT 1) (pq [bz zV,ax (.bool false)] (aT 2) (pq _ (aT 2) (Am Xu ai)))))) ?_
 intro v1 V1 hG1 hv1 hne1
 obtain⟨aqn,e5,zo,Cy⟩:=(show qw 113 zV W0.heap.size V1 (v1 5)from hv1 5 de)
 simp only[ay,Act.put,tA,exv (hv1 4 de),e5]
 have hO:=hG1.1
 replace hO:=Own.add (aa HO) hG1.2 zo Cy
 clear zo Cy
 refine kg hO 0 Aw (hv1 3 de) ?_
 clear hO
 intro Ep hO hk0
 replace HO:=ae hO
 clear hO hG1 hv1 hne1 hk0
 try clear e5
 go_upto_region 2 with fail
 refine fw 1 [_] [] HO (dh aF ai) ?_
 intro v2 V2 hG2 hv2 hne2
 simp only[ay,Act.put,tA,exv (hv2 0 de)]
 replace HO:=ae hG2.1
 clear hG2 hv2 hne2
 by_cases g0:l.length<2
 ·
  have ho:o=none:=by rw[aa Jo,bhj (aa HU) g0]
  subst ho;have Na:=ae (show decide (((tx l).size:Int)<2)=true from dm (by rw[xw];omega));clear Jo g0;go_upto_region 4 with fail;refine fw 23 [_,_,_,_,_,_,_,_,_,_,_,_,_,_,_,_,_,_,_,_,_,_,_] [] HO (dh aF (au (Ar rfl (aT 0) rfl) (au (wu rfl (aT 1) (fe _) rfl (aa Na)) (dh (aT 2) (ve (ve (ve (au (qj rfl (aT 3) (fe _)) (dh (aT 7) (ve (ve (ve (au (qj rfl (aT 8) (fe _)) (dh (aT 12) (ve (ve (ve (au (qj rfl (aT 13) (fe _)) (dh (aT 17) (ve (ve (ve (au (qj rfl (aT 18) (fe _)) ai))))))))))))))))))))))) ?_
  intro v3 V3 hG3 hv3 ji;simp only[ay,Act.put,tA,exv (hv3 22 de)];replace HO:=ae hG3.1;clear hG3 hv3 ji;go_upto_region 5 with fail;refine fw 1 [_] [] HO (au (Gv Qf rfl rfl rfl) ai) ?_
  intro v4 V4 hG4 hv4 ma;simp only[ay,Act.put,tA];have hO:=hG4.1;refine kg hO 1 Aw (hv4 0 de) ?_
  clear hO;intro Dy hO hk0;replace HO:=ae hO;clear hO hG4 hv4 ma hk0;go_wp2_with fail;exact vo results122 Ik rfl rfl (aa HO) uq rfl rfl
 ·
  obtain⟨b,ls,rfl⟩ : ∃ b ls,l=b::ls:=by
   cases l with
   | nil=>exact absurd (show([]:List UInt8).length<2 by decide) g0
   | cons b ls=>exact⟨b,ls,rfl⟩
  have Na:=ae (show decide (((tx (b::ls)).size:Int)<2)=false from dw (by rw[xw];omega));clear g0
  by_cases c0:ls=[107,103]
  ·
   have HC0:=ae (show decide (ls=[107,103])=true from dm c0);have ho:o=none:=by rw[aa Jo,aak (aa HU) ((acu ls).2 (by simp only[c0,true_or,or_true]))]
   subst ho;clear Jo c0;go_upto_region 4 with fail;refine fw 23 [_,_,_,_,_,_,_,_,_,_,_,_,_,_,_,_,_,_,_,_,_,_,_] [] HO (dh aF (au (Ar rfl (aT 0) rfl) (au (wu rfl (aT 1) (fe _) rfl (aa Na)) (dh (aT 2) (ku (jh rfl aF) (ku (Dq (ls:=ls) rfl (aT 4) rfl rfl) (ku (Gq (p:=ls) (q:=[107,103]) rfl (aT 5) (fe _) (aa HC0) rfl) (au (mh rfl (aT 3) (aT 6)) (dh (aT 7) (ve (ve (ve (au (qj rfl (aT 8) (fe _)) (dh (aT 12) (ve (ve (ve (au (qj rfl (aT 13) (fe _)) (dh (aT 17) (ve (ve (ve (au (qj rfl (aT 18) (fe _)) ai))))))))))))))))))))))) ?_
   intro v3 V3 hG3 hv3 ji;simp only[ay,Act.put,tA,exv (hv3 22 de)];replace HO:=ae hG3.1;clear hG3 hv3 ji;go_upto_region 5 with fail;refine fw 1 [_] [] HO (au (Gv Qf rfl rfl rfl) ai) ?_
   intro v4 V4 hG4 hv4 ma;simp only[ay,Act.put,tA];have hO:=hG4.1;refine kg hO 1 Aw (hv4 0 de) ?_
   clear hO;intro Dy hO hk0;replace HO:=ae hO;clear hO hG4 hv4 ma hk0;go_wp2_with fail;exact vo results122 Ik rfl rfl (aa HO) uq rfl rfl
  ·
   by_cases c1:ls=[109,105,110]
   ·
    have HC0:=ae (show decide (ls=[107,103])=false from dw c0);have Fj:=ae (show decide (ls=[109,105,110])=true from dm c1);have ho:o=none:=by rw[aa Jo,aak (aa HU) ((acu ls).2 (by simp only[c1,true_or,or_true]))]
    subst ho;clear Jo c0 c1;go_upto_region 4 with fail;refine fw 23 [_,_,_,_,_,_,_,_,_,_,_,_,_,_,_,_,_,_,_,_,_,_,_] [] HO (dh aF (au (Ar rfl (aT 0) rfl) (au (wu rfl (aT 1) (fe _) rfl (aa Na)) (dh (aT 2) (ku (jh rfl aF) (ku (Dq (ls:=ls) rfl (aT 4) rfl rfl) (ku (Gq (p:=ls) (q:=[107,103]) rfl (aT 5) (fe _) (aa HC0) rfl) (au (mh rfl (aT 3) (aT 6)) (dh (aT 7) (ku (jh rfl aF) (ku (Dq (ls:=ls) rfl (aT 9) rfl rfl) (ku (Gq (p:=ls) (q:=[109,105,110]) rfl (aT 10) (fe _) (aa Fj) rfl) (au (mh rfl (aT 8) (aT 11)) (dh (aT 12) (ve (ve (ve (au (qj rfl (aT 13) (fe _)) (dh (aT 17) (ve (ve (ve (au (qj rfl (aT 18) (fe _)) ai))))))))))))))))))))))) ?_
    intro v3 V3 hG3 hv3 ji;simp only[ay,Act.put,tA,exv (hv3 22 de)];replace HO:=ae hG3.1;clear hG3 hv3 ji;go_upto_region 5 with fail;refine fw 1 [_] [] HO (au (Gv Qf rfl rfl rfl) ai) ?_
    intro v4 V4 hG4 hv4 ma;simp only[ay,Act.put,tA];have hO:=hG4.1;refine kg hO 1 Aw (hv4 0 de) ?_
    clear hO;intro Dy hO hk0;replace HO:=ae hO;clear hO hG4 hv4 ma hk0;go_wp2_with fail;exact vo results122 Ik rfl rfl (aa HO) uq rfl rfl
   ·
    by_cases c2:ls=[104]
    ·
     have HC0:=ae (show decide (ls=[107,103])=false from dw c0);have Fj:=ae (show decide (ls=[109,105,110])=false from dw c1);have Wt:=ae (show decide (ls=[104])=true from dm c2);have ho:o=none:=by rw[aa Jo,aak (aa HU) ((acu ls).2 (by simp only[c2,true_or,or_true]))]
     subst ho;clear Jo c0 c1 c2;go_upto_region 4 with fail;refine fw 23 [_,_,_,_,_,_,_,_,_,_,_,_,_,_,_,_,_,_,_,_,_,_,_] [] HO (dh aF (au (Ar rfl (aT 0) rfl) (au (wu rfl (aT 1) (fe _) rfl (aa Na)) (dh (aT 2) (ku (jh rfl aF) (ku (Dq (ls:=ls) rfl (aT 4) rfl rfl) (ku (Gq (p:=ls) (q:=[107,103]) rfl (aT 5) (fe _) (aa HC0) rfl) (au (mh rfl (aT 3) (aT 6)) (dh (aT 7) (ku (jh rfl aF) (ku (Dq (ls:=ls) rfl (aT 9) rfl rfl) (ku (Gq (p:=ls) (q:=[109,105,110]) rfl (aT 10) (fe _) (aa Fj) rfl) (au (mh rfl (aT 8) (aT 11)) (dh (aT 12) (ku (jh rfl aF) (ku (Dq (ls:=ls) rfl (aT 14) rfl rfl) (ku (Gq (p:=ls) (q:=[104]) rfl (aT 15) (fe _) (aa Wt) rfl) (au (mh rfl (aT 13) (aT 16)) (dh (aT 17) (ve (ve (ve (au (qj rfl (aT 18) (fe _)) ai))))))))))))))))))))))) ?_
     intro v3 V3 hG3 hv3 ji;simp only[ay,Act.put,tA,exv (hv3 22 de)];replace HO:=ae hG3.1;clear hG3 hv3 ji;go_upto_region 5 with fail;refine fw 1 [_] [] HO (au (Gv Qf rfl rfl rfl) ai) ?_
     intro v4 V4 hG4 hv4 ma;simp only[ay,Act.put,tA];have hO:=hG4.1;refine kg hO 1 Aw (hv4 0 de) ?_
     clear hO;intro Dy hO hk0;replace HO:=ae hO;clear hO hG4 hv4 ma hk0;go_wp2_with fail;exact vo results122 Ik rfl rfl (aa HO) uq rfl rfl
    ·
     by_cases c3:ls=[114,97,100]
     ·
      have HC0:=ae (show decide (ls=[107,103])=false from dw c0);have Fj:=ae (show decide (ls=[109,105,110])=false from dw c1);have Wt:=ae (show decide (ls=[104])=false from dw c2);have HC3:=ae (show decide (ls=[114,97,100])=true from dm c3);have ho:o=none:=by rw[aa Jo,aak (aa HU) ((acu ls).2 (by simp only[c3,true_or,or_true]))]
      subst ho;clear Jo c0 c1 c2 c3;go_upto_region 4 with fail;refine fw 23 [_,_,_,_,_,_,_,_,_,_,_,_,_,_,_,_,_,_,_,_,_,_,_] [] HO (dh aF (au (Ar rfl (aT 0) rfl) (au (wu rfl (aT 1) (fe _) rfl (aa Na)) (dh (aT 2) (ku (jh rfl aF) (ku (Dq (ls:=ls) rfl (aT 4) rfl rfl) (ku (Gq (p:=ls) (q:=[107,103]) rfl (aT 5) (fe _) (aa HC0) rfl) (au (mh rfl (aT 3) (aT 6)) (dh (aT 7) (ku (jh rfl aF) (ku (Dq (ls:=ls) rfl (aT 9) rfl rfl) (ku (Gq (p:=ls) (q:=[109,105,110]) rfl (aT 10) (fe _) (aa Fj) rfl) (au (mh rfl (aT 8) (aT 11)) (dh (aT 12) (ku (jh rfl aF) (ku (Dq (ls:=ls) rfl (aT 14) rfl rfl) (ku (Gq (p:=ls) (q:=[104]) rfl (aT 15) (fe _) (aa Wt) rfl) (au (mh rfl (aT 13) (aT 16)) (dh (aT 17) (ku (jh rfl aF) (ku (Dq (ls:=ls) rfl (aT 19) rfl rfl) (ku (Gq (p:=ls) (q:=[114,97,100]) rfl (aT 20) (fe _) (aa HC3) rfl) (au (mh rfl (aT 18) (aT 21)) ai))))))))))))))))))))))) ?_
      intro v3 V3 hG3 hv3 ji;simp only[ay,Act.put,tA,exv (hv3 22 de)];replace HO:=ae hG3.1;clear hG3 hv3 ji;go_upto_region 5 with fail;refine fw 1 [_] [] HO (au (Gv Qf rfl rfl rfl) ai) ?_
      intro v4 V4 hG4 hv4 ma;simp only[ay,Act.put,tA];have hO:=hG4.1;refine kg hO 1 Aw (hv4 0 de) ?_
      clear hO;intro Dy hO hk0;replace HO:=ae hO;clear hO hG4 hv4 ma hk0;go_wp2_with fail;exact vo results122 Ik rfl rfl (aa HO) uq rfl rfl
     ·
      have HC0:=ae (show decide (ls=[107,103])=false from dw c0);have Fj:=ae (show decide (ls=[109,105,110])=false from dw c1);have Wt:=ae (show decide (ls=[104])=false from dw c2);have HC3:=ae (show decide (ls=[114,97,100])=false from dw c3);have Qp:=ae (show Ld (tx ls)=false by cases e:Ld (tx ls)with
       | false=>rfl
       | true=>rcases(acu ls).1 e with h|h|h|h<;>contradiction)
      clear c0 c1 c2 c3;go_upto_region 4 with fail;refine fw 23 [_,_,_,_,_,_,_,_,_,_,_,_,_,_,_,_,_,_,_,_,_,_,_] [] HO (dh aF (au (Ar rfl (aT 0) rfl) (au (wu rfl (aT 1) (fe _) rfl (aa Na)) (dh (aT 2) (ku (jh rfl aF) (ku (Dq (ls:=ls) rfl (aT 4) rfl rfl) (ku (Gq (p:=ls) (q:=[107,103]) rfl (aT 5) (fe _) (aa HC0) rfl) (au (mh rfl (aT 3) (aT 6)) (dh (aT 7) (ku (jh rfl aF) (ku (Dq (ls:=ls) rfl (aT 9) rfl rfl) (ku (Gq (p:=ls) (q:=[109,105,110]) rfl (aT 10) (fe _) (aa Fj) rfl) (au (mh rfl (aT 8) (aT 11)) (dh (aT 12) (ku (jh rfl aF) (ku (Dq (ls:=ls) rfl (aT 14) rfl rfl) (ku (Gq (p:=ls) (q:=[104]) rfl (aT 15) (fe _) (aa Wt) rfl) (au (mh rfl (aT 13) (aT 16)) (dh (aT 17) (ku (jh rfl aF) (ku (Dq (ls:=ls) rfl (aT 19) rfl rfl) (ku (Gq (p:=ls) (q:=[114,97,100]) rfl (aT 20) (fe _) (aa HC3) rfl) (au (mh rfl (aT 18) (aT 21)) ai))))))))))))))))))))))) ?_
      intro v3 V3 hG3 hv3 ji;simp only[ay,Act.put,tA,exv (hv3 22 de)];replace HO:=ae hG3.1;clear hG3 hv3 ji;obtain⟨o2,ho2⟩ : ∃ o2,o2=zy (tx ls) Ai:=⟨_,rfl⟩
      obtain⟨on,hon⟩ : ∃ on,on=findB b.toNat pwL:=⟨_,rfl⟩
      have HN2:=ae (show ∀ W,Calls prog 174 #[.string (tx ls)] W (gp (boj o2) W)from fun W=>ahl W ho2);have HPN:=ae (show(findB b.toNat pwL).getD 0=on.getD 0∧(findB b.toNat pwL).isSome=on.isSome by rw[hon];exact⟨rfl,rfl⟩);have Us:=ae ho2;have HON:=ae hon;clear ho2 hon
      cases o2 with
      | none =>
       have ho:o=none:=by rw[aa Jo,bdg (aa HU) (aa Us).symm]
       subst ho;clear Jo Us HON;go_upto_region 6 with fail;refine fw 7 [_,_,_,_,_,_,_] [6] HO (dh aF (au (Dq (ls:=ls) rfl (aT 0) rfl rfl) (au (sc1 func174 (aT 1) (fun W v0 hG h0=>by cases h0;exact(aa HN2) W)) (dh (aT 2) (pq [bz zV,ax (.bool false)] (aT 3) (pq _ (aT 3) (Am Xu ai))))))) ?_
       intro v4 V4 hG4 hv4 ma;obtain⟨alv,e6,ym,Bg⟩:=(show qw 113 zV V3.heap.size V4 (v4 6)from hv4 6 de)
       simp only[ay,Act.put,tA,exv (hv4 5 de),e6];have hO:=hG4.1;replace hO:=Own.add (aa HO) hG4.2 ym Bg;clear ym Bg;refine kg hO 0 Aw (hv4 4 de) ?_
       clear hO;intro Dy hO hk0;replace HO:=ae hO;clear hO hG4 hv4 ma hk0;try clear e6;have hmm:=@run_makeMap prog;go_wp2_with fail;have q0:=aqv.start Dy;generalize Dy.alloc (.map #[] 0)=ctc at *;obtain⟨ctb,e,q1⟩:=q0.ins 110 (-9) kr;rw[e];clear e q0;go_wp2_with fail;obtain⟨cta,e,q2⟩:=q1.ins 117 (-6) kr;rw[e];clear e q1;go_wp2_with fail;obtain⟨csz,e,q3⟩:=q2.ins 109 (-3) kr;rw[e];clear e q2;go_wp2_with fail;obtain⟨csy,e,q4⟩:=q3.ins 107 3 kr;rw[e];clear e q3;go_wp2_with fail;obtain⟨csx,e,q5⟩:=q4.ins 77 6 kr;rw[e];clear e q4;go_wp2_with fail;obtain⟨byx,e,q6⟩:=q5.ins 71 9 kr;rw[e];clear e q5;have xg:=ae (show Xo byx Dy.heap.size pwL from q6.map);have hO:=Own.step _ _ (aa HO) q6.below;clear HO q6 hmm;have HO:=ae hO;clear hO;go_upto_region 8 with fail;refine fw 9 [_,_,_,_,_,_,_,_,_] [] HO (dh aF (dh aF (au (Pf (ls:=ls) rfl (aT 1) rfl rfl) (au (avy (L:=pwL) rfl (aT 0) (aT 2) (fun W h=>(aa xg).below h.2) (aa HPN).1 (aa HPN).2 rfl) (dh (aT 3) (pq [ax (.int .i64 (on.getD 0)),ax (.bool on.isSome)] (aT 4) (pq _ (aT 4) (Ak (aT 5) (Ak (aT 6) ai))))))))) ?_
       intro v5 V5 mo hv5 hne5;simp only[ay,Act.put,tA,show v5 5 = .int .i64 (on.getD 0)from hv5 5 de,show v5 6 = .bool on.isSome from hv5 6 de,show v5 7 = .int .i64 (on.getD 0)from hv5 7 de,show v5 8 = .bool on.isSome from hv5 8 de];replace HO:=ae mo.1;clear mo hv5 hne5;go_upto_region 9 with fail;refine fw 6 [_,_,_,_,_,_] [] HO (dh aF (au (tq rfl (aT 0) rfl rfl) (dh (aT 1) (ve (ve (au (qj rfl (aT 2) (fe _)) ai)))))) ?_
       intro v6 V6 qb hv6 vw;simp only[ay,Act.put,tA,exv (hv6 5 de)];replace HO:=ae qb.1;clear qb hv6 vw;go_upto_region 10 with fail;refine fw 1 [_] [] HO (au (Gv Qf rfl rfl rfl) ai) ?_
       intro v7 V7 vg hv7 zw;simp only[ay,Act.put,tA];have hO:=vg.1;refine kg hO 2 Aw (hv7 0 de) ?_
       clear hO;intro Xm hO hk0;replace HO:=ae hO;clear hO vg hv7 zw hk0;go_wp2_with fail;exact vo results122 Ik rfl rfl (aa HO) Ed rfl rfl
      | some e2 =>
       obtain⟨f,p,q⟩:=e2;go_upto_region 6 with fail;refine fw 7 [_,_,_,_,_,_,_] [6] HO (dh aF (au (Dq (ls:=ls) rfl (aT 0) rfl rfl) (au (sc1 func174 (aT 1) (fun W v0 hG h0=>by cases h0;exact(aa HN2) W)) (dh (aT 2) (pq [bz [.k (eK f),.r (jw p q)],ax (.bool true)] (aT 3) (pq _ (aT 3) (Am Xu ai))))))) ?_
       intro v4 V4 hG4 hv4 ma;obtain⟨alv,e6,ym,Bg⟩:=(show qw 113 zV V3.heap.size V4 (v4 6)from hv4 6 de)
       simp only[ay,Act.put,tA,exv (hv4 5 de),e6];have hO:=hG4.1;replace hO:=Own.add (aa HO) hG4.2 ym Bg;clear ym Bg;refine kg hO 0 Aw (hv4 4 de) ?_
       clear hO;intro Dy hO hk0;replace HO:=ae hO;clear hO hG4 hv4 ma hk0;try clear e6;have hmm:=@run_makeMap prog;go_wp2_with fail;have q0:=aqv.start Dy;generalize Dy.alloc (.map #[] 0)=ctc at *;obtain⟨ctb,e,q1⟩:=q0.ins 110 (-9) kr;rw[e];clear e q0;go_wp2_with fail;obtain⟨cta,e,q2⟩:=q1.ins 117 (-6) kr;rw[e];clear e q1;go_wp2_with fail;obtain⟨csz,e,q3⟩:=q2.ins 109 (-3) kr;rw[e];clear e q2;go_wp2_with fail;obtain⟨csy,e,q4⟩:=q3.ins 107 3 kr;rw[e];clear e q3;go_wp2_with fail;obtain⟨csx,e,q5⟩:=q4.ins 77 6 kr;rw[e];clear e q4;go_wp2_with fail;obtain⟨byx,e,q6⟩:=q5.ins 71 9 kr;rw[e];clear e q5;have xg:=ae (show Xo byx Dy.heap.size pwL from q6.map);have hO:=Own.step _ _ (aa HO) q6.below;clear HO q6 hmm;have HO:=ae hO;clear hO
       cases on with
       | none =>
        have ho:o=none:=by rw[aa Jo,bhk (aa HU) (aa HON).symm]
        subst ho;clear Jo Us HON;go_upto_region 8 with fail;refine fw 9 [_,_,_,_,_,_,_,_,_] [] HO (dh aF (dh aF (au (Pf (ls:=ls) rfl (aT 1) rfl rfl) (au (avy (L:=pwL) rfl (aT 0) (aT 2) (fun W h=>(aa xg).below h.2) (aa HPN).1 (aa HPN).2 rfl) (dh (aT 3) (pq [ax (.int .i64 0),ax (.bool false)] (aT 4) (pq _ (aT 4) (Ak (aT 5) (Ak (aT 6) ai))))))))) ?_
        intro v5 V5 mo hv5 hne5;simp only[ay,Act.put,tA,exv (hv5 5 de),exv (hv5 6 de),exv (hv5 7 de),exv (hv5 8 de)];replace HO:=ae mo.1;clear mo hv5 hne5;go_upto_region 9 with fail;refine fw 6 [_,_,_,_,_,_] [] HO (dh aF (au (tq rfl (aT 0) rfl rfl) (dh (aT 1) (ku (jh rfl aF) (ku (tq rfl (aT 3) rfl rfl) (au (mh rfl (aT 2) (aT 4)) ai)))))) ?_
        intro v6 V6 qb hv6 vw;simp only[ay,Act.put,tA,exv (hv6 5 de)];replace HO:=ae qb.1;clear qb hv6 vw;go_upto_region 10 with fail;refine fw 1 [_] [] HO (au (Gv Qf rfl rfl rfl) ai) ?_
        intro v7 V7 vg hv7 zw;simp only[ay,Act.put,tA];have hO:=vg.1;refine kg hO 2 Aw (hv7 0 de) ?_
        clear hO;intro Xm hO hk0;replace HO:=ae hO;clear hO vg hv7 zw hk0;go_wp2_with fail;exact vo results122 Ik rfl rfl (aa HO) Ed rfl rfl
       | some n =>
        have ho:o=some (f,jw p q*Ec (Rat.divInt 10 1) n):=by rw[aa Jo,brz (aa HU) (aa HON).symm (aa Qp) (aa Us).symm]
        obtain⟨z,hz⟩ : ∃ z,z=jw p q*Ec (Rat.divInt 10 1) n:=⟨_,rfl⟩
        obtain⟨y,hy⟩ : ∃ y,y=Ec (Rat.divInt 10 1) n:=⟨_,rfl⟩
        rw[← hz]at ho;have hpn:=(brr (aa HON).symm).2.2;have hok:=(Ti (aa Us).symm).1;have s10:Ad (1+1) (Rat.divInt 10 1):=cmo (K:=1) (je.of_le (by rw[fu];omega) Zn om) om;have HPW:=ae (show ∀ W v0,bz [.r (Rat.divInt 10 1)] W v0→Calls prog 71 #[v0,.int .i64 n] W (gp (bz [.r y]) W)from fun W v0 h0=>hy ▸ brg (K:=1) (b:=9) s10 de hpn om om W v0 h0);have HMU:=ae (show ∀ W v0 v1,bz [.r (jw p q)] W v0→bz [.r y] W v1→Calls prog 62 #[v0,v1] W (gp (bz [.r z]) W)from fun W v0 v1 h0 h1=>by
         subst hy hz;exact bma (K:=(1+1)*9+1) (Ad.mono (afe hok) om om) (Ad.Ec (K:=1+1) (b:=9) s10 de hpn om) h0 h1)
        subst ho;clear hz hy hpn hok s10 Jo Us HON;go_upto_region 8 with fail;refine fw 9 [_,_,_,_,_,_,_,_,_] [] HO (dh aF (dh aF (au (Pf (ls:=ls) rfl (aT 1) rfl rfl) (au (avy (L:=pwL) rfl (aT 0) (aT 2) (fun W h=>(aa xg).below h.2) (aa HPN).1 (aa HPN).2 rfl) (dh (aT 3) (pq [ax (.int .i64 n),ax (.bool true)] (aT 4) (pq _ (aT 4) (Ak (aT 5) (Ak (aT 6) ai))))))))) ?_
        intro v5 V5 mo hv5 hne5;simp only[ay,Act.put,tA,show v5 5 = .int .i64 n from hv5 5 de,exv (hv5 6 de),show v5 7 = .int .i64 n from hv5 7 de,exv (hv5 8 de)];replace HO:=ae mo.1;clear mo hv5 hne5;go_upto_region 9 with fail;refine fw 6 [_,_,_,_,_,_] [] HO (dh aF (au (tq rfl (aT 0) rfl rfl) (dh (aT 1) (ku (jh rfl aF) (ku (tq rfl (aT 3) rfl rfl) (au (mh rfl (aT 2) (aT 4)) ai)))))) ?_
        intro v6 V6 qb hv6 vw;simp only[ay,Act.put,tA,exv (hv6 5 de)];replace HO:=ae qb.1;clear qb hv6 vw;go_upto_region 11 with fail;refine Nw 7 [_,_,_,_,_,_,_] [] HO (au (Ky (b:=alv) (off:=0) rfl aF rfl rfl) (Ea Dt me0 (aT 0) [.k (eK f)] [.r (jw p q)] [] (au (sc1 func95 (fe _) (fun W v0 hG h0=>by cases h0;exact atr 10 om om W)) (dh aF (au (sc2 func71 (aT 2) (aT 3) (fun W v0 v1 hG h0 h1=>by cases h1;exact(aa HPW) W _ h0)) (au (sc2 func62 (aT 1) (aT 4) (fun W v0 v1 hG h0 h1=>(aa HMU) W _ _ h0 h1)) (au (Ky (b:=alv) (off:=0) rfl aF rfl rfl) ai))))))) ?_
        intro v7 V7 vg hv7 zw;simp only[ay,Act.put,tA,show v7 6 = .pointer (some ⟨alv,7,none⟩)from hv7 6 de];have hO:=vg.1;refine asz hO 0 [.k (eK f)] [.r (jw p q)] [.r z] [] rfl Cv rfl (show bz [.r z] V7 (v7 5)from hv7 5 de) rfl rfl rfl ?_
        intro Xm rf hk0;replace hO:=rf;clear rf;replace HO:=ae hO;clear hO vg hv7 zw hk0;go_upto_region 12 with fail;refine fw 1 [_] [] HO (xh Zb me0 aF ai) ?_
        intro v8 V8 Eb En Ju;simp only[ay,Act.put,tA];have hO:=Eb.1;refine kg hO 2 Aw (En 0 de) ?_
        clear hO;intro air hO hk0;replace HO:=ae hO;clear hO Eb En Ju hk0;go_wp2_with fail;exact vo results122 Ik rfl rfl (aa HO) Ed rfl rfl
theorem alo (l:List UInt8) (w:Wq):Calls prog 122 #[.string (tx l)] w (gp (bop (Af (tx l))) w):=by
 cases h:zy (tx l) Ai with
 | some e =>
  obtain⟨f,p,q⟩:=e;rw[bwq h];exact bsz w fun W=>ahl W h.symm
 | none=>exact bnk w h rfl
end Sb


namespace Sb
theorem ceu {b:Bool} {d:List UInt8} (h:digU b d=some p) : -9≤p∧p≤9:=by
 unfold digU at h
 split at h
 ·
  split at h
  ·
   rename_i hc
   cases h
   split<;>omega
  ·
   cases h
 ·
  cases h
theorem cep {l:List UInt8} (h:Ow l=some (a,p)) : -9≤p∧p≤9:=by
 unfold Ow at h
 split at h
 ·
  cases h
 ·
  split at h
  ·
   cases h;omega
  ·
   obtain⟨q,hq,e⟩:=bbi.1 h
   cases e
   exact ceu hq
theorem cer {f:ByteArray×Int} (h:Ni s=some f) : -9≤f.2∧f.2≤9:=by
 unfold Ni at h
 obtain⟨q,hq,e⟩:=bbi.1 h
 cases e
 exact cep (a:=q.1) (p:=q.2) hq
theorem atq : ∀ {ps:List ByteArray} {f:ByteArray×Int},f∈(readAll ps).1 → -9≤f.2∧f.2≤9
 | [],f,h=>by cases h
 | p::r,f,h=>by
  cases e:Ni p with
  | none=>rw[anm e]at h;cases h
  | some g =>
   rw[anl e]at h
   rcases yx.1 h with h|h
   ·
    rw[h];exact cer e
   ·
    exact atq h
theorem ani {l:List (ByteArray×Int)} (hl : ∀ f∈l,-9≤f.2∧f.2≤9) (hs:sg=1∨sg = -1) {f:ByteArray×Int} (h:f∈ze sg l) : -9≤f.2∧f.2≤9:=by
 obtain⟨g,hg,rfl⟩:=Nv.1 h
 have hb:=hl g hg
 show -9≤wrap64 (g.2*sg)∧wrap64 (g.2*sg)≤9
 rcases hs with rfl|rfl
 ·
  rw[Cs _ om];omega
 ·
  rw[Cs _ om];omega
theorem Tg (sg:Int) (s:ByteArray) (hs:s.size≤600):(ze sg (readAll (parts s)).1).length≤601:=by
 unfold ze
 rw[Rm]
 have h1:=bct (parts s)
 have h2:=aya s
 omega
theorem awe (hs:s.size≤600) (h:Pz s=some fs):(∀ f∈fs,-9≤f.2∧f.2≤9)∧fs.length≤1300:=by
 obtain⟨l,hl⟩ : ∃ l,l=s.data.toList:=⟨_,rfl⟩
 have hls:l.length=s.size:=by rw[hl,oq]
 unfold Pz at h
 rw[← hl]at h
 by_cases hc:(47:UInt8)∈l
 ·
  rw[if_pos hc]at h;have hlen:=Ez List.length (Um hc).1;rw[Bj,Db]at hlen;have hza:(tx (Au 47 l)).size≤600:=by rw[xw];omega
  have hzb:(tx (xu 47 l)).size≤600:=by rw[xw];omega
  have k1:=Tg 1 _ hza;have k2:=Tg (-1) _ hzb
  split at h
  ·
   split at h
   ·
    cases h
    exact⟨fun f hf=>ani (fun g hg=>atq hg) (.inr rfl) hf,by omega⟩
   ·
    cases h
  ·
   split at h
   ·
    cases h
    refine⟨fun f hf => ?_,by rw[Bj];omega⟩
    rcases Ku.1 hf with hf|hf
    ·
     exact ani (fun g hg=>atq hg) (.inl rfl) hf
    ·
     exact ani (fun g hg=>atq hg) (.inr rfl) hf
   ·
    cases h
 ·
  rw[if_neg hc]at h;have k1:=Tg 1 _ hs
  split at h
  ·
   cases h;exact⟨fun f hf=>absurd hf mi,by simp⟩
  ·
   split at h
   ·
    cases h
    exact⟨fun f hf=>ani (fun g hg=>atq hg) (.inl rfl) hf,by omega⟩
   ·
    cases h
theorem apq : ∀ fs:List (ByteArray×Int),(∀ (k:Nat) (f:ByteArray×Int),k<fs.length→fs[k]? = some f → ∃ u y,Af f.1=some (u,y)) ∨
  ∃ (n:Nat) (x:ByteArray×Int),fs[n]? = some x∧Af x.1=none ∧ ∀ (k:Nat) (f:ByteArray×Int),k<n→fs[k]? = some f → ∃ u y,Af f.1=some (u,y)
 | [] => .inl fun k f h=>absurd h (arv _)
 | g::r=>by
  cases e:Af g.1 with
  | none=>exact .inr ⟨0,g,rfl,e,fun k f h=>absurd h (arv _)⟩
  | some v =>
   obtain⟨u,y⟩:=v
   rcases apq r with h|⟨n,x,h1,h2,h3⟩
   ·
    refine .inl fun k f hk hf => ?_
    cases k with
    | zero=>cases hf;exact⟨u,y,e⟩
    | succ k=>exact h k f (by simpa using hk) hf
   ·
    refine .inr ⟨n+1,x,h1,h2,fun k f hk hf => ?_⟩
    cases k with
    | zero=>cases hf;exact⟨u,y,e⟩
    | succ k=>exact h3 k f om hf
end Sb
end Go.Proofs.YtfgeaakhlcaibaaGreatDoor
