/- Texts beneath a law of layer 1. -/
import Derived.Test.YtfgeaakhlcaibaaGreatDoorDc5
set_option maxRecDepth 100000
set_option maxHeartbeats 16000000
namespace Go.Proofs.YtfgeaakhlcaibaaGreatDoor
open Go.RowKit
open Go.Proofs.Tryz
open Go renaming World → Wq
open Go renaming Value → Vq
variable {W w V w0 w' W' Wp:Wq} {x y p:Operand} {P:Program} {n off m d i B off' F ms id c1 c1a Ke c2 sz B':Nat} {cs us ds:List Vq} {Q:Exit→Act→Wq→Prop} {l rest:List Oper} {ty TB TL:TypeId} {pos:String} {af:Array Edge} {T:Nat→Wq→Vq→Prop} {a0:Act} {al l1 Jl Kc l2:List Nat} {gd:Option (Nat×Bool)} {o:Oper} {G:Wq→Prop} {ρ:Operand→Vq} {S:Nat→Prop} {v0 v1:Vq} {ops:Array Oper} {A1 Jp Kj A2:Option Addr} {Yz m1b n1:Bool} {x1:Rat} {ts:List (Wq→Vq→Prop)} {ps:List (Nat×Operand)} {ats:Array TypeId} {E:Wq→Wq→Prop} {sl:Nat→Tmp}

theorem cdq (n d:Int) (w:Wq) (b1 : -9223372036854775808≤n) (b2:n≤9223372036854775807) (b3 : -9223372036854775808≤d) (b4:d≤9223372036854775807) :
  Calls prog 67 #[(.agg #[.int .i64 n,.int .i64 d])] w fun e w'=>Sy w n d e w':=by
 have HN1:=ae (fun W=>Je n b1 b2 W)
 have HN2:=ae (fun W=>Je d b3 b4 W)
 clear b1 b2 b3 b4
 go_enter func67,ntmps67
 go_wp2_with fail
 obtain⟨n0,n1,hsz,hw0⟩:=Ci w (.cells #[.int .i64 n,.int .i64 d] 23) (.cells #[.int .i64 0,.bool false,.slice none 0 0,.int .i64 0,.bool false,.slice none 0 0] 79)
 generalize ((w.alloc (.cells #[.int .i64 n,.int .i64 d] 23)).alloc (.cells #[.int .i64 0,.bool false,.slice none 0 0,.int .i64 0,.bool false,.slice none 0 0] 79))=W0 at *
 have Dk:W0.cell? ⟨w.heap.size,0,none⟩=some (.int .i64 n):=ag n0 0
 have Dj:W0.cell? ⟨w.heap.size,1,none⟩=some (.int .i64 d):=ag n0 1
 have q0:w.heap.size<W0.heap.size:=by omega
 have Ev:W0.cell? ⟨w.heap.size+1,0,none⟩=some (.int .i64 0):=ag n1 0
 have Eu:W0.cell? ⟨w.heap.size+1,1,none⟩=some (.bool false):=ag n1 1
 have Qc:W0.cell? ⟨w.heap.size+1,2,none⟩=some (.slice none 0 0):=ag n1 2
 have ahs:W0.cell? ⟨w.heap.size+1,3,none⟩=some (.int .i64 0):=ag n1 3
 have apw:W0.cell? ⟨w.heap.size+1,4,none⟩=some (.bool false):=ag n1 4
 have apv:W0.cell? ⟨w.heap.size+1,5,none⟩=some (.slice none 0 0):=ag n1 5
 have q1:w.heap.size+1<W0.heap.size:=by omega
 have acr:=ah n1 0
 have acp:=ah n1 1
 have bnn:=ah n1 2
 have bnm:=ah n1 3
 have byg:=ah n1 4
 have byf:=ah n1 5
 have NR:=bg n1
 clear n0 n1
 go_region_held3 (fun w'=>w'.cell? ⟨w.heap.size,0,none⟩=some (.int .i64 n)∧w'.cell? ⟨w.heap.size,1,none⟩=some (.int .i64 d)) ((first|with_reducible exact⟨(hc _ _ q0).trans Dk,(hc _ _ q0).trans Dj⟩|with_reducible exact⟨Dk,Dj⟩|with_reducible exact⟨(mg _ _ _ _ _ _ _ _ om).trans ((hc _ _ q0).trans Dk),(mg _ _ _ _ _ _ _ _ om).trans ((hc _ _ q0).trans Dj)⟩|exact⟨(hc _ _ q0).trans Dk,(hc _ _ q0).trans Dj⟩|exact⟨Dk,Dj⟩|exact⟨(mg _ _ _ _ _ _ _ _ om).trans ((hc _ _ q0).trans Dk),(mg _ _ _ _ _ _ _ _ om).trans ((hc _ _ q0).trans Dj)⟩)) (first|(go_at_call 137;refine((aa HN1) _).mono ?_;clear HN1;rintro e w' ⟨s5,Ap,A5,c5,l5,rfl,Ff,hb⟩;have hbw:=cz (w:=W0) bem hb;obtain⟨hc,hfz⟩:=fq hbw)|(go_at_call 137;refine((aa HN2) _).mono ?_;rintro e w' ⟨s6,Di,A6,c6,l6,rfl,Lc,hb⟩;have Ff:=Ff.below hb;have hbw:=cz (w:=W0) bem hb;obtain⟨hc,hfz⟩:=fq hbw))
 have hblk:w'.heap[w.heap.size+1]? = some (.cells #[.int .i64 0,.bool false,.slice none 0 0,.int .i64 0,.bool false,.slice none 0 0] 79 (0,0)):=(hbw.block _ q1).trans NR.out
 have lu:=bg hblk
 have lh:Below w.heap.size w w':=az hw0 hbw
 clear hblk
 go_wp2_with fail
 exact bodyPost_ret (v:=(Value.agg #[.int .i64 s5,.bool Ap,.slice A5 l5.length c5,.int .i64 s6,.bool Di,.slice A6 l6.length c6])) (by simp[results,results67,go_sem,hc,Ev,Eu,Qc,ahs,apw,apv,q1]) rfl
  ⟨s5,Ap,A5,c5,l5,s6,Di,A6,c6,l6,rfl,(Ff).upto lu.out (Dl _ _ _ _ _ _ _ _ _ _) (qg _ _ _ _ _ _ _ _),(Lc).upto lu.out (Dl _ _ _ _ _ _ _ _ _ _) (qg _ _ _ _ _ _ _ _),lh.grown (qg _ _ _ _ _ _ _ _) lh.size (fun k hk=>by injection hk with hk;omega)⟩


def ckz (w:Wq) (t:Uq) (e:Ending) (w':Wq):Prop:=e = .returned (.tuple #[.agg #[.int .i64 t.n,.int .i64 t.d],.int .i64 t.e])∧Below w.heap.size w w'

def ctg (w:Wq) (q:Rat) (e:Ending) (w':Wq):Prop := ∃ (n d:Int) (ok:Bool),e = .returned (.tuple #[.agg #[.int .i64 n,.int .i64 d],.bool ok])∧Below w.heap.size w w'∧((ok=true∧jf q=⟨n,d,0⟩)∨(ok=false∧jf q=⟨0,0,3⟩))




structure FrQ (Wp W:Wq) (b:Nat):Prop where
 old:Wp.heap.size≤b
 zero:W.heap[b]? = some (.cells #[.slice none 0 0,.bool false,.slice none 0 0,.bool false] 68 (0,0))
theorem FrQ.lt {b:Nat} (h:FrQ Wp W b):b<W.heap.size:=lt_of_block h.zero
theorem FrQ.drew {Wp W:Wq} {b:Nat} (h:FrQ Wp W b):FrQ Wp W.drew b:=⟨h.old,h.zero⟩
theorem FrQ.below {b:Nat} (h:FrQ Wp W b) (hb:Below W.heap.size W w'):FrQ Wp w' b:=⟨h.old,(hb.block _ h.lt).trans h.zero⟩
theorem FrQ.new {b:Nat} (hb:Below Wp.heap.size Wp W) (e:b=W.heap.size):FrQ Wp (W.alloc (.cells #[.slice none 0 0,.bool false,.slice none 0 0,.bool false] 68 (0,0))) b:=by
 subst e;exact⟨hb.size,heap_alloc_new W _⟩
theorem FrQ.alloc {Wp W:Wq} {b:Nat} {o:Obj} (h:FrQ Wp W b):FrQ Wp (W.alloc o) b:=⟨h.old,(ags W _ b h.lt).trans h.zero⟩
theorem QV.upto {g:Nat} {T:TypeId} {cs:Array Vq} (h:QV w Jp c1a Jl Yz Kj Ke Kc m1b x1) (hg:w.heap[g]? = some (.cells cs T (0,0))) (hn:aqw cs) (hgr:w.grownBy w' (some g)):QV w' Jp c1a Jl Yz Kj Ke Kc m1b x1:=by
 obtain⟨d,h2,h3⟩:=h.den
 exact⟨h.num.upto hg hn hgr,d,h2.upto hg hn hgr,h3⟩
theorem QV.alloc {W:Wq} {o:Obj} {Jp:Option Addr} {c1a:Nat} {Jl:List Nat} {Yz:Bool} {Kj:Option Addr} {Ke:Nat} {Kc:List Nat} {m1b:Bool} {x1:Rat} (h1:QV W Jp c1a Jl Yz Kj Ke Kc m1b x1):QV (W.alloc o) Jp c1a Jl Yz Kj Ke Kc m1b x1:=h1.below ((df _ _).alloc (gu _) _)
def Ex (w:Wq) (b:Nat) (x:Rat):Prop := ∃ A c l m A' c' l' m',w.heap[b]? = some (.cells #[.slice A (List.length l) c,.bool m,.slice A' (List.length l') c',.bool m'] 68 (0,0))∧QV w A c l m A' c' l' m' x
theorem Ex.below {b:Nat} {x:Rat} (h:Ex w b x) (hb:Below w.heap.size w w'):Ex w' b x:=by
 obtain⟨A,c,l,m,A',c',l',m',h1,h2⟩:=h
 exact⟨A,c,l,m,A',c',l',m',(hb.block _ (lt_of_block h1)).trans h1,h2.below hb⟩
theorem Ex.new {b:Nat} (h1:QV W Jp c1a Jl Yz Kj Ke Kc m1b x1) (e:b=W.heap.size):Ex (W.alloc (.cells #[.slice Jp Jl.length c1a,.bool Yz,.slice Kj Kc.length Ke,.bool m1b] 68)) b x1:=by
 subst e;exact⟨_,_,_,_,_,_,_,_,heap_alloc_new W _,h1.alloc⟩
theorem Ex.alloc {W:Wq} {b:Nat} {x:Rat} {o:Obj} (h:Ex W b x):Ex (W.alloc o) b x:=h.below ((df _ _).alloc (gu _) _)
theorem ath {b:Nat} {a0 a1 a2 a3 u0 u1 u2 u3:Vq} {T:TypeId} (h:W.heap[b]? = some (.cells #[a0,a1,a2,a3] T (0,0))):((((W.setCell ⟨b,0,none⟩ u0).setCell ⟨b,1,none⟩ u1).setCell ⟨b,2,none⟩ u2).setCell ⟨b,3,none⟩ u3).heap[b]? = some (.cells #[u0,u1,u2,u3] T (0,0)):=by
 simp[World.setCell,avs,h]
theorem asx (A1:Option Addr) (c1:Nat) (l1:List Nat) (m1:Bool) (A2:Option Addr) (c2:Nat) (l2:List Nat) (m2:Bool) (q:Rat) (w:Wq) (h:QV w A1 c1 l1 m1 A2 c2 l2 m2 q) :
  Calls prog 63 #[(Value.agg #[.slice A1 l1.length c1,.bool m1,.slice A2 l2.length c2,.bool m2])] w fun e w'=>e = .returned (.bool (decide (q.num=0)))∧Below w.heap.size w w':=by
 have hd:decide (q.num=0)=decide (l1.length=0):=aer.2 (by rw[← h.num.nat.Ta];omega)
 rw[hd]
 have HI:=ae (fun W=>abt A1 c1 l1.length m1 W)
 obtain⟨o,ho⟩ : ∃ o,o=decide (l1.length=0):=⟨_,rfl⟩
 rw[← ho]at HI ⊢
 clear h hd ho
 go_enter func63,ntmps63
 go_wp2_with fail
 refine((aa HI) _).mono ?_
 rintro e w' ⟨rfl,hb⟩
 have lh:=az ((df _ _).alloc (gu _) (.cells #[.slice A1 l1.length c1,.bool m1,.slice A2 l2.length c2,.bool m2] 68)) hb
 clear hb
 go_wp2_with fail
 all_goals first|go_ret|skip
 exact⟨rfl,lh⟩


namespace Sb
def Zp (u:Vq):Prop:=(∀ n:Int,u ≠ .int .u64 n)∧u.oneCell'=true∧(∀ n:Int,u ≠ .int .u32 n)
def Nn (cs:List Vq):Prop := ∀ u∈cs,Zp u
structure Kind where
 size:Nat
 ok:Wq→List Vq→Prop
 noW : ∀ {W:Wq} {c:List Vq},ok W c→Nn c
 below : ∀ {W W':Wq} {c:List Vq},Below W.heap.size W W'→ok W c→ok W' c
 upto : ∀ {W W':Wq} {g:Nat} {T:TypeId} {cs c:List Vq},W.heap[g]? = some (.cells cs.toArray T (0,0))→Nn cs→W.grownBy W' (some g)→ok W c→ok W' c
 len : ∀ {W:Wq} {c:List Vq},ok W c→c.length=size
inductive lg where
 | v (u:Vq)
 | z (n:Int)
 | q (x:Rat)
 | r (x:Rat)
 | k (κ:Kind)
def lg.size:lg→Nat
 | .v _=>1
 | .z _=>3
 | .q _=>6
 | .r _=>4
 | .k κ=>κ.size
def ry:List lg→Nat
 | []=>0
 | l::ls=>l.size+ry ls
def Qo (W:Wq):lg→List Vq→Prop
 | .v u,c=>c=[u]∧Zp u
 | .z n,c => ∃ s1 n1 A1 c1 l1,c=[.int .i64 s1,.bool n1,.slice A1 (List.length l1) c1]∧iy W s1 n1 A1 c1 l1 n
 | .q x,c => ∃ s1 n1 A1 c1 l1 s2 n2 A2 c2 l2,c=[.int .i64 s1,.bool n1,.slice A1 (List.length l1) c1,.int .i64 s2,.bool n2,.slice A2 (List.length l2) c2]∧iy W s1 n1 A1 c1 l1 x.num∧iy W s2 n2 A2 c2 l2 (x.den:Int)
 | .r x,c => ∃ A1 c1 l1 m1 A2 c2 l2 m2,c=[.slice A1 (List.length l1) c1,.bool m1,.slice A2 (List.length l2) c2,.bool m2]∧QV W A1 c1 l1 m1 A2 c2 l2 m2 x
 | .k κ,c=>κ.ok W c
def gy (W:Wq):List lg→List Vq→Prop
 | [],cs=>cs=[]
 | l::ls,cs => ∃ c r,cs=c++r∧Qo W l c∧gy W ls r
theorem xc (n:Int):Zp (.int .i64 n):=⟨fun m h=>by simp at h,rfl,fun m h=>by simp at h⟩
theorem akv (b:Bool):Zp (.bool b):=⟨fun m h=>by simp at h,rfl,fun m h=>by simp at h⟩
theorem aku (A:Option Addr) (n c:Nat):Zp (.slice A n c):=⟨fun m h=>by simp at h,rfl,fun m h=>by simp at h⟩
theorem chs (A:Option Addr):Zp (.pointer A):=⟨fun m h=>by simp at h,rfl,fun m h=>by simp at h⟩
theorem Nn.arr (h:Nn cs):aga cs.toArray:=fun i n he=>(h (.int .u64 n) (Kt (i:=i) (by simpa using he))).1 n rfl
theorem Nn.cky (h:Nn cs):aqw cs.toArray:=fun i n he=>(h (.int .u32 n) (Kt (i:=i) (by simpa using he))).2.2 n rfl
theorem Qo.noW {l:lg} {c:List Vq} (h:Qo W l c):Nn c:=by
 cases l with
 | v u=>obtain⟨rfl,h⟩:=h;intro u' hu;rw[Rj.1 hu];exact h
 | z n =>
  obtain⟨_,_,_,_,_,rfl,_⟩:=h;intro u hu;simp only[yx,aez,or_false]at hu
  rcases hu with rfl|rfl|rfl
  all_goals first|exact xc _|exact akv _|exact aku _ _ _
 | q x =>
  obtain⟨_,_,_,_,_,_,_,_,_,_,rfl,_⟩:=h;intro u hu;simp only[yx,aez,or_false]at hu
  rcases hu with rfl|rfl|rfl|rfl|rfl|rfl
  all_goals first|exact xc _|exact akv _|exact aku _ _ _
 | r x =>
  obtain⟨_,_,_,_,_,_,_,_,rfl,_⟩:=h;intro u hu;simp only[yx,aez,or_false]at hu
  rcases hu with rfl|rfl|rfl|rfl
  all_goals first|exact xc _|exact akv _|exact aku _ _ _
 | k κ=>exact κ.noW h
theorem Qo.below {l:lg} {c:List Vq} (hb:Below W.heap.size W W') (h:Qo W l c):Qo W' l c:=by
 cases l with
 | v u=>exact h
 | z n =>
  obtain⟨s1,n1,A1,c1,l1,rfl,h1⟩:=h;exact⟨_,_,_,_,_,rfl,h1.below hb⟩
 | q x =>
  obtain⟨s1,n1,A1,c1,l1,s2,n2,A2,c2,l2,rfl,h1,h2⟩:=h;exact⟨_,_,_,_,_,_,_,_,_,_,rfl,h1.below hb,h2.below hb⟩
 | r x =>
  obtain⟨A1,c1,l1,m1,A2,c2,l2,m2,rfl,h1⟩:=h;exact⟨_,_,_,_,_,_,_,_,rfl,h1.below hb⟩
 | k κ=>exact κ.below hb h
theorem Qo.upto {g:Nat} {l:lg} {c:List Vq} {T:TypeId} (hg:W.heap[g]? = some (.cells cs.toArray T (0,0))) (hn:Nn cs) (hgr:W.grownBy W' (some g)) (h:Qo W l c):Qo W' l c:=by
 cases l with
 | v u=>exact h
 | z n =>
  obtain⟨s1,n1,A1,c1,l1,rfl,h1⟩:=h;exact⟨_,_,_,_,_,rfl,h1.upto hg hn.arr hgr⟩
 | q x =>
  obtain⟨s1,n1,A1,c1,l1,s2,n2,A2,c2,l2,rfl,h1,h2⟩:=h;exact⟨_,_,_,_,_,_,_,_,_,_,rfl,h1.upto hg hn.arr hgr,h2.upto hg hn.arr hgr⟩
 | r x =>
  obtain⟨A1,c1,l1,m1,A2,c2,l2,m2,rfl,h1⟩:=h;exact⟨_,_,_,_,_,_,_,_,rfl,h1.upto hg hn.cky hgr⟩
 | k κ=>exact κ.upto hg hn hgr h
theorem Qo.len {l:lg} {c:List Vq} (h:Qo W l c):c.length=l.size:=by
 cases l with
 | v u=>rw[h.1];rfl
 | z n=>obtain⟨_,_,_,_,_,rfl,_⟩:=h;rfl
 | q x=>obtain⟨_,_,_,_,_,_,_,_,_,_,rfl,_⟩:=h;rfl
 | r x=>obtain⟨_,_,_,_,_,_,_,_,rfl,_⟩:=h;rfl
 | k κ=>exact κ.len h
theorem gy.noW : ∀ {ls:List lg} {cs:List Vq},gy W ls cs→Nn cs
 | [],_,h=>by cases h;intro u hu;cases hu
 | _::ls,_,⟨c,r,e,hq,h⟩=>by
  subst e;intro u' hm
  rcases Ku.1 hm with hm|hm
  ·
   exact hq.noW _ hm
  ·
   exact gy.noW (ls:=ls) h _ hm
theorem gy.below (hb:Below W.heap.size W W') : ∀ {ls:List lg} {cs:List Vq},gy W ls cs→gy W' ls cs
 | [],_,h=>h
 | _::ls,_,⟨c,r,e,hq,h⟩=>⟨c,r,e,hq.below hb,gy.below hb (ls:=ls) h⟩
theorem gy.upto {g:Nat} {T:TypeId} (hg:W.heap[g]? = some (.cells ds.toArray T (0,0))) (hn:Nn ds) (hgr:W.grownBy W' (some g)) : ∀ {ls:List lg} {cs:List Vq},gy W ls cs→gy W' ls cs
 | [],_,h=>h
 | _::ls,_,⟨c,r,e,hq,h⟩=>⟨c,r,e,hq.upto hg hn hgr,gy.upto hg hn hgr (ls:=ls) h⟩
theorem gy.len : ∀ {ls:List lg} {cs:List Vq},gy W ls cs→cs.length=ry ls
 | [],_,h=>by cases h;rfl
 | _::ls,_,⟨c,r,e,hq,h⟩=>by subst e;rw[Bj,hq.len,gy.len (ls:=ls) h];rfl
theorem gy.app {ks:List lg} (hd:gy W ks ds) : ∀ {ls:List lg} {cs:List Vq},gy W ls cs→gy W (ls++ks) (cs++ds)
 | [],_,h=>by cases h;exact hd
 | _::ls,_,⟨c,r,e,hq,h⟩=>⟨c,r++ds,by rw[e,Lm],hq,gy.app hd (ls:=ls) h⟩
theorem gy.cut {ks:List lg} : ∀ {ls:List lg} {cs:List Vq},gy W (ls++ks) cs → ∃ c d,cs=c++d∧gy W ls c∧gy W ks d
 | [],cs,h=>⟨[],cs,rfl,rfl,h⟩
 | _::ls,_,⟨c0,r,e,hq,h⟩=>by
  obtain⟨c,d,e2,h1,h2⟩:=gy.cut (ls:=ls) h;exact⟨c0++c,d,by rw[e,e2,Lm],⟨c0,c,rfl,hq,h1⟩,h2⟩
theorem gy.v {u:Vq} {ls:List lg} (hu:Zp u) (h:gy W ls cs):gy W (.v u::ls) (u::cs):=⟨[u],cs,rfl,⟨rfl,hu⟩,h⟩
theorem gy.z {n:Int} {s1:Int} {ls:List lg} (h1:iy W s1 n1 A1 c1 l1 n) (h:gy W ls cs):gy W (.z n::ls) (.int .i64 s1 :: .bool n1 :: .slice A1 l1.length c1::cs):=⟨[_,_,_],cs,rfl,⟨_,_,_,_,_,rfl,h1⟩,h⟩
theorem gy.q {x:Rat} {s1:Int} {s2:Int} {n2:Bool} {ls:List lg} (h1:iy W s1 n1 A1 c1 l1 x.num) (h2:iy W s2 n2 A2 c2 l2 (x.den:Int)) (h:gy W ls cs):gy W (.q x::ls) (.int .i64 s1 :: .bool n1 :: .slice A1 l1.length c1 :: .int .i64 s2 :: .bool n2 :: .slice A2 l2.length c2::cs):=⟨[_,_,_,_,_,_],cs,rfl,⟨_,_,_,_,_,_,_,_,_,_,rfl,h1,h2⟩,h⟩
theorem gy.r {x:Rat} {m1:Bool} {m2:Bool} {ls:List lg} (h1:QV W A1 c1 l1 m1 A2 c2 l2 m2 x) (h:gy W ls cs):gy W (.r x::ls) (.slice A1 l1.length c1 :: .bool m1 :: .slice A2 l2.length c2 :: .bool m2::cs):=⟨[_,_,_,_],cs,rfl,⟨_,_,_,_,_,_,_,_,rfl,h1⟩,h⟩
theorem gy.k {κ:Kind} {c:List Vq} {ls:List lg} (h1:κ.ok W c) (h:gy W ls cs):gy W (.k κ::ls) (c++cs):=⟨c,cs,rfl,h1,h⟩
theorem gy.bay {x:Rat} {ls:List lg} (h:gy W (.r x::ls) cs) : ∃ A1 c1 l1 m1 A2 c2 l2 m2 r,cs = .slice A1 (List.length l1) c1 :: .bool m1 :: .slice A2 (List.length l2) c2 :: .bool m2::r∧QV W A1 c1 l1 m1 A2 c2 l2 m2 x∧gy W ls r:=by
 obtain⟨c,r,rfl,⟨A1,c1,l1,m1,A2,c2,l2,m2,rfl,h1⟩,h⟩:=h
 exact⟨A1,c1,l1,m1,A2,c2,l2,m2,r,rfl,h1,h⟩
theorem gy.Jc {u:Vq} {ls:List lg} (h:gy W (.v u::ls) cs) : ∃ r,cs=u::r∧Zp u∧gy W ls r:=by
 obtain⟨c,r,rfl,⟨rfl,hu⟩,h⟩:=h
 exact⟨r,rfl,hu,h⟩
theorem gy.bkx {n:Int} {ls:List lg} (h:gy W (.z n::ls) cs) : ∃ s1 n1 A1 c1 l1 r,cs = .int .i64 s1 :: .bool n1 :: .slice A1 (List.length l1) c1::r∧iy W s1 n1 A1 c1 l1 n∧gy W ls r:=by
 obtain⟨c,r,rfl,⟨s1,n1,A1,c1,l1,rfl,h1⟩,h⟩:=h
 exact⟨s1,n1,A1,c1,l1,r,rfl,h1,h⟩
theorem gy.bzz {x:Rat} {ls:List lg} (h:gy W (.q x::ls) cs) : ∃ s1 n1 A1 c1 l1 s2 n2 A2 c2 l2 r,cs = .int .i64 s1 :: .bool n1 :: .slice A1 (List.length l1) c1 :: .int .i64 s2 :: .bool n2 :: .slice A2 (List.length l2) c2::r∧iy W s1 n1 A1 c1 l1 x.num∧iy W s2 n2 A2 c2 l2 (x.den:Int)∧gy W ls r:=by
 obtain⟨c,r,rfl,⟨s1,n1,A1,c1,l1,s2,n2,A2,c2,l2,rfl,h1,h2⟩,h⟩:=h
 exact⟨s1,n1,A1,c1,l1,s2,n2,A2,c2,l2,r,rfl,h1,h2,h⟩

def bz (ls:List lg):Wq→Vq→Prop:=fun W v => ∃ cs:List Vq,v = .agg cs.toArray∧gy W ls cs
theorem Ae (ls:List lg):yu il (bz ls):=by
 rintro w w' v hb ⟨cs,rfl,h⟩
 exact⟨cs,rfl,h.below hb⟩
def Xx (W:Wq):List (Wq→Vq→Prop)→List Vq→Prop
 | [],vs=>vs=[]
 | t::ts,vs => ∃ u r,vs=u::r∧t W u∧Xx W ts r
def ko (ts:List (Wq→Vq→Prop)):Wq→Vq→Prop:=fun W v => ∃ vs:List Vq,v = .tuple vs.toArray∧Xx W ts vs
theorem Xx.below (hb:il W W') : ∀ {ts:List (Wq→Vq→Prop)} {vs:List Vq},qm il ts→Xx W ts vs→Xx W' ts vs
 | [],_,_,h=>h
 | _::ts,_,hs,⟨u,r,e,h1,h2⟩=>⟨u,r,e,hs.1 _ _ _ hb h1,Xx.below hb (ts:=ts) hs.2 h2⟩
theorem rq (hs:qm il ts):yu il (ko ts):=by
 rintro w w' v hb ⟨vs,rfl,h⟩
 exact⟨vs,rfl,Xx.below hb hs h⟩
theorem Xx.get : ∀ {ts:List (Wq→Vq→Prop)} {vs:List Vq},Xx W ts vs → ∀ i,i<ts.length → ∃ u,vs[i]? = some u∧ui ts i W u
 | [],_,_,i,hi=>by simp at hi
 | t::ts,_,⟨u,r,e,h1,h2⟩,0,_=>by subst e;exact⟨u,rfl,h1⟩
 | t::ts,_,⟨u,r,e,h1,h2⟩,i+1,hi=>by
  subst e;obtain⟨u',h3,h4⟩:=Xx.get (ts:=ts) h2 i (by simpa using hi);exact⟨u',by simpa using h3,h4⟩

def zn (W:Wq) (b:Nat) (T:TypeId) (ls:List lg):Prop := ∃ cs:List Vq,W.heap[b]? = some (.cells cs.toArray T (0,0))∧gy W ls cs
theorem zn.lt {b:Nat} {T:TypeId} {ls:List lg} (h:zn W b T ls):b<W.heap.size:=by obtain⟨cs,h,_⟩:=h;exact lt_of_block h
theorem zn.below {b:Nat} {T:TypeId} {ls:List lg} (h:zn W b T ls) (hb:Below W.heap.size W W'):zn W' b T ls:=by
 obtain⟨cs,h1,h2⟩:=h
 exact⟨cs,(hb.block _ (lt_of_block h1)).trans h1,h2.below hb⟩
abbrev yz:=Nat×TypeId×List lg
structure Own (w:Wq) (bs:List yz) (W:Wq):Prop where
 bel:Below w.heap.size w W
 nd:(bs.map Prod.fst).Nodup
 box : ∀ b T ls,(b,T,ls)∈bs→w.heap.size≤b∧zn W b T ls
theorem Own.nil (w:Wq):Own w [] w:=⟨df _ _,List.nodup_nil,fun b T ls h=>by cases h⟩
theorem Own.step {bs:List yz} : ∀ W W',Own w bs W→il W W'→Own w bs W':=fun W W' h hb=>⟨az h.bel hb,h.nd,fun b T ls hm=>⟨(h.box b T ls hm).1,(h.box b T ls hm).2.below hb⟩⟩
theorem Own.add {bs:List yz} {b:Nat} {T:TypeId} {ls:List lg} (h:Own w bs V) (hVW:il V W) (hb:V.heap.size≤b) (hq:zn W b T ls):Own w ((b,T,ls)::bs) W :=
 ⟨az h.bel hVW,Ri.2 ⟨fun hm=>by
  obtain⟨⟨b',T',ls'⟩,hp,he⟩:=Nv.1 hm;have:=(h.box b' T' ls' hp).2.lt;have:b'=b:=he;omega,h.nd⟩,fun b' T' ls' hm=>by
  rcases yx.1 hm with e|hm
  ·
   cases e;exact⟨xy h.bel.size hb,hq⟩
  ·
   exact((Own.step V W h hVW).box b' T' ls' hm)⟩
theorem Own.push {bs:List yz} {T:TypeId} {ls:List lg} (h:Own w bs W) (hv:gy W ls cs) (b:Nat) (hb:b=W.heap.size):Own w ((b,T,ls)::bs) (W.alloc (.cells cs.toArray T)):=by
 subst hb
 exact h.add ((df _ _).alloc (gu _) _) (gu _) ⟨cs,heap_alloc_new W _,hv.below ((df _ _).alloc (gu _) _)⟩
theorem Own.other {bs:List yz} (o:Obj) (h:Own w bs W):Own w bs (W.alloc o):=Own.step _ _ h ((df _ _).alloc (gu _) _)
def setM (W:Wq) (b off:Nat):List Vq→Wq
 | []=>W
 | u::r=>setM (W.setCell ⟨b,off,none⟩ u) b (off+1) r
theorem Al (b:Nat) : ∀ (us:List Vq) (off:Nat) (W W':Wq),W.grownBy W' (some b)→W.grownBy (setM W' b off us) (some b)
 | [],_,_,_,h=>h
 | u::r,off,W,W',h=>Al b r (off+1) W _ (qy h off u)
theorem bpx {b:Nat} {u:Vq} {T:TypeId} {cs:Array Vq} (h:W.heap[b]? = some (.cells cs T (0,0))):(W.setCell ⟨b,off,none⟩ u).heap[b]? = some (.cells (cs.setIfInBounds off u) T (0,0)):=by
 simp[World.setCell,avs,h]
theorem set_mid (c:List Vq) (x u:Vq) (d:List Vq):((c++x::d).toArray.setIfInBounds c.length u)=(c++u::d).toArray:=by
 simp
theorem aai {b:Nat} {T:TypeId} : ∀ (us old:List Vq) (c d:List Vq) (W:Wq),us.length=old.length→W.heap[b]? = some (.cells (c++(old++d)).toArray T (0,0))→(setM W b c.length us).heap[b]? = some (.cells (c++(us++d)).toArray T (0,0))
 | [],[],c,d,W,_,h=>h
 | u::us,o::old,c,d,W,hl,h=>by
  have h1:=bpx (off:=c.length) (u:=u) h;rw[Ut,set_mid]at h1;have h2:=aai us old (c++[u]) d _ (by simpa using hl) (by simpa using h1)
  simpa [setM]using h2
 | [],_::_,_,_,_,hl,_=>by simp at hl
 | _::_,[],_,_,_,hl,_=>by simp at hl
theorem Own.set {xs ys:List yz} {b:Nat} {T:TypeId} {pre old new post:List lg} (h:Own w (xs++(b,T,pre++(old++post))::ys) W) (hv:gy W new us) (hl:ry new=ry old) (ho:off=ry pre) :
  Own w (xs++(b,T,pre++(new++post))::ys) (setM W b off us):=by
 obtain⟨hge,cs,hb,hls⟩:=h.box b T _ (Ht _ Ah)
 obtain⟨c,cd,rfl,k1,k2⟩:=hls.cut
 obtain⟨o,d,rfl,k3,k4⟩:=k2.cut
 have hg:=Al b us off W W (wy _ _)
 have hnw:Nn (c++(o++d)):=hls.noW
 have hnd:=h.nd
 rw[ajy,Gr]at hnd
 have hn : ∀ b' T' q',(b',T',q')∈xs++ys→b'≠b:=fun b' T' q' hm e=>by
  subst e;obtain⟨_,h4,h5⟩:=List.nodup_append.1 hnd
  rcases Ku.1 hm with hm|hm
  ·
   exact h5 b' (Nv.2 ⟨_,hm,rfl⟩) b' Ah rfl
  ·
   exact(Ri.1 h4).1 (Nv.2 ⟨_,hm,rfl⟩)
 refine⟨h.bel.grown hg h.bel.size (fun k hk=>by injection hk with hk;omega),by rw[ajy,Gr];exact hnd,fun b' T' q' hm => ?_⟩
 have other:(b',T',q')∈xs++ys→(b',T',q')∈xs++(b,T,pre++(old++post))::ys→w.heap.size≤b'∧zn (setM W b off us) b' T' q':=fun h1 h2=>by
  obtain⟨g1,cs',g2,g3⟩:=h.box b' T' q' h2;exact⟨g1,cs',(hg.block b' (lt_of_block g2) (fun e=>hn _ _ _ h1 (by injection e))).trans g2,g3.upto hb hnw hg⟩
 rcases Ku.1 hm with hm|hm
 ·
  exact other (ajx _ hm) (ajx _ hm)
 ·
  rcases yx.1 hm with e|hm
  ·
   cases e
   refine⟨hge,c++(us++d),?_,(((k4.upto hb hnw hg).app (hv.upto hb hnw hg)).app (k1.upto hb hnw hg))⟩
   have:=aai (T:=T) us o c d W (by rw[hv.len,hl,← k3.len]) hb;rwa[k1.len,← ho]at this
  ·
   exact other (Ht _ hm) (Ht _ (Fw _ hm))
theorem abk {b:Nat} {T:TypeId} {ls ks:List lg} {v:Vq} (h:zn W b T ls) (hv:bz ks W v):bz ks (setM W b off us) v:=by
 obtain⟨cs,h1,h2⟩:=h
 obtain⟨ds,e,h3⟩:=hv
 exact⟨ds,e,h3.upto h1 h2.noW (Al b us off W W (wy _ _))⟩
def iw (w:Wq) (bs:List yz) (V:Wq):Wq→Prop:=fun W=>Own w bs W∧il V W
theorem iw.step {bs:List yz} : ∀ W W',iw w bs V W→il W W'→iw w bs V W':=fun W W' h hb=>⟨Own.step W W' h.1 hb,az h.2 hb⟩
theorem iw.size {bs:List yz} : ∀ W,iw w bs V W→V.heap.size≤W.heap.size:=fun _ h=>h.2.size
theorem iw.start {bs:List yz} (h:Own w bs V):iw w bs V V.drew:=⟨Own.step _ _ h (il.drew V),il.drew V⟩
theorem iw.begin {bs:List yz} (h:Own w bs V):iw w bs V V:=⟨h,df _ _⟩
theorem iw.box {bs:List yz} {b:Nat} {T:TypeId} {ls:List lg} (hm:(b,T,ls)∈bs) (h:iw w bs V W):zn W b T ls:=(h.1.box b T ls hm).2
theorem iw.bel {bs:List yz} (h:iw w bs V W):Below w.heap.size w W:=h.1.bel

def Ie (P:Program) (T:TypeId) (n:Nat):Prop := ∀ (ρ:Operand→Vq) (w:Wq) (d:Option Tmp) (x:Operand) (b off:Nat) (us:List Vq) (ty:TypeId) (pos:String) (af:Array Edge) (gd:Option (Nat×Bool)),us.length=n→(∀ i,i<n→w.cell? ⟨b,off+i,none⟩=us[i]?)→ρ x = .pointer (some ⟨b,off,none⟩) →
 (execOp ρ { dst:=d,op := .load T x,type:=ty,pos:=pos,after:=af,guard:=gd}).run P w = .ok (.value (.agg us.toArray)) w
theorem adu {b:Nat} {T:TypeId} {c m d:List Vq} (h:w.heap[b]? = some (.cells (c++(m++d)).toArray T (0,0))) (i:Nat) (hi:i<m.length):w.cell? ⟨b,c.length+i,none⟩=m[i]? := by
 rw[ag h]
 simp only[List.getElem?_toArray]
 rw[bkn om,asc,arh hi]
theorem bcl {k b:Nat} {pre mid post:List lg}
  (hL:Ie P TL m) (hal:al.contains k=false) (hx:cu l n T a0 k x (ax (.pointer (some ⟨b,off,none⟩)))) (hb : ∀ W,G W→zn W b TB (pre++(mid++post))) (ho:ry pre=off) (hm:ry mid=m) (hT:T k=bz mid) :
  ib P Q l n T G il al a0 k { dst:=some d,op := .load TL x,type:=ty,pos:=pos,after:=af,guard:=gd}:=by
 intro a w hG hO hN
 obtain⟨cs,h1,h2⟩:=hb w hG
 obtain⟨c,cd,rfl,k1,k2⟩:=h2.cut
 obtain⟨o,e,rfl,k3,k4⟩:=k2.cut
 have hlen:o.length=m:=by rw[k3.len,hm]
 have hr:=hL a.eval w (some d) x b off o ty pos af gd hlen (fun i hi=>by
  have:=adu h1 i om;rwa[k1.len,ho]at this) (hx a w hO hN)
 exact Dp hr ⟨_,rfl,hG,df _ _,by rw[hT];exact⟨o,rfl,k3⟩,fun h=>by rw[hal]at h;cases h⟩
def bbc (P:Program) (T:TypeId):Prop := ∀ (ρ:Operand→Vq) (w:Wq) (d:Option Tmp) (x:Operand) (b off:Nat) (u:Vq) (ty:TypeId) (pos:String) (af:Array Edge) (gd:Option (Nat×Bool)),w.cell? ⟨b,off,none⟩=some u→ρ x = .pointer (some ⟨b,off,none⟩) →
 (execOp ρ { dst:=d,op := .load T x,type:=ty,pos:=pos,after:=af,guard:=gd}).run P w = .ok (.value u) w
theorem cda {k b:Nat} {pre post:List lg} {u:Vq}
  (hL:bbc P TL) (hal:al.contains k=false) (hx:cu l n T a0 k x (ax (.pointer (some ⟨b,off,none⟩)))) (hb : ∀ W,G W→zn W b TB (pre++(.v u::post))) (ho:ry pre=off) (hT:T k=ax u) :
  ib P Q l n T G il al a0 k { dst:=some d,op := .load TL x,type:=ty,pos:=pos,after:=af,guard:=gd}:=by
 intro a w hG hO hN
 obtain⟨cs,h1,h2⟩:=hb w hG
 obtain⟨c,cd,rfl,k1,k2⟩:=h2.cut
 obtain⟨r,rfl,_,k4⟩:=k2.Jc
 have hr:=hL a.eval w (some d) x b off u ty pos af gd (by
  have:=adu (m:=[u]) (d:=r) h1 0 mi;rw[k1.len,ho]at this;simpa using this) (hx a w hO hN)
 exact Dp hr ⟨_,rfl,hG,df _ _,by rw[hT];rfl,fun h=>by rw[hal]at h;cases h⟩
def Cw (P:Program) (T:TypeId) (n:Nat):Prop := ∀ (ρ:Operand→Vq) (w:Wq) (d:Option Tmp) (p x:Operand) (b off:Nat) (cs:List Vq) (TB:TypeId) (us:List Vq) (ty:TypeId) (pos:String) (af:Array Edge) (gd:Option (Nat×Bool)),us.length=n→(∀ u∈us,u.oneCell'=true)→w.heap[b]? = some (.cells cs.toArray TB (0,0))→off+n≤cs.length→ρ p = .pointer (some ⟨b,off,none⟩)→ρ x = .agg us.toArray →
 (execOp ρ { dst:=d,op := .store T p x,type:=ty,pos:=pos,after:=af,guard:=gd}).run P w = .ok .skip (setM w b off us)
end Sb


namespace Sb
theorem Sn {x:Rat} {v:Vq} (h:bz [.q x] W v) : ∃ s1 n1 A1 c1 l1 s2 n2 A2 c2 l2,v = .agg #[.int .i64 s1,.bool n1,.slice A1 (List.length l1) c1,.int .i64 s2,.bool n2,.slice A2 (List.length l2) c2]∧iy W s1 n1 A1 c1 l1 x.num∧iy W s2 n2 A2 c2 l2 (x.den:Int):=by
 obtain⟨cs,rfl,h⟩:=h
 obtain⟨s1,n1,A1,c1,l1,s2,n2,A2,c2,l2,r,rfl,h1,h2,h3⟩:=h.bzz
 cases h3
 exact⟨_,_,_,_,_,_,_,_,_,_,rfl,h1,h2⟩
theorem auy {n:Int} {v:Vq} (h:bz [.z n] W v) : ∃ s1 n1 A1 c1 l1,v = .agg #[.int .i64 s1,.bool n1,.slice A1 (List.length l1) c1]∧iy W s1 n1 A1 c1 l1 n:=by
 obtain⟨cs,rfl,h⟩:=h
 obtain⟨s1,n1,A1,c1,l1,r,rfl,h1,h3⟩:=h.bkx
 cases h3
 exact⟨_,_,_,_,_,rfl,h1⟩
theorem acv {a b:Int} {v:Vq} (h:bz [.z a,.z b] W v) : ∃ s1 n1 A1 c1 l1 s2 n2 A2 c2 l2,v = .agg #[.int .i64 s1,.bool n1,.slice A1 (List.length l1) c1,.int .i64 s2,.bool n2,.slice A2 (List.length l2) c2]∧iy W s1 n1 A1 c1 l1 a∧iy W s2 n2 A2 c2 l2 b:=by
 obtain⟨cs,rfl,h⟩:=h
 obtain⟨s1,n1,A1,c1,l1,r,rfl,h1,h⟩:=h.bkx
 obtain⟨s2,n2,A2,c2,l2,r,rfl,h2,h⟩:=h.bkx
 cases h
 exact⟨_,_,_,_,_,_,_,_,_,_,rfl,h1,h2⟩
theorem cqx {x:Rat} {v:Vq} (h:bz [.q x] W v):bz [.z x.num,.z (x.den:Int)] W v:=by
 obtain⟨s1,n1,A1,c1,l1,s2,n2,A2,c2,l2,rfl,f1,f2⟩:=Sn h
 exact⟨_,rfl,gy.z f1 (gy.z f2 rfl)⟩
theorem afu {a b:Vq} {v:Vq} (h:bz [.v a,.v b] W v):v = .agg #[a,b]:=by
 obtain⟨cs,rfl,h⟩:=h
 obtain⟨r,rfl,_,h⟩:=h.Jc
 obtain⟨r,rfl,_,h⟩:=h.Jc
 cases h;rfl
theorem cfa (W:Wq) {a b:Vq} (ha:Zp a) (hb:Zp b):bz [.v a,.v b] W (.agg #[a,b]):=⟨[a,b],rfl,gy.v ha (gy.v hb rfl)⟩
theorem Gw (W:Wq) (a b:Int):bz [.v (.int .i64 a),.v (.int .i64 b)] W (.agg #[.int .i64 a,.int .i64 b]):=cfa W (xc _) (xc _)
theorem apm {q:Rat} {e:Ending} (h:Sy w q.num (q.den:Int) e w'):gp (bz [.q q]) w e w':=by
 obtain⟨s1,n1,A1,c1,l1,s2,n2,A2,c2,l2,rfl,h1,h2,hb⟩:=h
 exact⟨_,rfl,hb,_,rfl,gy.q h1 h2 rfl⟩
theorem awl {z:Int} {e:Ending} (h:Jy w z e w'):gp (bz [.z z]) w e w':=by
 obtain⟨s1,n1,A1,c1,l1,rfl,h1,hb⟩:=h
 exact⟨_,rfl,hb,_,rfl,gy.z h1 rfl⟩
theorem brq {a b:Int} {e:Ending} (h:gp (bz [.z a,.z b]) w e w'):Sy w a b e w':=by
 obtain⟨u,rfl,hb,h⟩:=h
 obtain⟨s1,n1,A1,c1,l1,s2,n2,A2,c2,l2,rfl,f1,f2⟩:=acv h
 exact⟨_,_,_,_,_,_,_,_,_,_,rfl,f1,f2,hb⟩
theorem bfg {u:Vq} {e:Ending} (h:e = .returned u∧Below w.heap.size w w'):gp (ax u) w e w':=⟨u,h.1,h.2,rfl⟩
theorem cbi {x q:Rat} (h:adf W F x q) (h0:bz [.q x] W v0):Calls prog F #[v0] W (gp (bz [.q q]) W):=by
 obtain⟨s1,n1,A1,c1,l1,s2,n2,A2,c2,l2,rfl,f1,f2⟩:=Sn h0
 exact(h _ _ _ _ _ _ _ _ _ _ W (df _ _) f1 f2).mono fun e w' h=>apm h
theorem cbh {x y q:Rat} (h:Qm W F x y q) (h0:bz [.q x] W v0) (h1:bz [.q y] W v1):Calls prog F #[v0,v1] W (gp (bz [.q q]) W):=by
 obtain⟨s1,n1,A1,c1,l1,s2,n2,A2,c2,l2,rfl,f1,f2⟩:=Sn h0
 obtain⟨s3,n3,A3,c3,l3,s4,n4,A4,c4,l4,rfl,f3,f4⟩:=Sn h1
 exact(h _ _ _ _ _ _ _ _ _ _ _ _ _ _ _ _ _ _ _ _ W (df _ _) f1 f2 f3 f4).mono fun e w' h=>apm h
theorem cks {x y q:Int} (h:Kh W F x y q) (h0:bz [.z x] W v0) (h1:bz [.z y] W v1):Calls prog F #[v0,v1] W (gp (bz [.z q]) W):=by
 obtain⟨s1,n1,A1,c1,l1,rfl,f1⟩:=auy h0
 obtain⟨s2,n2,A2,c2,l2,rfl,f2⟩:=auy h1
 exact(h _ _ _ _ _ _ _ _ _ _ W (df _ _) f1 f2).mono fun e w' h=>awl h
theorem i2 {x y q:Int} (h:Kh w F x y q) (hb:Below w.heap.size w W) (h0:bz [.z x] W v0) (h1:bz [.z y] W v1):Calls prog F #[v0,v1] W (gp (bz [.z q]) W):=by
 obtain⟨s1,n1,A1,c1,l1,rfl,f1⟩:=auy h0
 obtain⟨s2,n2,A2,c2,l2,rfl,f2⟩:=auy h1
 exact(h _ _ _ _ _ _ _ _ _ _ W hb f1 f2).mono fun e w' h=>awl h
end Sb


namespace Sb
variable {Q:Exit→Act→Wq→Prop} {l:List Oper} {n:Nat} {T:Nat→Wq→Vq→Prop} {G:Wq→Prop} {al:List Nat} {a0:Act} {k d:Nat} {ty:TypeId} {pos:String} {af:Array Edge} {gd:Option (Nat×Bool)}
theorem jl {b o:Nat} {T:TypeId} (h:w.heap[b]? = some (.cells cs.toArray T (0,0))) (ho:o<cs.length) : ∃ c,w.cell? ⟨b,o,none⟩=some c:=by
 rw[ag h]
 exact⟨cs[o],by simp[ho]⟩
def Np (P:Program) (T:TypeId) (cs:List Vq):Prop := ∀ (ρ:Operand→Vq) (w:Wq) (d:Option Tmp) (ty:TypeId) (pos:String) (af:Array Edge) (gd:Option (Nat×Bool)),
 (execOp ρ { dst:=d,op := .alloc T,type:=ty,pos:=pos,after:=af,guard:=gd}).run P w = .ok (.value (.pointer (some ⟨w.heap.size,0,none⟩))) (w.alloc (.cells cs.toArray T))
def qw (T:TypeId) (ls:List lg) (B:Nat):Wq→Vq→Prop:=fun W v => ∃ b,v = .pointer (some ⟨b,0,none⟩)∧B≤b∧zn W b T ls
theorem Nf (T:TypeId) (ls:List lg) (B:Nat):yu il (qw T ls B):=by
 rintro w w' v hb ⟨b,rfl,h1,h2⟩
 exact⟨b,rfl,h1,h2.below hb⟩
theorem atx (s:ByteArray):Zp (.string s):=⟨fun m h=>by simp at h,rfl,fun m h=>by simp at h⟩
def okV:Vq→Bool
 | .int .i64 _=>true
 | .string _=>true
 | .bool _=>true
 | .slice _ _ _=>true
 | .pointer _=>true
 | _=>false
theorem bwl {u:Vq} (h:okV u=true):Zp u:=by
 unfold okV at h
 split at h
 ·
  exact xc _
 ·
  exact atx _
 ·
  exact akv _
 ·
  exact aku _ _ _
 ·
  exact chs _
 ·
  cases h
theorem gy.vs (W:Wq) : ∀ (us:List Vq),us.all okV=true→gy W (us.map .v) us
 | [],_=>rfl
 | u::us,h=>by
  rw[Xq,Bz]at h;exact gy.v (bwl h.1) (gy.vs W us h.2)
theorem Ud (hN:Np P TL cs) (hw:cs.all okV=true)
  (Qe : ∀ W W',G W→il W W'→G W') (hB : ∀ W,G W→B≤W.heap.size) (hT:T k=qw TL (cs.map .v) B) (hlt : ∀ j W u,al.contains j=true→T j W u → ∃ b,u = .pointer (some ⟨b,0,none⟩)∧b<W.heap.size) :
  ib P Q l n T G il al a0 k { dst:=some d,op := .alloc TL,type:=ty,pos:=pos,after:=af,guard:=gd}:=by
 refine bzv (N:=qw TL (cs.map .v)) (B:=B) ?_ Qe hB hT hlt
 intro a w
 exact⟨_,(df _ _).alloc (gu _) _,fun hB=>⟨w.heap.size,rfl,hB,cs,heap_alloc_new w _,gy.vs _ cs hw⟩,hN a.eval w (some d) ty pos af gd⟩
def cnu (t:Wq→Vq→Prop):Prop := ∃ TL ls B,t=qw TL ls B
theorem Yv {js:List Nat} (h : ∀ j,js.contains j=true→cnu (T j)) : ∀ j W u,js.contains j=true→T j W u → ∃ b,u = .pointer (some ⟨b,0,none⟩)∧b<W.heap.size:=fun j W u hj ht=>by
 obtain⟨TL,ls,B,e⟩:=h j hj
 rw[e]at ht
 obtain⟨b,h1,_,h2⟩:=ht
 exact⟨b,h1,h2.lt⟩
theorem Own.bfs {bs:List yz} {b b':Nat} {T T':TypeId} {ls ls':List lg} (h:Own w bs V) (hVW:il V W) (hb:V.heap.size≤b) (hq:zn W b T ls) (hb':V.heap.size≤b') (hq':zn W b' T' ls') (hne:b'≠b):Own w ((b',T',ls')::(b,T,ls)::bs) W:=by
 have h1:=Own.add h hVW hb hq
 have h2:=Own.add h hVW hb' hq'
 refine⟨h1.bel,Ri.2 ⟨fun hm => ?_,h1.nd⟩,fun c p q hm => ?_⟩
 ·
  rw[Gr]at hm
  rcases yx.1 hm with e|hm
  ·
   exact hne e
  ·
   exact(Ri.1 h2.nd).1 hm
 ·
  rcases yx.1 hm with e|hm
  ·
   cases e;exact h2.box _ _ _ Ah
  ·
   exact h1.box _ _ _ hm
def Ee (P:Program) (o:Operand→Op) (bmr:Nat):Prop := ∀ (a:Act) (w:Wq) (d:Option Tmp) (x:Operand) (b off:Nat) (ty:TypeId) (pos:String) (af:Array Edge) (gd:Option (Nat×Bool)),a.eval x = .pointer (some ⟨b,off,none⟩) →
 (execOp a.eval { dst:=d,op:=o x,type:=ty,pos:=pos,after:=af,guard:=gd}).run P w = .ok (.value (.pointer (some ⟨b,off+bmr,none⟩))) w
theorem Em {b bmr:Nat} {o:Operand→Op} (hA:Ee P o bmr) (hal:al.contains k=false) (hx:cu l n T a0 k x (ax (.pointer (some ⟨b,off,none⟩)))) (ho:off+bmr=off') (hT:T k=ax (.pointer (some ⟨b,off',none⟩))) :
  ib P Q l n T G il al a0 k { dst:=some d,op:=o x,type:=ty,pos:=pos,after:=af,guard:=gd}:=by
 intro a w hG hO hN
 exact Dp (hA a w (some d) x b off ty pos af gd (hx a w hO hN)) ⟨_,rfl,hG,df _ _,by rw[hT,ho];rfl,fun h=>by rw[hal]at h;cases h⟩
def agi (P:Program) (T:TypeId) (m1 m2:Nat):Prop := ∀ (ρ:Operand→Vq) (w:Wq) (d:Option Tmp) (x y:Operand) (us vs:List Vq) (ty:TypeId) (pos:String) (af:Array Edge) (gd:Option (Nat×Bool)),us.length=m1→vs.length=m2→ρ x = .agg us.toArray→ρ y = .agg vs.toArray →
 (execOp ρ { dst:=d,op := .build T #[(0,x),(1,y)],type:=ty,pos:=pos,after:=af,guard:=gd}).run P w = .ok (.value (.agg (us++vs).toArray)) w
theorem Gu {m1 m2:Nat} {ls ks:List lg} (hB:agi P TL m1 m2) (hal:al.contains k=false) (hx:cu l n T a0 k x (bz ls)) (hy:cu l n T a0 k y (bz ks)) (h1:ry ls=m1) (h2:ry ks=m2) (hT:T k=bz (ls++ks)) :
  ib P Q l n T G il al a0 k { dst:=some d,op := .build TL #[(0,x),(1,y)],type:=ty,pos:=pos,after:=af,guard:=gd}:=by
 intro a w hG hO hN
 obtain⟨us,e1,g1⟩:=hx a w hO hN
 obtain⟨vs,e2,g2⟩:=hy a w hO hN
 exact Dp (hB a.eval w (some d) x y us vs ty pos af gd (by rw[g1.len,h1]) (by rw[g2.len,h2]) e1 e2) ⟨_,rfl,hG,df _ _,by rw[hT];exact⟨_,rfl,g2.app g1⟩,fun h=>by rw[hal]at h;cases h⟩
def avr (P:Program) (T:TypeId) (cs:List Vq):Prop := ∀ (ρ:Operand→Vq) (w:Wq) (d:Option Tmp) (ty:TypeId) (pos:String) (af:Array Edge) (gd:Option (Nat×Bool)),
 (execOp ρ { dst:=d,op := .build T #[],type:=ty,pos:=pos,after:=af,guard:=gd}).run P w = .ok (.value (.agg cs.toArray)) w
theorem Gv (hB:avr P TL cs) (hal:al.contains k=false) (hw:cs.all okV=true) (hT:T k=bz (cs.map .v)) :
  ib P Q l n T G il al a0 k { dst:=some d,op := .build TL #[],type:=ty,pos:=pos,after:=af,guard:=gd}:=by
 intro a w hG hO hN
 exact Dp (hB a.eval w (some d) ty pos af gd) ⟨_,rfl,hG,df _ _,by rw[hT];exact⟨_,rfl,gy.vs _ cs hw⟩,fun h=>by rw[hal]at h;cases h⟩
def SlT (T:TypeId) (m:Nat) (ls:List lg):Wq→Vq→Prop:=fun W v => ∃ b,v = .slice (some ⟨b,0,none⟩) m m∧zn W b T ls
theorem bio (T:TypeId) (m:Nat) (ls:List lg):yu il (SlT T m ls):=by
 rintro w w' v hb ⟨b,rfl,h2⟩
 exact⟨b,rfl,h2.below hb⟩
def axd (ρ:Operand→Vq) (ms:Nat):Nat→List (Nat×Operand)→List Vq→Prop
 | _,[],cs=>cs=[]
 | i,p::ps,cs => ∃ us r,cs=us++r∧us.length=ms∧p.1=i∧ρ p.2 = .agg us.toArray∧axd ρ ms (i+1) ps r
def bkj (P:Program) (TS TE:TypeId) (m ms:Nat):Prop := ∀ (ρ:Operand→Vq) (w:Wq) (d:Option Tmp) (ps:List (Nat×Operand)) (cs:List Vq) (ty:TypeId) (pos:String) (af:Array Edge) (gd:Option (Nat×Bool)),ps.length=m→axd ρ ms 0 ps cs →
 (execOp ρ { dst:=d,op := .buildSlice TS m ps.toArray,type:=ty,pos:=pos,after:=af,guard:=gd}).run P w = .ok (.value (.slice (some ⟨w.heap.size,0,none⟩) m m)) (w.alloc (.cells cs.toArray TE))
def Oh (l:List Oper) (n:Nat) (T:Nat→Wq→Vq→Prop) (a0:Act) (k ms:Nat):Nat→List (Nat×Operand)→List (List lg)→Prop
 | _,[],gs=>gs=[]
 | i,p::ps,gs => ∃ g r,gs=g::r∧ry g=ms∧p.1=i∧cu l n T a0 k p.2 (bz g)∧Oh l n T a0 k ms (i+1) ps r
theorem Oh.nil {k:Nat}:Oh l n T a0 k ms i [] []:=rfl
theorem Oh.cons {k:Nat} {g:List lg} {r:List (List lg)} (h:cu l n T a0 k x (bz g)) (hm:ry g=ms) (hr:Oh l n T a0 k ms (i+1) ps r):Oh l n T a0 k ms i ((i,x)::ps) (g::r):=⟨g,r,rfl,hm,rfl,h,hr⟩
theorem bcx {a:Act} {k:Nat} (hO : ∀ t,Gd l n t=true→a.tmps.getD t undef=a0.tmps.getD t undef) (hN : ∀ j d,si l k j d=true→T j w (a.tmps.getD d undef)) :
  ∀ {ps:List (Nat×Operand)} {gs:List (List lg)} {i:Nat},Oh l n T a0 k ms i ps gs → ∃ cs,axd a.eval ms i ps cs∧gy w gs.flatten cs
 | [],_,_,h=>by cases h;exact⟨[],rfl,rfl⟩
 | p::ps,_,i,⟨g,r,e,h1,h2,h3,h4⟩=>by
  subst e;obtain⟨cs,k1,k2⟩:=bcx hO hN (ps:=ps) h4;obtain⟨us,e1,g1⟩:=h3 a w hO hN;exact⟨us++cs,⟨us,cs,rfl,by rw[g1.len,h1],h2,e1,k1⟩,k2.app g1⟩
theorem axp {TS TE:TypeId} {gs:List (List lg)} (hB:bkj P TS TE m ms) (hal:al.contains k=false) (Qe : ∀ W W',G W→il W W'→G W') (hm:ps.length=m) (ha:Oh l n T a0 k ms 0 ps gs) (hT:T k=SlT TE m gs.flatten) :
  ib P Q l n T G il al a0 k { dst:=some d,op := .buildSlice TS m ps.toArray,type:=ty,pos:=pos,after:=af,guard:=gd}:=by
 intro a w hG hO hN
 obtain⟨cs,h1,h2⟩:=bcx hO hN ha
 have hb:il w (w.alloc (.cells cs.toArray TE)):=(df _ _).alloc (gu _) _
 exact Dp (hB a.eval w (some d) ps cs ty pos af gd hm h1) ⟨_,rfl,Qe _ _ hG hb,hb,by rw[hT];exact⟨w.heap.size,rfl,cs,heap_alloc_new w _,h2.below hb⟩,fun h=>by rw[hal]at h;cases h⟩
theorem xq (hal:al.contains k=false) (hx:cu l n T a0 k x (ko ts)) (hi:i<ts.length) (hT:T k=ui ts i) :
  ib P Q l n T G il al a0 k { dst:=some d,op := .extract x i,type:=ty,pos:=pos,after:=af,guard:=gd} :=
 cmt hal hx (fun W v ⟨vs,h1,h2⟩=>by
  obtain⟨u,h3,h4⟩:=h2.get i hi;exact⟨vs.toArray,h1,u,by simpa using h3,by rw[hT];exact h4⟩)
theorem buy {a:Act} {b:Nat} {xs ys:List yz} {pre old new post:List lg}
  (hS:Cw P TL m) (hp:a.eval p = .pointer (some ⟨b,off,none⟩)) (hv:bz new w (a.eval x)) (hO:Own w0 (xs++(b,TB,pre++(old++post))::ys) w) (hm:ry new=m) (hl:ry new=ry old) (ho:off=ry pre)
  (hk : ∀ w',Own w0 (xs++(b,TB,pre++(new++post))::ys) w'→(∀ ks u,bz ks w u→bz ks w' u)→wpList P ops Q rest a w') :
  wpList P ops Q ({ dst:=none,op := .store TL p x,type:=ty,pos:=pos,after:=af,guard:=none}::rest) a w:=by
 obtain⟨us,e,hu⟩:=hv
 have hbx:=hO.box b TB _ (Ht _ Ah)
 obtain⟨hge,cs,hb,hls⟩:=hbx
 have hr:=hS a.eval w none p x b off cs TB us ty pos af none (by rw[hu.len,hm]) (fun u h=>(hu.noW u h).2.1) hb (by
  have h1:=hls.len;obtain⟨c,cd,rfl,k1,k2⟩:=hls.cut;obtain⟨o,d,rfl,k3,k4⟩:=k2.cut;have e1:=k1.len;have e3:=k3.len;simp only[Bj];omega) hp e
 unfold wpList
 rw[if_pos (by simp[Region.wanted])]
 refine .inl ?_
 unfold Oper.wp
 rw[hr]
 exact hk _ (hO.set hu hl ho) (fun ks u h=>abk ⟨cs,hb,hls⟩ h)
theorem zq:Ie prog 77 3:=by
 intro ρ w d x b off us ty pos af gd hl hc hx
 match us,hl with
 | [u0,u1,u2],_ =>
 have k0:w.cell? ⟨b,off,none⟩=some u0:=hc 0 om
 have k1:w.cell? ⟨b,off+1,none⟩=some u1:=hc 1 om
 have k2:w.cell? ⟨b,off+2,none⟩=some u2:=hc 2 om
 clear hc
 simp only[execOp,hx]
 simp[go_sem,k0,k1,k2]
theorem Ro:Ie prog 79 6:=by
 intro ρ w d x b off us ty pos af gd hl hc hx
 match us,hl with
 | [u0,u1,u2,u3,u4,u5],_ =>
 have k0:w.cell? ⟨b,off,none⟩=some u0:=hc 0 om
 have k1:w.cell? ⟨b,off+1,none⟩=some u1:=hc 1 om
 have k2:w.cell? ⟨b,off+2,none⟩=some u2:=hc 2 om
 have k3:w.cell? ⟨b,off+3,none⟩=some u3:=hc 3 om
 have k4:w.cell? ⟨b,off+4,none⟩=some u4:=hc 4 om
 have k5:w.cell? ⟨b,off+5,none⟩=some u5:=hc 5 om
 clear hc
 simp only[execOp,hx]
 simp[go_sem,k0,k1,k2,k3,k4,k5]
theorem Js:Ie prog 23 2:=by
 intro ρ w d x b off us ty pos af gd hl hc hx
 match us,hl with
 | [u0,u1],_ =>
 have k0:w.cell? ⟨b,off,none⟩=some u0:=hc 0 om
 have k1:w.cell? ⟨b,off+1,none⟩=some u1:=hc 1 om
 clear hc
 simp only[execOp,hx]
 simp[go_sem,k0,k1]
theorem Oj:Cw prog 77 3:=by
 intro ρ w d p x b off cs TB us ty pos af gd hl hu hb ho hp hx
 match us,hl with
 | [u0,u1,u2],_ =>
 have o0:=hu u0 mi
 have o1:=hu u1 mi
 have o2:=hu u2 mi
 have f0:w.frozen? ⟨b,off,none⟩=false:=ah hb _
 have f1:w.frozen? ⟨b,off+1,none⟩=false:=ah hb _
 have f2:w.frozen? ⟨b,off+2,none⟩=false:=ah hb _
 obtain⟨c0,k0⟩ : ∃ c,w.cell? ⟨b,off,none⟩=some c:=jl hb om
 obtain⟨c1,k1⟩ : ∃ c,w.cell? ⟨b,off+1,none⟩=some c:=jl hb om
 obtain⟨c2,k2⟩ : ∃ c,w.cell? ⟨b,off+2,none⟩=some c:=jl hb om
 have hlt:=lt_of_block hb
 clear hb ho hu
 simp only[execOp,hp,hx,setM]
 simp[go_sem,hlt,run_store _ _ _ _ _ o0,o0,run_store _ _ _ _ _ o1,o1,run_store _ _ _ _ _ o2,o2,k0,k1,k2,f0,f1,f2]
theorem Ty:Cw prog 79 6:=by
 intro ρ w d p x b off cs TB us ty pos af gd hl hu hb ho hp hx
 match us,hl with
 | [u0,u1,u2,u3,u4,u5],_ =>
 have o0:=hu u0 mi
 have o1:=hu u1 mi
 have o2:=hu u2 mi
 have o3:=hu u3 mi
 have o4:=hu u4 mi
 have o5:=hu u5 mi
 have f0:w.frozen? ⟨b,off,none⟩=false:=ah hb _
 have f1:w.frozen? ⟨b,off+1,none⟩=false:=ah hb _
 have f2:w.frozen? ⟨b,off+2,none⟩=false:=ah hb _
 have f3:w.frozen? ⟨b,off+3,none⟩=false:=ah hb _
 have f4:w.frozen? ⟨b,off+4,none⟩=false:=ah hb _
 have f5:w.frozen? ⟨b,off+5,none⟩=false:=ah hb _
 obtain⟨c0,k0⟩ : ∃ c,w.cell? ⟨b,off,none⟩=some c:=jl hb om
 obtain⟨c1,k1⟩ : ∃ c,w.cell? ⟨b,off+1,none⟩=some c:=jl hb om
 obtain⟨c2,k2⟩ : ∃ c,w.cell? ⟨b,off+2,none⟩=some c:=jl hb om
 obtain⟨c3,k3⟩ : ∃ c,w.cell? ⟨b,off+3,none⟩=some c:=jl hb om
 obtain⟨c4,k4⟩ : ∃ c,w.cell? ⟨b,off+4,none⟩=some c:=jl hb om
 obtain⟨c5,k5⟩ : ∃ c,w.cell? ⟨b,off+5,none⟩=some c:=jl hb om
 have hlt:=lt_of_block hb
 clear hb ho hu
 simp only[execOp,hp,hx,setM]
 simp[go_sem,hlt,run_store _ _ _ _ _ o0,o0,run_store _ _ _ _ _ o1,o1,run_store _ _ _ _ _ o2,o2,run_store _ _ _ _ _ o3,o3,run_store _ _ _ _ _ o4,o4,run_store _ _ _ _ _ o5,o5,k0,k1,k2,k3,k4,k5,f0,f1,f2,f3,f4,f5]
theorem Gg:Cw prog 23 2:=by
 intro ρ w d p x b off cs TB us ty pos af gd hl hu hb ho hp hx
 match us,hl with
 | [u0,u1],_ =>
 have o0:=hu u0 mi
 have o1:=hu u1 mi
 have f0:w.frozen? ⟨b,off,none⟩=false:=ah hb _
 have f1:w.frozen? ⟨b,off+1,none⟩=false:=ah hb _
 obtain⟨c0,k0⟩ : ∃ c,w.cell? ⟨b,off,none⟩=some c:=jl hb om
 obtain⟨c1,k1⟩ : ∃ c,w.cell? ⟨b,off+1,none⟩=some c:=jl hb om
 have hlt:=lt_of_block hb
 clear hb ho hu
 simp only[execOp,hp,hx,setM]
 simp[go_sem,hlt,run_store _ _ _ _ _ o0,o0,run_store _ _ _ _ _ o1,o1,k0,k1,f0,f1]
theorem adr:Np prog 77 [.int .i64 0,.bool false,.slice none 0 0]:=by
 intro ρ w d ty pos af gd
 simp only[execOp]
 simp[go_sem]
theorem Lr:Np prog 23 [.int .i64 0,.int .i64 0]:=by
 intro ρ w d ty pos af gd
 simp only[execOp]
 simp[go_sem]
theorem cfq:Ee prog (fun x => .fieldAddr 79 x 0) 0:=by
 intro a w d x b off ty pos af gd hx
 have hc : ∀ v,a.eval (.const v)=v:=fun _=>rfl
 simp only[execOp,hx,hc]
 simp[go_sem]
theorem Px {b:Nat} (hal:al.contains k=false) (hx:cu l n T a0 k x (ax (.pointer (some ⟨b,off,none⟩)))) (ho:off+0=off') (hT:T k=ax (.pointer (some ⟨b,off',none⟩))) :
  ib prog Q l n T G il al a0 k { dst:=some d,op := .fieldAddr 79 x 0,type:=ty,pos:=pos,after:=af,guard:=gd}:=by
 exact Em (P:=prog) (o:=fun x => .fieldAddr 79 x 0) cfq hal hx ho hT
theorem cfp:Ee prog (fun x => .fieldAddr 79 x 1) 3:=by
 intro a w d x b off ty pos af gd hx
 have hc : ∀ v,a.eval (.const v)=v:=fun _=>rfl
 simp only[execOp,hx,hc]
 simp[go_sem]
theorem Jj {b:Nat} (hal:al.contains k=false) (hx:cu l n T a0 k x (ax (.pointer (some ⟨b,off,none⟩)))) (ho:off+3=off') (hT:T k=ax (.pointer (some ⟨b,off',none⟩))) :
  ib prog Q l n T G il al a0 k { dst:=some d,op := .fieldAddr 79 x 1,type:=ty,pos:=pos,after:=af,guard:=gd}:=by
 exact Em (P:=prog) (o:=fun x => .fieldAddr 79 x 1) cfp hal hx ho hT
theorem cfo:Ee prog (fun x => .fieldAddr 23 x 0) 0:=by
 intro a w d x b off ty pos af gd hx
 have hc : ∀ v,a.eval (.const v)=v:=fun _=>rfl
 simp only[execOp,hx,hc]
 simp[go_sem]
theorem akq {b:Nat} (hal:al.contains k=false) (hx:cu l n T a0 k x (ax (.pointer (some ⟨b,off,none⟩)))) (ho:off+0=off') (hT:T k=ax (.pointer (some ⟨b,off',none⟩))) :
  ib prog Q l n T G il al a0 k { dst:=some d,op := .fieldAddr 23 x 0,type:=ty,pos:=pos,after:=af,guard:=gd}:=by
 exact Em (P:=prog) (o:=fun x => .fieldAddr 23 x 0) cfo hal hx ho hT
end Sb


namespace Sb
variable {Q:Exit→Act→Wq→Prop} {l:List Oper} {n:Nat} {T:Nat→Wq→Vq→Prop} {G:Wq→Prop} {al:List Nat} {a0:Act} {k d:Nat} {ty:TypeId} {pos:String} {af:Array Edge} {gd:Option (Nat×Bool)}
def Wh (P:Program) (T:TypeId) (n:Nat):Prop := ∀ (w:Wq) (b off:Nat) (us:List Vq),us.length=n→(∀ i,i<n→w.cell? ⟨b,off+i,none⟩=us[i]?)→(loadVar T ⟨b,off,none⟩).run P w = .ok (.agg us.toArray) w
theorem zn.bmo {b:Nat} {T:TypeId} {ls:List lg} (h:zn w b TB ls) (hL:Wh P T n) (hn:ry ls=n) : ∃ cs:List Vq,(loadVar T ⟨b,0,none⟩).run P w = .ok (.agg cs.toArray) w∧gy w ls cs:=by
 obtain⟨cs,h1,h2⟩:=h
 have h3:=hL w b 0 cs (by rw[h2.len,hn]) (fun i hi=>by
  have e:cs.length=n:=by rw[h2.len,hn]
  have:=adu (c:=[]) (m:=cs) (d:=[]) (by simpa using h1) i om
  simpa using this)
 exact⟨cs,h3,h2⟩
section
variable {P:Program} {fn:Func} {a:Act} {w w0:Wq} {bs:List yz} {s s2 t t2 b b2:Nat} {TB T TB2 T2:TypeId} {ls ls2:List lg} {n n2:Nat} {u u2:Vq}
theorem Ka (hr:fn.results=#[.tmp t]) (ht:a.tmps.getD t undef=u) (hB:Below w0.heap.size w0 w) (hd:a.defers=[]):bodyPost P fn (gp (ax u) w0) .ret a w :=
 bodyPost_ret (v:=u) (by simp only[results,hr];simp[go_sem];simpa using ht) hd ⟨u,rfl,hB,rfl⟩
theorem Ga (hr:fn.results=#[.cell s T]) (hL:Wh P T n) (ht:a.tmps.getD s undef = .pointer (some ⟨b,0,none⟩)) (hO:Own w0 bs w) (hm:(b,TB,ls)∈bs) (hn:ry ls=n) (hd:a.defers=[]):bodyPost P fn (gp (bz ls) w0) .ret a w:=by
 obtain⟨cs,h1,h2⟩:=(hO.box b TB ls hm).2.bmo hL hn
 refine bodyPost_ret (v := .agg cs.toArray) ?_ hd ⟨_,rfl,hO.bel,cs,rfl,h2⟩
 rw[bks]at ht
 simp only[results,hr]
 clear hO hL
 generalize loadVar=ldv at *
 simp[ht,go_sem,h1]
theorem vo (hr:fn.results=#[.cell s T,.tmp t]) (hL:Wh P T n) (ht:a.tmps.getD s undef = .pointer (some ⟨b,0,none⟩)) (hu:a.tmps.getD t undef=u) (hO:Own w0 bs w) (hm:(b,TB,ls)∈bs) (hn:ry ls=n) (hd:a.defers=[]):bodyPost P fn (gp (ko [bz ls,ax u]) w0) .ret a w:=by
 obtain⟨cs,h1,h2⟩:=(hO.box b TB ls hm).2.bmo hL hn
 refine bodyPost_ret (v := .tuple [.agg cs.toArray,u].toArray) ?_ hd ⟨_,rfl,hO.bel,_,rfl,⟨_,_,rfl,⟨cs,rfl,h2⟩,_,_,rfl,rfl,rfl⟩⟩
 rw[bks]at ht hu
 simp only[results,hr]
 clear hO hL
 generalize loadVar=ldv at *
 simp[ht,hu,go_sem,h1]
end
theorem bqq (hF : ∀ (vs:Array Vq) (w:Wq),(callFunc F vs).run P w = .ok (.enter F vs) w) {a:Act} {d:Option Tmp} {xs:Array Operand} (hx:a.eval x = .func (.func F) #[] #[]) :
  (execOp a.eval { dst:=d,op := .call { callee := .value x,args:=xs,argTypes:=ats},type:=ty,pos:=pos,after:=af,guard:=gd}).run P w = .ok (.enter F (xs.map a.eval)) w:=by
 have h:=hF (#[]++xs.map a.eval++#[]) w
 rw[avt,bkw]at h
 rw[← h]
 simp only[execOp,resolve,hx,Deferred.ofValue,invoke]
 simp only[pure_bind,avt,bkw]
theorem bys (w:Wq):il w w:=df _ _
abbrev iv (n:Int):lg := .v (.int .i64 n)
abbrev zR:List lg:=[iv 0,iv 0]
abbrev zZ:List lg:=[iv 0,.v (.bool false),.v (.slice none 0 0)]
abbrev zQ:List lg:=[iv 0,.v (.bool false),.v (.slice none 0 0),iv 0,.v (.bool false),.v (.slice none 0 0)]
abbrev zX:List lg:=[.v (.slice none 0 0),.v (.bool false),.v (.slice none 0 0),.v (.bool false)]
section
variable {α:Type} {a b c d e f g h:α} {l:List α}
theorem me0:a∈a::l:=List.Mem.head _
theorem uq:b∈a::b::l:=List.Mem.tail _ me0
theorem Ed:c∈a::b::c::l:=List.Mem.tail _ uq
theorem Uh:d∈a::b::c::d::l:=List.Mem.tail _ Ed
theorem me4:e∈a::b::c::d::e::l:=List.Mem.tail _ Uh
theorem me5:f∈a::b::c::d::e::f::l:=List.Mem.tail _ me4
theorem me6:g∈a::b::c::d::e::f::g::l:=List.Mem.tail _ me5
end
theorem au {k:Nat} {r:List Oper} (h:ib P Q l n T G E al a0 k o) (hr:yf P Q l n T G E al a0 (k+1) r) (hg:o.guard=none:=by rfl):yf P Q l n T G E al a0 k (o::r):=oh (Ef hg h) hr
theorem El {bs:List yz} {k b:Nat} {ls:List lg}
  (hL:Ie P TL m) (hm:(b,TB,ls)∈bs) (hx:cu l n T a0 k x (ax (.pointer (some ⟨b,off,none⟩)))) (pre mid post:List lg) (he:ls=pre++(mid++post):=by rfl) (ho:ry pre=off:=by rfl) (hz:ry mid=m:=by rfl) (hal:al.contains k=false:=by rfl) (hT:T k=bz mid:=by rfl) :
  ib P Q l n T (iw w bs V) il al a0 k { dst:=some d,op := .load TL x,type:=ty,pos:=pos,after:=af,guard:=gd}:=bcl hL hal hx (fun W h=>he ▸ iw.box hm h) ho hz hT
theorem asz {a:Act} {b:Nat} {bs:List yz} (hO:Own w0 bs w) (i:Nat) (pre old new post:List lg)
  (hi:bs[i]? = some (b,TB,pre++(old++post))) (hS:Cw P TL m) (hp:a.eval p = .pointer (some ⟨b,off,none⟩)) (hv:bz new w (a.eval x)) (hm:ry new=m) (hl:ry new=ry old) (ho:off=ry pre)
  (hk : ∀ w',Own w0 (bs.set i (b,TB,pre++(new++post))) w'→(∀ ks u,bz ks w u→bz ks w' u)→wpList P ops Q rest a w') :
  wpList P ops Q ({ dst:=none,op := .store TL p x,type:=ty,pos:=pos,after:=af,guard:=none}::rest) a w:=by
 obtain⟨hlt,he⟩:=agj.1 hi
 have hbs:bs=bs.take i++(b,TB,pre++(old++post))::bs.drop (i+1):=by
  rw[← he,← Si hlt,Lu]
 have hset:bs.set i (b,TB,pre++(new++post))=bs.take i++(b,TB,pre++(new++post))::bs.drop (i+1):=aey .. |>.trans (if_pos hlt)
 rw[hset]at hk
 rw[hbs]at hO
 exact buy hS hp hv hO hm hl ho hk
theorem ta0 {α:Type} {a:α} {l:List α}:(a::l).take (n+1)=a::l.take n:=List.take_succ_cons
theorem ta1 {α:Type} {l:List α}:l.take 0=[]:=Nu
theorem ta2 {α:Type} {a:α} {l:List α}:(a::l).drop (n+1)=l.drop n:=bkq
theorem ta3 {α:Type} {l:List α}:l.drop 0=l:=agk
theorem ta4 {α:Type} {l:List α} {a:α}:l.toArray.setIfInBounds n a=(l.set n a).toArray:=List.setIfInBounds_toArray ..
theorem ta5 {α:Type} {x a:α} {l:List α}:(x::l).set 0 a=a::l:=List.set_cons_zero ..
theorem ta6 {α:Type} {x a:α} {l:List α}:(x::l).set (n+1) a=x::l.set n a:=List.set_cons_succ ..
theorem cem:Wh prog 77 3:=by
 intro w b off us hl hc
 match us,hl with
 | [u0,u1,u2],_ =>
 have k0:w.cell? ⟨b,off,none⟩=some u0:=hc 0 om
 have k1:w.cell? ⟨b,off+1,none⟩=some u1:=hc 1 om
 have k2:w.cell? ⟨b,off+2,none⟩=some u2:=hc 2 om
 clear hc
 simp[go_sem,k0,k1,k2]
theorem abe:Wh prog 79 6:=by
 intro w b off us hl hc
 match us,hl with
 | [u0,u1,u2,u3,u4,u5],_ =>
 have k0:w.cell? ⟨b,off,none⟩=some u0:=hc 0 om
 have k1:w.cell? ⟨b,off+1,none⟩=some u1:=hc 1 om
 have k2:w.cell? ⟨b,off+2,none⟩=some u2:=hc 2 om
 have k3:w.cell? ⟨b,off+3,none⟩=some u3:=hc 3 om
 have k4:w.cell? ⟨b,off+4,none⟩=some u4:=hc 4 om
 have k5:w.cell? ⟨b,off+5,none⟩=some u5:=hc 5 om
 clear hc
 simp[go_sem,k0,k1,k2,k3,k4,k5]
theorem Ih (h1:n<m) (h2:m≤1000000):wrap64 ((n:Int)+1)=((n+1:Nat):Int):=(Cs _ om).trans om
theorem He (h1:n<m) (h2:m≤1000000):Value.int .i64 (wrap64 ((n:Int)+1))=Value.int .i64 ((n+1:Nat):Int):=by rw[Ih h1 h2]
theorem measS (h1:n<m):m-(intOf (Value.int .i64 ((n+1:Nat):Int))).toNat<m-(intOf (Value.int .i64 (n:Int))).toNat:=by
 simp only[intOf];omega
theorem bvr {d:Option Tmp} {o z:Int} (h:ρ x = .int .i64 o) (h':ρ y = .int .i64 z) :
  (execOp ρ { dst:=d,op := .binOp .eql 24 x y 24,type:=ty,pos:=pos,after:=af,guard:=gd}).run prog w = .ok (.value (.bool (o==z))) w:=by
 simp only[execOp,h,h']
 simp[go_sem,underlying24]
theorem Yp {o z:Int} {b:Bool}
  (hal:al.contains k=false) (hx:cu l n T a0 k x (ax (.int .i64 o))) (hy:cu l n T a0 k y (ax (.int .i64 z))) (hT:T k=ax (.bool b)) (hb:(o==z)=b):ib prog Q l n T G il al a0 k { dst:=some d,op := .binOp .eql 24 x y 24,type:=ty,pos:=pos,after:=af,guard:=gd}:=by
 intro a w hG hO hN
 exact wvz (bvr (hx a w hO hN) (hy a w hO hN)) hG hal (by rw[hT,hb];rfl)
theorem bvl {d:Option Tmp} {o z:Int} (h:ρ x = .int .i64 o) (h':ρ y = .int .i64 z) :
  (execOp ρ { dst:=d,op := .binOp .neq 24 x y 24,type:=ty,pos:=pos,after:=af,guard:=gd}).run prog w = .ok (.value (.bool (o != z))) w:=by
 simp only[execOp,h,h']
 simp[go_sem,underlying24]
theorem aff {o z:Int} {b:Bool}
  (hal:al.contains k=false) (hx:cu l n T a0 k x (ax (.int .i64 o))) (hy:cu l n T a0 k y (ax (.int .i64 z))) (hT:T k=ax (.bool b)) (hb:(o != z)=b):ib prog Q l n T G il al a0 k { dst:=some d,op := .binOp .neq 24 x y 24,type:=ty,pos:=pos,after:=af,guard:=gd}:=by
 intro a w hG hO hN
 exact wvz (bvl (hx a w hO hN) (hy a w hO hN)) hG hal (by rw[hT,hb];rfl)
end Sb


namespace Sb
theorem ate {t:Wq→Vq→Prop} {r:List (Wq→Vq→Prop)} (h:yu E t) (hr:qm E r):qm E (t::r):=⟨h,hr⟩
theorem fw {a:Act} {bs:List yz} (n:Nat) (ts:List (Wq→Vq→Prop)) (al:List Nat) (hO:Hid (Own w0 bs w))
  (hS:yf P Q l n (ui ts) (iw w0 bs w) il al a 0 (l.take n))
  (hend : ∀ (v:Nat→Vq) (w':Wq),iw w0 bs w w'→(∀ k,k<n→ui ts k w' (v k))→(∀ j k,al.contains j=true→al.contains k=true→j≠k→j<n→k<n→(ig l j).isSome=true→(ig l k).isSome=true→v j≠v k)→wpList P l.toArray Q (l.drop n) (ay v 0 (l.take n) a) w')
  (hT:qm il ts:=by repeat' (first|exact fo _|exact Ae _|exact trivial|apply ate|exact Nf _ _ _|apply rq|exact bio _ _ _))
  (hsz:a.tmps.size=sz:=by rfl) (hB:(decide (n≤l.length)&&aiu l n&&ait l n sz)=true:=by kernel_rfl) :
  (Code.region id l.toArray false).wp P Q a w:=yc n sz (ui ts) (iw w0 bs w) il al hB hsz (qm.pick hT) (iw.begin (aa hO)) hS hend
theorem Nw {a:Act} {bs:List yz} (n:Nat) (ts:List (Wq→Vq→Prop)) (al:List Nat) (hO:Hid (Own w0 bs w))
  (hS:yf P Q l n (ui ts) (iw w0 bs w) il al a 0 (l.take n))
  (hend : ∀ (v:Nat→Vq) (w':Wq),iw w0 bs w w'→(∀ k,k<n→ui ts k w' (v k))→(∀ j k,al.contains j=true→al.contains k=true→j≠k→j<n→k<n→(ig l j).isSome=true→(ig l k).isSome=true→v j≠v k)→wpList P l.toArray Q (l.drop n) (ay v 0 (l.take n) a) w')
  (hT:qm il ts:=by repeat' (first|exact fo _|exact Ae _|exact trivial|apply ate|exact Nf _ _ _|apply rq|exact bio _ _ _))
  (hsz:a.tmps.size=sz:=by rfl) (hm:P.follows .mixedOrders=true:=by kernel_rfl) (hB:adb l n sz=true:=by kernel_rfl) :
  (Code.region id l.toArray true).wp P Q a w:=ami n sz (ui ts) (iw w0 bs w) il al hm hB hsz (qm.pick hT) (iw.start (aa hO)) hS hend
theorem dh {k:Nat} {r:List Oper} (hx:cu l n T a0 k x (T k)) (hr:yf P Q l n T G il al a0 (k+1) r) (hal:al.contains k=false:=by rfl):yf P Q l n T G il al a0 k ({ dst:=some d,op := .move x,type:=ty,pos:=pos,after:=af,guard:=none}::r):=au (jh hal hx) hr
theorem Ak {k:Nat} {r:List Oper} (hx:cu l n T a0 k x (T k)) (hr:yf P Q l n T G il al a0 (k+1) r) (hal:al.contains k=false:=by rfl):yf P Q l n T G il al a0 k ({ dst:=some d,op := .assign x,type:=ty,pos:=pos,after:=af,guard:=none}::r):=au (zu hal hx) hr
theorem pq {k:Nat} {r:List Oper} (ts:List (Wq→Vq→Prop)) (hx:cu l n T a0 k x (ko ts)) (hr:yf P Q l n T G il al a0 (k+1) r) (hT:T k=ui ts i:=by rfl) (hi:i<ts.length:=by exact sw rfl) (hal:al.contains k=false:=by rfl):yf P Q l n T G il al a0 k ({ dst:=some d,op := .extract x i,type:=ty,pos:=pos,after:=af,guard:=none}::r):=au (xq hal hx hi hT) hr
theorem Ea {bs:List yz} {k:Nat} {r:List Oper} {b:Nat} {ls:List lg} (hL:Ie P TL m) (hm:(b,TB,ls)∈bs) (hx:cu l n T a0 k x (ax (.pointer (some ⟨b,off,none⟩)))) (pre mid post:List lg) (hr:yf P Q l n T (iw w bs V) il al a0 (k+1) r) (hT:T k=bz mid:=by rfl) (he:ls=pre++(mid++post):=by rfl) (ho:ry pre=off:=by rfl) (hz:ry mid=m:=by rfl) (hal:al.contains k=false:=by rfl):yf P Q l n T (iw w bs V) il al a0 k ({ dst:=some d,op := .load TL x,type:=ty,pos:=pos,after:=af,guard:=none}::r):=au (El hL hm hx pre mid post he ho hz hal hT) hr
theorem xh {bs:List yz} {k:Nat} {r:List Oper} {b:Nat} {ls:List lg} (hL:Ie P TL m) (hm:(b,TB,ls)∈bs) (hx:cu l n T a0 k x (ax (.pointer (some ⟨b,0,none⟩)))) (hr:yf P Q l n T (iw w bs V) il al a0 (k+1) r) (hT:T k=bz ls:=by rfl) (hz:ry ls=m:=by rfl) (hal:al.contains k=false:=by rfl):yf P Q l n T (iw w bs V) il al a0 k ({ dst:=some d,op := .load TL x,type:=ty,pos:=pos,after:=af,guard:=none}::r):=au (El hL hm hx [] ls [] (by rw[Pm,Oz]) rfl hz hal hT) hr
theorem Am {bs:List yz} {k:Nat} {r:List Oper} (hN:Np P TL cs) (hr:yf P Q l n T (iw w bs V) il al a0 (k+1) r) (hT:T k=qw TL (cs.map .v) V.heap.size:=by rfl) (hw:cs.all okV=true:=by rfl)
  (hlt : ∀ j W u,al.contains j=true→T j W u → ∃ b,u = .pointer (some ⟨b,0,none⟩)∧b<W.heap.size:=by exact Yv (by intro j hj;simp at hj;(repeat' (first|(rcases hj with rfl|hj)))<;>first|(subst hj;exact⟨_,_,_,rfl⟩)|exact⟨_,_,_,rfl⟩)):yf P Q l n T (iw w bs V) il al a0 k ({ dst:=some d,op := .alloc TL,type:=ty,pos:=pos,after:=af,guard:=none}::r):=au (Ud hN hw iw.step iw.size hT hlt) hr
theorem ku {k:Nat} {r:List Oper} {g:Nat} {b:Bool} (h:ib P Q l n T G il al a0 k o) (hr:yf P Q l n T G il al a0 (k+1) r) (hg:o.guard=some (g,b):=by rfl) (hT:T g=ax (.bool b):=by rfl) (hw:si l k g ((ig l g).getD 0)=true:=by kernel_rfl):yf P Q l n T G il al a0 k (o::r):=oh (Cr hg hw hT h) hr
theorem ve {k:Nat} {r:List Oper} {g:Nat} {b c:Bool} (hr:yf P Q l n T G il al a0 (k+1) r) (hg:o.guard=some (g,c):=by rfl) (hT:T g=ax (.bool b):=by rfl) (hbc:(b==c)=false:=by rfl) (hu:T k=ax undef:=by rfl) (hk:al.contains k=false:=by rfl) (hw:si l k g ((ig l g).getD 0)=true:=by kernel_rfl):yf P Q l n T G il al a0 k (o::r):=oh (bhz hg hw hT hbc bys hk hu) hr
theorem kg {a:Act} {b:Nat} {bs:List yz} {old new:List lg} (hO:Own w0 bs w) (i:Nat) (hS:Cw P TL m) (hv:bz new w (a.eval x))
  (hk : ∀ w',Own w0 (bs.set i (b,TB,new)) w'→(∀ ks u,bz ks w u→bz ks w' u)→wpList P ops Q rest a w')
  (hi:bs[i]? = some (b,TB,old):=by rfl) (hp:a.eval p = .pointer (some ⟨b,0,none⟩):=by rfl) (hm:ry new=m:=by rfl) (hl:ry new=ry old:=by rfl) :
  wpList P ops Q ({ dst:=none,op := .store TL p x,type:=ty,pos:=pos,after:=af,guard:=none}::rest) a w :=
 asz hO i [] old new [] (by rw[Oz,Pm];exact hi) hS hp hv hm hl rfl (by rw[Oz,Pm];exact hk)
end Sb

namespace Sb
theorem aql : ∀ {bs:List yz} {b:Nat} {x y:TypeId×List lg},(bs.map Prod.fst).Nodup→(b,x)∈bs→(b,y)∈bs→x=y
 | [],_,_,_,_,h,_=>by cases h
 | e::bs,b,x,y,hn,hx,hy=>by
  rw[Gr,Ri]at hn
  rcases yx.1 hx with h1|h1<;>rcases yx.1 hy with h2|h2
  ·
   rw[← h1]at h2;cases h2;rfl
  ·
   rw[← h1]at hn;exact absurd (Nv.2 ⟨_,h2,rfl⟩) hn.1
  ·
   rw[← h2]at hn;exact absurd (Nv.2 ⟨_,h1,rfl⟩) hn.1
  ·
   exact aql hn.2 h1 h2
end Sb
namespace Sb
def ES (e1 e2:yz) (w w':Wq):Prop:=il w w' ∨ ∃ (e:yz) (us cs:List Vq),(e=e1∨e=e2)∧gy w e.2.2 us∧w.heap[e.1]? = some (.cells cs.toArray e.2.1 (0,0))∧Nn cs∧us.length=cs.length∧w'=setM w e.1 0 us
theorem ES.refl (e1 e2:yz) (w:Wq):ES e1 e2 w w := .inl (df _ _)
theorem abu {e1 e2:yz} (c:Vq):yu (ES e1 e2) (ax c):=fun _ _ _ _ h=>h
theorem bpp {e1 e2:yz} (ls:List lg):yu (ES e1 e2) (bz ls):=by
 rintro w w' v (hb|⟨e,us,cs,_,h1,h2,h3,h4,rfl⟩) h
 ·
  exact Ae ls _ _ _ hb h
 ·
  obtain⟨ds,rfl,h⟩:=h;exact⟨ds,rfl,h.upto h2 h3 (Al e.1 us 0 w w (wy _ _))⟩
def StT (e:yz):Wq→Vq→Prop:=fun W _=>zn W e.1 e.2.1 e.2.2
theorem Kw {b:Nat} {T:TypeId} (h:W.heap[b]? = some (.cells cs.toArray T (0,0))) (hl:us.length=cs.length):(setM W b 0 us).heap[b]? = some (.cells us.toArray T (0,0)):=by
 have:=aai (T:=T) us cs [] [] W hl (by simpa using h)
 simpa using this
theorem bvb {e1 e2 e:yz} (h12:e1.1≠e2.1∨e1=e2) (he:e=e1∨e=e2):yu (ES e1 e2) (StT e):=by
 rintro w w' v (hb|⟨e',us,cs,h0,h1,h2,h3,h4,rfl⟩) h
 ·
  exact zn.below h hb
 ·
  have hg:=Al e'.1 us 0 w w (wy _ _)
  by_cases hbb:e.1=e'.1
  ·
   have hee:e=e':=by
    rcases he with rfl|rfl<;>rcases h0 with rfl|rfl
    ·
     rfl
    ·
     rcases h12 with h12|h12
     ·
      exact absurd hbb h12
     ·
      exact h12
    ·
     rcases h12 with h12|h12
     ·
      exact absurd hbb.symm h12
     ·
      exact h12.symm
    ·
     rfl
   subst hee;exact⟨us,Kw h2 h4,h1.upto h2 h3 hg⟩
  ·
   obtain⟨ds,g1,g2⟩:=h;exact⟨ds,(hg.block e.1 (lt_of_block g1) (fun x=>hbb (by injection x))).trans g1,g2.upto h2 h3 hg⟩
structure GS (w:Wq) (bs:List yz) (e1 e2:yz) (W:Wq):Prop where
 bel:Below w.heap.size w W
 box : ∀ b T ls,(b,T,ls)∈bs→w.heap.size≤b∧(zn W b T ls ∨ ∃ e:yz,(e=e1∨e=e2)∧e.1=b∧zn W b T e.2.2)
theorem GS.step {bs:List yz} {e1 e2:yz} : ∀ W W',GS w bs e1 e2 W→il W W'→GS w bs e1 e2 W':=fun W W' h hb=>⟨az h.bel hb,fun b T ls hm=>by
 obtain⟨h1,h2⟩:=h.box b T ls hm
 refine⟨h1,?_⟩
 rcases h2 with h2|⟨e,h3,h4,h5⟩
 ·
  exact .inl (h2.below hb)
 ·
  exact .inr ⟨e,h3,h4,h5.below hb⟩⟩
theorem GS.start {bs:List yz} {e1 e2:yz} (h:Own w bs V):GS w bs e1 e2 V.drew:=⟨(Own.step _ _ h (il.drew V)).bel,fun b T ls hm=>⟨(h.box b T ls hm).1,.inl ((h.box b T ls hm).2.below (il.drew V))⟩⟩
theorem GS.get {bs:List yz} {e1 e2:yz} {b:Nat} {T:TypeId} {ls:List lg} (hm:(b,T,ls)∈bs) (h1:e1.1=b→e1.2.2=ls) (h2:e2.1=b→e2.2.2=ls) (h:GS w bs e1 e2 W):zn W b T ls:=by
 rcases(h.box b T ls hm).2 with g|⟨e,rfl|rfl,g1,g2⟩
 ·
  exact g
 ·
  rwa[h1 g1]at g2
 ·
  rwa[h2 g1]at g2
theorem Tz {e1 e2:yz} {k:Nat} (h:ib P Q l n T G il al a0 k o):ib P Q l n T G (ES e1 e2) al a0 k o:=by
 intro a w hG hO hN
 refine Ux (fun a' w' hK => ?_) (h a w hG hO hN)
 obtain⟨v,h1,h2,h3,h4,h5⟩:=hK
 exact⟨v,h1,h2,.inl h3,h4,h5⟩
theorem bvd {bs:List yz} {e1 e2:yz} {k:Nat} {b:Nat} {old new:List lg}
  (hS:Cw P TL m) (hal:al.contains k=false) (hp:cu l n T a0 k p (ax (.pointer (some ⟨b,0,none⟩)))) (hx:cu l n T a0 k x (bz new))
  (hm:(b,TB,old)∈bs) (hnd:(bs.map Prod.fst).Nodup) (he:((b,TB,new):yz)=e1∨((b,TB,new):yz)=e2) (h12:e1.1≠e2.1∨e1=e2) (hn:ry new=m) (ho:ry old=m) (hT:T k=StT (b,TB,new)) :
  ib P Q l n T (GS w0 bs e1 e2) (ES e1 e2) al a0 k { dst:=none,op := .store TL p x,type:=ty,pos:=pos,after:=af,guard:=gd}:=by
 intro a w hG hO hN
 obtain⟨us,ex,hu⟩:=hx a w hO hN
 obtain⟨hge,byb⟩:=hG.box b TB old hm
 have hB : ∃ ls,ry ls=m∧zn w b TB ls:=by
  rcases byb with g|⟨e,ge,gb,g⟩
  ·
   exact⟨old,ho,g⟩
  ·
   refine⟨e.2.2,?_,g⟩
   have:e=((b,TB,new):yz):=by
    rcases ge with rfl|rfl<;>rcases he with rfl|rfl
    ·
     rfl
    ·
     rcases h12 with h12|h12
     ·
      exact absurd gb h12
     ·
      exact h12
    ·
     rcases h12 with h12|h12
     ·
      exact absurd gb.symm h12
     ·
      exact h12.symm
    ·
     rfl
   rw[this];exact hn
 obtain⟨ls,hls,cs,hb,hcs⟩:=hB
 have hlen:us.length=cs.length:=by rw[hu.len,hcs.len,hn,hls]
 have hr:=hS a.eval w none p x b 0 cs TB us ty pos af gd (by rw[hu.len,hn]) (fun u h=>(hu.noW u h).2.1) hb (by rw[hcs.len,hls];omega) (hp a w hO hN) ex
 unfold Oper.wp
 rw[hr]
 have hg:=Al b us 0 w w (wy _ _)
 have hnw:=hcs.noW
 refine⟨undef,rfl,⟨hG.bel.grown hg hG.bel.size (fun k hk=>by injection hk with hk;omega),fun b' T' ls' hm' => ?_⟩,.inr ⟨(b,TB,new),us,cs,by rcases he with h|h;exact .inl h;exact .inr h,hu,hb,hnw,hlen,rfl⟩,?_,fun h=>by rw[hal]at h;cases h⟩
 ·
  obtain⟨k1,k2⟩:=hG.box b' T' ls' hm';refine⟨k1,?_⟩
  by_cases hbb:b'=b
  ·
   subst hbb;have:(T',ls')=(TB,old):=by
    exact aql hnd hm' hm
   obtain⟨rfl,rfl⟩:=Prod.mk.inj this;exact .inr ⟨(b',T',new),by rcases he with h|h;exact .inl h;exact .inr h,rfl,us,Kw hb hlen,hu.upto hb hnw hg⟩
  ·
   have keep : ∀ ls,zn w b' T' ls→zn (setM w b 0 us) b' T' ls:=fun ls ⟨ds,g1,g2⟩=>⟨ds,(hg.block b' (lt_of_block g1) (fun x=>hbb (by injection x))).trans g1,g2.upto hb hnw hg⟩
   rcases k2 with k2|⟨e,k3,k4,k5⟩
   ·
    exact .inl (keep _ k2)
   ·
    exact .inr ⟨e,k3,k4,keep _ k5⟩
 ·
  rw[hT];exact⟨us,Kw hb hlen,hu.upto hb hnw hg⟩
end Sb

end Go.Proofs.YtfgeaakhlcaibaaGreatDoor
namespace Go.Proofs.YtfgeaakhlcaibaaGreatDoor
open Go.Proofs.Tryz
open Go renaming World → Wq
open Go renaming Value → Vq
variable {W w V w0 w' W' Wp:Wq} {x y p:Operand} {P:Program} {n off m d i B off' F ms id c1 c1a Ke c2 sz B':Nat} {cs us ds:List Vq} {Q:Exit→Act→Wq→Prop} {l rest:List Oper} {ty TB TL:TypeId} {pos:String} {af:Array Edge} {T:Nat→Wq→Vq→Prop} {a0:Act} {al l1 Jl Kc l2:List Nat} {gd:Option (Nat×Bool)} {o:Oper} {G:Wq→Prop} {ρ:Operand→Vq} {S:Nat→Prop} {v0 v1:Vq} {ops:Array Oper} {A1 Jp Kj A2:Option Addr} {Yz m1b n1:Bool} {x1:Rat} {ts:List (Wq→Vq→Prop)} {ps:List (Nat×Operand)} {ats:Array TypeId} {E:Wq→Wq→Prop} {sl:Nat→Tmp}

def btt (l:List Oper) (n:Nat) (sl:Nat→Tmp):Bool:=(List.range n).all fun k=>(ig l k).isSome||(List.range n).any fun j=>si l k j (sl k)
def ade (P:Program) (Q:Exit→Act→Wq→Prop) (l:List Oper) (n:Nat) (sl:Nat→Tmp) (T:Nat→Wq→Vq→Prop) (G:Wq→Prop) (E:Wq→Wq→Prop) (a0:Act) (k:Nat) (o:Oper):Prop :=
 o.guard=none ∧ ∀ (a:Act) (w:Wq),G w→(∀ t,Gd l n t=true→a.tmps.getD t undef=a0.tmps.getD t undef)→(∀ j d,si l k j d=true→T j w (a.tmps.getD d undef)) →
  o.wp P a w (fun a' w' => ∃ v,a'=a.put o.dst v∧G w'∧E w w'∧T k w' v∧(o.dst=none→v=a.tmps.getD (sl k) undef)) Q
def Mv (P:Program) (Q:Exit→Act→Wq→Prop) (l:List Oper) (n:Nat) (sl:Nat→Tmp) (T:Nat→Wq→Vq→Prop) (G:Wq→Prop) (E:Wq→Wq→Prop) (a0:Act):Nat→List Oper→Prop
 | _,[]=>True
 | k,o::r=>ade P Q l n sl T G E a0 k o∧Mv P Q l n sl T G E a0 (k+1) r
section
variable {P:Program} {Q:Exit→Act→Wq→Prop} {l:List Oper} {n sz:Nat} {sl:Nat→Tmp} {T:Nat→Wq→Vq→Prop} {G:Wq→Prop} {E:Wq→Wq→Prop} {a0:Act}
theorem Bu {k:Nat} {r:List Oper} (h:ade P Q l n sl T G E a0 k o) (hr:Mv P Q l n sl T G E a0 (k+1) r):Mv P Q l n sl T G E a0 k (o::r):=⟨h,hr⟩
theorem azz {k:Nat}:Mv P Q l n sl T G E a0 k []:=trivial
theorem Fp {k:Nat} (hg:o.guard=none) (hd:o.dst.isSome=true) (h:ib P Q l n T G E [] a0 k o):ade P Q l n sl T G E a0 k o :=
 ⟨hg,fun a w hG hO hN=>Ux (fun a' w' hK=>by
  obtain⟨v,h1,h2,h3,h4,_⟩:=hK;exact⟨v,h1,h2,h3,h4,fun e=>by rw[e]at hd;cases hd⟩) (h a w hG hO hN)⟩
theorem Mv.get : ∀ {r:List Oper} {k:Nat},Mv P Q l n sl T G E a0 k r → ∀ {i:Nat} {o:Oper},r[i]? = some o→ade P Q l n sl T G E a0 (k+i) o
 | [],_,_,i,o,h=>by simp at h
 | o'::r,k,hs,0,o,h=>by
  have:o'=o:=by simpa using h
  subst this;exact hs.1
 | o'::r,k,hs,i+1,o,h=>by
  have:=Mv.get hs.2 (i:=i) (o:=o) (by simpa using h);rwa[show k+1+i=k+(i+1)by omega]at this
structure Pg (l:List Oper) (n:Nat) (sl:Nat→Tmp) (T:Nat→Wq→Vq→Prop) (G:Wq→Prop) (a0:Act) (S:Nat→Prop) (a:Act) (w:Wq):Prop where
 defers:a.defers=a0.defers
 size:a.tmps.size=a0.tmps.size
 old : ∀ t,Gd l n t=true→a.tmps.getD t undef=a0.tmps.getD t undef
 new : ∀ k d,k<n→S k→ig l k=some d→T k w (a.tmps.getD d undef)
 nod : ∀ k,k<n→S k→ig l k=none→T k w (a.tmps.getD (sl k) undef)
 cl : ∀ k j d,k<n→S k→si l k j d=true→S j
 good:G w
theorem Pg.finish {a:Act} (hsz:a0.tmps.size=sz) (hds : ∀ i j d,i<n→j<n→ig l i=some d→ig l j=some d→d<sz∧j=i)
  (hall : ∀ k,k<n→S k) (inv:Pg l n sl T G a0 S a w) : ∃ v:Nat→Vq,a=ay v 0 (l.take n) a0∧(∀ k,k<n→T k w (v k)) ∧ ∀ k j,k<n→j<n→ig l k=none→ig l j=some (sl k)→v k=v j:=by
 have hv : ∃ v:Nat→Vq,(∀ k d,ig l k=some d→v k=a.tmps.getD d undef) ∧ ∀ k,ig l k=none→v k=a.tmps.getD (sl k) undef :=
  ⟨fun k=>match ig l k with|some d=>a.tmps.getD d undef|none=>a.tmps.getD (sl k) undef,fun k d h=>by simp only[h],fun k h=>by simp only[h]⟩
 obtain⟨v,hv1,hv2⟩:=hv
 refine⟨v,?_,fun k hk => ?_,fun k j hk hj h1 h2=>by rw[hv2 k h1,hv1 j _ h2]⟩
 rotate_left
 ·
  cases hd:ig l k with
  | none=>rw[hv2 k hd];exact inv.nod k hk (hall k hk) hd
  | some d=>rw[hv1 k d hd];exact inv.new k d hk (hall k hk) hd
 refine aiv (by rw[inv.defers,Qx]) (by rw[inv.size,Vx]) (fun t => ?_)
 by_cases ht : ∃ k,k<n∧ig l k=some t
 ·
  obtain⟨k,hk,hkt⟩:=ht;have hdt : ∀ j,ig (l.take n) j=some t→j=k:=fun j hj=>(hds k j t hk (Hm hj).1 hkt (Hm hj).2).2
  rw[Ya v t (l.take n) 0 k a0 (by unfold ig at hkt ⊢;rwa[Qr hk]) hdt (by rw[hsz];exact(hds k k t hk hk hkt hkt).1),Bn];exact(hv1 k t hkt).symm
 ·
  have hf:Gd l n t=true:=Hd.2 (fun o ho=>by
   obtain⟨k,hk⟩:=arf ho;have hkn:k<n:=by
    rcases Fa k n with h|h
    ·
     exact h
    ·
     rw[Ha (by simp;omega)]at hk;cases hk
   rw[Qr hkn]at hk;simp only[aes];intro h;exact ht ⟨k,hkn,by unfold ig;rw[hk];exact h⟩)
  rw[inv.old t hf,Rz v t (l.take n) 0 a0 (fun j hj=>ht ⟨j,Hm hj⟩)]
theorem Pg.step {a:Act} {w2:Wq} {v:Vq} (hsz:a0.tmps.size=sz) (hds : ∀ i j d,i<n→j<n→ig l i=some d→ig l j=some d→d<sz∧j=i)
  (hsl : ∀ k,k<n→ig l k=none → ∃ j,j<n∧si l k j (sl k)=true) (hT : ∀ k w w' v,E w w'→T k w v→T k w' v) (inv:Pg l n sl T G a0 S a w) (hin:i<n) (ho:l[i]? = some o) (Zg : ¬ S i) (hwt : ∀ j d,si l i j d=true→S j) (hG:G w2) (hE:E w w2) (Ru:T i w2 v) (hno:o.dst=none→v=a.tmps.getD (sl i) undef) :
  Pg l n sl T G a0 (fun k=>k=i∨S k) (a.put o.dst v) w2:=by
 have hdi:ig l i=o.dst:=by unfold ig;rw[ho];rfl
 refine⟨by rw[Zu];exact inv.defers,by rw[Yb];exact inv.size,fun t ht => ?_,fun k d hk hl hd => ?_,fun k hk hl hd => ?_,fun k j d hk hl hw => ?_,hG⟩
 ·
  rw[Ji _ _ _ _ (aou ht hin ho)];exact inv.old t ht
 ·
  by_cases hki:k=i
  ·
   subst hki;rw[hdi]at hd;rw[hd,Vy _ _ _ (by rw[inv.size,hsz];exact(hds k k d hk hk (by rw[hdi];exact hd) (by rw[hdi];exact hd)).1)];exact Ru
  ·
   rw[Ji _ _ _ _ (fun h=>hki ((hds i k d hin hk (by rw[hdi];exact h) hd).2))];exact hT k w w2 _ hE (inv.new k d hk (hl.resolve_left hki) hd)
 ·
  by_cases hki:k=i
  ·
   subst hki;have hon:o.dst=none:=by rw[← hdi];exact hd
   rw[hon,show(a.put none v)=a from rfl,← hno hon];exact Ru
  ·
   have hSk:=hl.resolve_left hki;obtain⟨j,hj,hw⟩:=hsl k hk hd;have hSj:=inv.cl k j _ hk hSk hw;have hji:j≠i:=fun e=>Zg (e ▸ hSj)
   rw[Ji _ _ _ _ (fun h=>hji ((hds i j _ hin hj (by rw[hdi];exact h) (Ic hw)).2))];exact hT k w w2 _ hE (inv.nod k hk hSk hd)
 ·
  by_cases hki:k=i
  ·
   subst hki;exact .inr (hwt j d hw)
  ·
   exact .inr (inv.cl k j d hk (hl.resolve_left hki) hw)
theorem Pg.mono {a:Act} {S':Nat→Prop} (inv:Pg l n sl T G a0 S a w) (h : ∀ k,k<n→(S' k↔S k)) (hb : ∀ k j d,k<n→si l k j d=true→j<n):Pg l n sl T G a0 S' a w :=
 ⟨inv.defers,inv.size,inv.old,fun k d hk hs hd=>inv.new k d hk ((h k hk).1 hs) hd,fun k hk hs hd=>inv.nod k hk ((h k hk).1 hs) hd,fun k j d hk hs hw=>(h j (hb k j d hk hw)).2 (inv.cl k j d hk ((h k hk).1 hs) hw),inv.good⟩
end
theorem bof {a:Act} (n sz:Nat) (sl:Nat→Tmp) (T:Nat→Wq→Vq→Prop) (G:Wq→Prop) (E:Wq→Wq→Prop)
  (hm:P.follows .mixedOrders=true) (hB:adb l n sz=true) (hS1:btt l n sl=true) (hsz:a.tmps.size=sz)
  (hT : ∀ k w w' v,E w w'→T k w v→T k w' v) (hG:G w.drew)
  (hS:Mv P Q l n sl T G E a 0 (l.take n))
  (hend : ∀ (v:Nat→Vq) (w':Wq),G w'→(∀ k,k<n→T k w' (v k))→(∀ k j,k<n→j<n→ig l k=none→ig l j=some (sl k)→v k=v j)→wpList P l.toArray Q (l.drop n) (ay v 0 (l.take n) a) w') :
  (Code.region id l.toArray true).wp P Q a w:=by
 simp only[adb,Bz,agp,Ey]at hB
 obtain⟨⟨⟨⟨hn,aul⟩,hback⟩,aal⟩,hseq⟩:=hB
 have hget : ∀ k,k<n → ∃ o,l[k]? = some o:=fun k hk=>⟨l[k]'(by omega),Cj om⟩
 have hbk:=Sw hback
 have hds:=Sv aal
 have hsl : ∀ k,k<n→ig l k=none → ∃ j,j<n∧si l k j (sl k)=true:=fun k hk hd=>by
  have h1:=Hd.1 hS1 k (abr.2 hk);simp only[hd,aeu,Bool.false_or,List.any_eq_true,abr]at h1;exact h1
 have hwb : ∀ k j d,k<n→si l k j d=true→j<n:=fun k j d hk hw=>by
  simp only[si,Bz,Iw]at hw;obtain⟨oj,hoj,e,he,hb,hon⟩:=aet hw.1;have:=hbk k oj hk (by simpa using hoj) e he hb;omega
 refine wp_region_any hm ?_
 have key : ∀ (f:Nat) (L:Array Bool) (a':Act) (w':Wq),HeadInv .any l.toArray n L→Pg l n sl T G a (fun k=>L.getD k false=true) a' w'→Gf L n=f→wpAny P .any l.toArray Q (f+(l.length-n)) L a' w':=by
  intro f
  induction f with
  | zero =>
   intro L a' w' head inv hc;have hall:=Sa hc;have hL:L=Fh n (l.length-n):=by
    have hs:=head.size;refine Array.ext (by simp[Fh,hs];omega) (fun i h1 h2 => ?_)
    by_cases hi:i<n
    ·
     have g:=hall i hi;simp[h1]at g;simp[Fh,hi,g]
    ·
     have g:=head.tail i om (by rw[← hs];exact h1);simp[h1]at g;simp[Fh,buq,hi,g]
   obtain⟨v,he,hv,Qd⟩:=inv.finish hsz hds (fun k hk=>by rw[hL];simp[Fh,bkr,hk]);rw[he,Bn];have hlen:(l.drop n).length=l.length-n:=by simp
   rw[← hlen];exact wpAny_of_seq (md := .any) (ops:=l.toArray) (Q':=Q) (l.drop n) n L _ w' (fun j=>by simp[Sd]) (by rw[hlen,hL];exact hseq)
    (hend v w' inv.good hv Qd)
  | succ f ih =>
   intro L a' w' head inv hc;obtain⟨i0,hi0,alf,hle0⟩:=aay (L:=L) (m:=n) om;have hLs:L.size=l.length:=by rw[head.size];simp
   rw[show f+1+(l.length-n)=(f+(l.length-n))+1 by omega];refine⟨fun hr => ?_,fun i hi => ?_⟩
   ·
    exfalso;obtain⟨o,ho⟩:=hget i0 hi0;have:i0∈Region.ready .any l.toArray L:=mem_ready.2 ⟨alf,o,by simpa using ho,fun e he hb=>by
     have hlt:=hbk i0 o hi0 ho e he hb;have h1:=hle0 e.on hlt;simp[show e.on<L.size by rw[hLs];omega]at h1;simp[show e.on<L.size by rw[hLs];omega,h1]⟩
    rw[hr]at this;cases this
   ·
    obtain⟨hun,o,ho,auj⟩:=mem_ready.1 hi;have ho':l[i]? = some o:=by simpa using ho
    have hil:i<l.length:=by
     have:=(bur.1 ho).1
     simpa using this
    have hin:i<n:=by
     rcases Fa i n with h|h
     ·
      exact h
     ·
      exfalso
      rcases aul with he|⟨hs,hch⟩
      ·
       omega
      ·
       exact tail_waits hs hch (by simp only[bbp];omega) head _ i0 rfl hi0 alf i h hi
    have hst:=hS.get (i:=i) (o:=o) (by rw[Qr hin];exact ho');rw[Bn]at hst;have hdone : ∀ j d,si l i j d=true→L.getD j false=true:=fun j d hjd=>by
     simp only[si,Bz,Iw]at hjd;obtain⟨oj,hoj,e,he,hb,hon⟩:=aet hjd.1;have:oj=o:=Az (hoj.symm.trans ho);subst this;have hlj:=auj e he hb;rwa[hon]at hlj
    have hw:=hst.2 a' w' inv.good inv.old (fun j d hjd=>inv.new j d (hwb i j d hin hjd) (hdone j d hjd) (Ic hjd));have Zg : ¬ L.getD i false=true:=fun h=>by rw[getD_both hun]at h;cases h
    have go : ∀ v w2,G w2→E w' w2→T i w2 v→(o.dst=none→v=a'.tmps.getD (sl i) undef)→wpAny P .any l.toArray Q (f+(l.length-n)) (L.setIfInBounds i true) (a'.put o.dst v) w2:=by
     intro v w2 hg2 hE Ru hno;refine ih (L.setIfInBounds i true) _ w2 (head.set hi hin) ((inv.step hsz hds hsl hT hin ho' Zg hdone hg2 hE Ru hno).mono (fun k hk => ?_) hwb) (by have:=aaw hun (m:=n) hin;omega)
     by_cases hki:k=i
     ·
      subst hki;exact⟨fun _ => .inl rfl,fun _=>by simp[show k<L.size by rw[hLs];omega]⟩
     ·
      rw[getD_set_ne false (Kq hki)];exact⟨fun h => .inr h,fun h=>h.resolve_left hki⟩
    unfold wpOp;simp only[ho]
    split
    ·
     refine .inl (Ux (fun a2 w2 hK => ?_) hw)
     obtain⟨v,rfl,hg2,hE,Ru,hno⟩:=hK;exact go v w2 hg2 hE Ru hno
    ·
     rename_i hwd;exact absurd (by simp[Region.wanted,hst.1]) hwd
 have h0:=key n (Array.replicate l.length false) a w.drew
  ⟨by simp,fun j oj _ hl=>(by rw[getD_replicate_false]at hl;cases hl),fun t _ ht=>getD_in (by simpa using ht) (getD_replicate_false _ _)⟩
  ⟨rfl,rfl,fun _ _=>rfl,fun k d _ hs _=>(by rw[getD_replicate_false]at hs;cases hs),fun k _ hs _=>(by rw[getD_replicate_false]at hs;cases hs),fun k j d _ hs _=>(by rw[getD_replicate_false]at hs;cases hs),hG⟩ (aax _ hn)
 rw[show n+(l.length-n)=l.length by omega]at h0
 have hsz2:l.toArray.size=l.length:=by simp
 rw[hsz2]
 exact h0

def Nl (l:List Oper) (sl:Nat→Tmp) (a:Act) (k:Nat):Vq:=match ig l k with|some d=>a.tmps.getD d undef|none=>a.tmps.getD (sl k) undef
theorem aau {a:Act} {k:Nat} {d:Tmp} (h:ig l k=some d):Nl l sl a k=a.tmps.getD d undef:=by unfold Nl;rw[h]
def Ql (P:Program) (Q:Exit→Act→Wq→Prop) (l:List Oper) (n:Nat) (sl:Nat→Tmp) (T:Nat→Wq→Vq→Prop) (G:Wq→Prop) (E:Wq→Wq→Prop) (J:(Nat→Prop)→(Nat→Vq)→Wq→Prop) (a0:Act) (k:Nat) (o:Oper):Prop :=
 o.guard=none ∧ ∀ (a:Act) (w:Wq),G w→(∀ t,Gd l n t=true→a.tmps.getD t undef=a0.tmps.getD t undef)→(∀ j d,si l k j d=true→T j w (a.tmps.getD d undef))→(∃ S u,J S u w ∧ ¬ S k ∧ ∀ j d,si l k j d=true→S j∧u j=a.tmps.getD d undef) →
  o.wp P a w (fun a' w' => ∃ v,a'=a.put o.dst v∧G w'∧E w w'∧T k w' v∧(o.dst=none→v=a.tmps.getD (sl k) undef) ∧
   (∀ S u u',J S u w→(∀ j,j<n→S j→u' j=u j)→(o.dst≠none→u' k=v) → ¬ S k→(∀ j d,si l k j d=true→S j∧u j=a.tmps.getD d undef)→J (fun j=>j=k∨S j) u' w')) Q
def Mt (P:Program) (Q:Exit→Act→Wq→Prop) (l:List Oper) (n:Nat) (sl:Nat→Tmp) (T:Nat→Wq→Vq→Prop) (G:Wq→Prop) (E:Wq→Wq→Prop) (J:(Nat→Prop)→(Nat→Vq)→Wq→Prop) (a0:Act):Nat→List Oper→Prop
 | _,[]=>True
 | k,o::r=>Ql P Q l n sl T G E J a0 k o∧Mt P Q l n sl T G E J a0 (k+1) r
section
variable {P:Program} {Q:Exit→Act→Wq→Prop} {l:List Oper} {n sz:Nat} {sl:Nat→Tmp} {T:Nat→Wq→Vq→Prop} {G:Wq→Prop} {E:Wq→Wq→Prop} {J:(Nat→Prop)→(Nat→Vq)→Wq→Prop} {a0:Act}
theorem jg {k:Nat} {r:List Oper} (h:Ql P Q l n sl T G E J a0 k o) (hr:Mt P Q l n sl T G E J a0 (k+1) r):Mt P Q l n sl T G E J a0 k (o::r):=⟨h,hr⟩
theorem Su {k:Nat}:Mt P Q l n sl T G E J a0 k []:=trivial
theorem Mt.get : ∀ {r:List Oper} {k:Nat},Mt P Q l n sl T G E J a0 k r → ∀ {i:Nat} {o:Oper},r[i]? = some o→Ql P Q l n sl T G E J a0 (k+i) o
 | [],_,_,i,o,h=>by simp at h
 | o'::r,k,hs,0,o,h=>by
  have:o'=o:=by simpa using h
  subst this;exact hs.1
 | o'::r,k,hs,i+1,o,h=>by
  have:=Mt.get hs.2 (i:=i) (o:=o) (by simpa using h);rwa[show k+1+i=k+(i+1)by omega]at this
theorem bts {a:Act} {v:Vq} (hsz:a0.tmps.size=sz) (has:a.tmps.size=a0.tmps.size) (hds : ∀ i j d,i<n→j<n→ig l i=some d→ig l j=some d→d<sz∧j=i) (hin:i<n) (ho:l[i]? = some o) (hd:o.dst≠none):Nl l sl (a.put o.dst v) i=v:=by
 have hdi:ig l i=o.dst:=by unfold ig;rw[ho];rfl
 obtain⟨d,hd'⟩:=Option.ne_none_iff_exists'.1 hd
 rw[aau (hdi.trans hd'),hd',Vy _ _ _ (by rw[has,hsz];exact(hds i i d hin hin (hdi.trans hd') (hdi.trans hd')).1)]
theorem Pg.cgf {a:Act} {j:Nat} {v:Vq} (hds : ∀ i j d,i<n→j<n→ig l i=some d→ig l j=some d→d<sz∧j=i)
  (hsl : ∀ k,k<n→ig l k=none → ∃ j,j<n∧si l k j (sl k)=true) (inv:Pg l n sl T G a0 S a w) (hin:i<n) (ho:l[i]? = some o) (Zg : ¬ S i) (hj:j<n) (hSj:S j):Nl l sl (a.put o.dst v) j=Nl l sl a j:=by
 have hdi:ig l i=o.dst:=by unfold ig;rw[ho];rfl
 have hji:j≠i:=fun e=>Zg (e ▸ hSj)
 unfold Nl
 cases hd:ig l j with
 | some d=>exact Ji _ _ _ _ (fun h=>hji ((hds i j d hin hj (by rw[hdi];exact h) hd).2))
 | none =>
  obtain⟨m,hm,hw⟩:=hsl j hj hd;have hSm:=inv.cl j m _ hj hSj hw;have hmi:m≠i:=fun e=>Zg (e ▸ hSm)
  exact Ji _ _ _ _ (fun h=>hmi ((hds i m _ hin hm (by rw[hdi];exact h) (Ic hw)).2))
theorem Pg.cen {a:Act} (hsz:a0.tmps.size=sz) (hds : ∀ i j d,i<n→j<n→ig l i=some d→ig l j=some d→d<sz∧j=i)
  (hall : ∀ k,k<n→S k) (inv:Pg l n sl T G a0 S a w) : ∃ v:Nat→Vq,a=ay v 0 (l.take n) a0∧(∀ k,k<n→T k w (v k))∧(∀ k j,k<n→j<n→ig l k=none→ig l j=some (sl k)→v k=v j)∧v=Nl l sl a:=by
 have hv1 : ∀ k d,ig l k=some d→Nl l sl a k=a.tmps.getD d undef:=fun k d h=>aau h
 have hv2 : ∀ k,ig l k=none→Nl l sl a k=a.tmps.getD (sl k) undef:=fun k h=>by unfold Nl;rw[h]
 refine⟨Nl l sl a,?_,fun k hk => ?_,fun k j hk hj h1 h2=>by rw[hv2 k h1,hv1 j _ h2],rfl⟩
 rotate_left
 ·
  cases hd:ig l k with
  | none=>rw[hv2 k hd];exact inv.nod k hk (hall k hk) hd
  | some d=>rw[hv1 k d hd];exact inv.new k d hk (hall k hk) hd
 refine aiv (by rw[inv.defers,Qx]) (by rw[inv.size,Vx]) (fun t => ?_)
 by_cases ht : ∃ k,k<n∧ig l k=some t
 ·
  obtain⟨k,hk,hkt⟩:=ht;have hdt : ∀ j,ig (l.take n) j=some t→j=k:=fun j hj=>(hds k j t hk (Hm hj).1 hkt (Hm hj).2).2
  rw[Ya (Nl l sl a) t (l.take n) 0 k a0 (by unfold ig at hkt ⊢;rwa[Qr hk]) hdt (by rw[hsz];exact(hds k k t hk hk hkt hkt).1),Bn];exact(hv1 k t hkt).symm
 ·
  have hf:Gd l n t=true:=Hd.2 (fun o ho=>by
   obtain⟨k,hk⟩:=arf ho;have hkn:k<n:=by
    rcases Fa k n with h|h
    ·
     exact h
    ·
     rw[Ha (by simp;omega)]at hk;cases hk
   rw[Qr hkn]at hk;simp only[aes];intro h;exact ht ⟨k,hkn,by unfold ig;rw[hk];exact h⟩)
  rw[inv.old t hf,Rz (Nl l sl a) t (l.take n) 0 a0 (fun j hj=>ht ⟨j,Hm hj⟩)]
end
theorem aav {a:Act} (n sz:Nat) (sl:Nat→Tmp) (T:Nat→Wq→Vq→Prop) (G:Wq→Prop) (E:Wq→Wq→Prop) (J:(Nat→Prop)→(Nat→Vq)→Wq→Prop)
  (hm:P.follows .mixedOrders=true) (hB:adb l n sz=true) (hS1:btt l n sl=true) (hsz:a.tmps.size=sz)
  (hT : ∀ k w w' v,E w w'→T k w v→T k w' v) (hG:G w.drew) (hJ : ∀ u,J (fun _=>False) u w.drew) (hJc : ∀ S S' u w,(∀ k,k<n→(S' k↔S k))→J S u w→J S' u w)
  (hS:Mt P Q l n sl T G E J a 0 (l.take n))
  (hend : ∀ (v:Nat→Vq) (w':Wq),G w'→J (fun _=>True) v w'→(∀ k,k<n→T k w' (v k))→(∀ k j,k<n→j<n→ig l k=none→ig l j=some (sl k)→v k=v j)→wpList P l.toArray Q (l.drop n) (ay v 0 (l.take n) a) w') :
  (Code.region id l.toArray true).wp P Q a w:=by
 simp only[adb,Bz,agp,Ey]at hB
 obtain⟨⟨⟨⟨hn,aul⟩,hback⟩,aal⟩,hseq⟩:=hB
 have hget : ∀ k,k<n → ∃ o,l[k]? = some o:=fun k hk=>⟨l[k]'(by omega),Cj om⟩
 have hbk:=Sw hback
 have hds:=Sv aal
 have hsl : ∀ k,k<n→ig l k=none → ∃ j,j<n∧si l k j (sl k)=true:=fun k hk hd=>by
  have h1:=Hd.1 hS1 k (abr.2 hk);simp only[hd,aeu,Bool.false_or,List.any_eq_true,abr]at h1;exact h1
 have hwb : ∀ k j d,k<n→si l k j d=true→j<n:=fun k j d hk hw=>by
  simp only[si,Bz,Iw]at hw;obtain⟨oj,hoj,e,he,hb,hon⟩:=aet hw.1;have:=hbk k oj hk (by simpa using hoj) e he hb;omega
 refine wp_region_any hm ?_
 have key : ∀ (f:Nat) (L:Array Bool) (a':Act) (w':Wq),HeadInv .any l.toArray n L→Pg l n sl T G a (fun k=>L.getD k false=true) a' w'→J (fun k=>L.getD k false=true) (Nl l sl a') w'→Gf L n=f→wpAny P .any l.toArray Q (f+(l.length-n)) L a' w':=by
  intro f
  induction f with
  | zero =>
   intro L a' w' head inv jv hc;have hall:=Sa hc;have hL:L=Fh n (l.length-n):=by
    have hs:=head.size;refine Array.ext (by simp[Fh,hs];omega) (fun i h1 h2 => ?_)
    by_cases hi:i<n
    ·
     have g:=hall i hi;simp[h1]at g;simp[Fh,hi,g]
    ·
     have g:=head.tail i om (by rw[← hs];exact h1);simp[h1]at g;simp[Fh,buq,hi,g]
   obtain⟨v,he,hv,Qd,hvu⟩:=inv.cen hsz hds (fun k hk=>by rw[hL];simp[Fh,bkr,hk]);rw[he,Bn];have hlen:(l.drop n).length=l.length-n:=by simp
   rw[← hlen];exact wpAny_of_seq (md := .any) (ops:=l.toArray) (Q':=Q) (l.drop n) n L _ w' (fun j=>by simp[Sd]) (by rw[hlen,hL];exact hseq)
    (hend v w' inv.good (hvu ▸ hJc _ _ _ _ (fun k hk=>by rw[hL];simp[Fh,bkr,hk]) jv) hv Qd)
  | succ f ih =>
   intro L a' w' head inv jv hc;obtain⟨i0,hi0,alf,hle0⟩:=aay (L:=L) (m:=n) om;have hLs:L.size=l.length:=by rw[head.size];simp
   rw[show f+1+(l.length-n)=(f+(l.length-n))+1 by omega];refine⟨fun hr => ?_,fun i hi => ?_⟩
   ·
    exfalso;obtain⟨o,ho⟩:=hget i0 hi0;have:i0∈Region.ready .any l.toArray L:=mem_ready.2 ⟨alf,o,by simpa using ho,fun e he hb=>by
     have hlt:=hbk i0 o hi0 ho e he hb;have h1:=hle0 e.on hlt;simp[show e.on<L.size by rw[hLs];omega]at h1;simp[show e.on<L.size by rw[hLs];omega,h1]⟩
    rw[hr]at this;cases this
   ·
    obtain⟨hun,o,ho,auj⟩:=mem_ready.1 hi;have ho':l[i]? = some o:=by simpa using ho
    have hil:i<l.length:=by
     have:=(bur.1 ho).1
     simpa using this
    have hin:i<n:=by
     rcases Fa i n with h|h
     ·
      exact h
     ·
      exfalso
      rcases aul with he|⟨hs,hch⟩
      ·
       omega
      ·
       exact tail_waits hs hch (by simp only[bbp];omega) head _ i0 rfl hi0 alf i h hi
    have hst:=hS.get (i:=i) (o:=o) (by rw[Qr hin];exact ho');rw[Bn]at hst;have hdone : ∀ j d,si l i j d=true→L.getD j false=true:=fun j d hjd=>by
     simp only[si,Bz,Iw]at hjd;obtain⟨oj,hoj,e,he,hb,hon⟩:=aet hjd.1;have:oj=o:=Az (hoj.symm.trans ho);subst this;have hlj:=auj e he hb;rwa[hon]at hlj
    have Zg : ¬ L.getD i false=true:=fun h=>by rw[getD_both hun]at h;cases h
    have hw:=hst.2 a' w' inv.good inv.old (fun j d hjd=>inv.new j d (hwb i j d hin hjd) (hdone j d hjd) (Ic hjd)) ⟨_,_,jv,Zg,fun j d hjd=>⟨hdone j d hjd,aau (Ic hjd)⟩⟩;have go : ∀ v w2,G w2→E w' w2→T i w2 v→(o.dst=none→v=a'.tmps.getD (sl i) undef)→(∀ S u u',J S u w'→(∀ j,j<n→S j→u' j=u j)→(o.dst≠none→u' i=v) → ¬ S i→(∀ j d,si l i j d=true→S j∧u j=a'.tmps.getD d undef)→J (fun k=>k=i∨S k) u' w2)→wpAny P .any l.toArray Q (f+(l.length-n)) (L.setIfInBounds i true) (a'.put o.dst v) w2:=by
     intro v w2 hg2 hE Ru hno hj;have hiff : ∀ k,k<n→((L.setIfInBounds i true).getD k false=true↔(k=i∨L.getD k false=true)):=fun k hk => ?_
     refine ih (L.setIfInBounds i true) _ w2 (head.set hi hin) ((inv.step hsz hds hsl hT hin ho' Zg hdone hg2 hE Ru hno).mono hiff hwb) (hJc _ _ _ _ hiff (hj _ (Nl l sl a') _ jv (fun j hj hSj=>inv.cgf hds hsl hin ho' Zg hj hSj) (fun hd=>bts hsz inv.size hds hin ho' hd) Zg (fun j d hjd=>⟨hdone j d hjd,aau (Ic hjd)⟩))) (by have:=aaw hun (m:=n) hin;omega)
     by_cases hki:k=i
     ·
      subst hki;exact⟨fun _ => .inl rfl,fun _=>by simp[show k<L.size by rw[hLs];omega]⟩
     ·
      rw[getD_set_ne false (Kq hki)];exact⟨fun h => .inr h,fun h=>h.resolve_left hki⟩
    unfold wpOp;simp only[ho]
    split
    ·
     refine .inl (Ux (fun a2 w2 hK => ?_) hw)
     obtain⟨v,rfl,hg2,hE,Ru,hno,hj⟩:=hK;exact go v w2 hg2 hE Ru hno hj
    ·
     rename_i hwd;exact absurd (by simp[Region.wanted,hst.1]) hwd
 have h0:=key n (Array.replicate l.length false) a w.drew
  ⟨by simp,fun j oj _ hl=>(by rw[getD_replicate_false]at hl;cases hl),fun t _ ht=>getD_in (by simpa using ht) (getD_replicate_false _ _)⟩
  ⟨rfl,rfl,fun _ _=>rfl,fun k d _ hs _=>(by rw[getD_replicate_false]at hs;cases hs),fun k _ hs _=>(by rw[getD_replicate_false]at hs;cases hs),fun k j d _ hs _=>(by rw[getD_replicate_false]at hs;cases hs),hG⟩ (hJc _ _ _ _ (fun k _=>⟨fun h=>(by rw[getD_replicate_false]at h;cases h),fun h=>h.elim⟩) (hJ _)) (aax _ hn)
 rw[show n+(l.length-n)=l.length by omega]at h0
 have hsz2:l.toArray.size=l.length:=by simp
 rw[hsz2]
 exact h0
end Go.Proofs.YtfgeaakhlcaibaaGreatDoor
namespace Go.Proofs.YtfgeaakhlcaibaaGreatDoor
open Go.RowKit
open Go.Proofs.Tryz
open Go renaming World → Wq
open Go renaming Value → Vq
variable {W w V w0 w' W' Wp:Wq} {x y p:Operand} {P:Program} {n off m d i B off' F ms id c1 c1a Ke c2 sz B':Nat} {cs us ds:List Vq} {Q:Exit→Act→Wq→Prop} {l rest:List Oper} {ty TB TL:TypeId} {pos:String} {af:Array Edge} {T:Nat→Wq→Vq→Prop} {a0:Act} {al l1 Jl Kc l2:List Nat} {gd:Option (Nat×Bool)} {o:Oper} {G:Wq→Prop} {ρ:Operand→Vq} {S:Nat→Prop} {v0 v1:Vq} {ops:Array Oper} {A1 Jp Kj A2:Option Addr} {Yz m1b n1:Bool} {x1:Rat} {ts:List (Wq→Vq→Prop)} {ps:List (Nat×Operand)} {ats:Array TypeId} {E:Wq→Wq→Prop} {sl:Nat→Tmp}

namespace Sb
def EN (B:Nat) (TB:TypeId) (new:List lg) (w w':Wq):Prop:=il w w' ∨ ∃ (b:Nat) (us cs:List Vq),B≤b∧gy w new us∧w.heap[b]? = some (.cells cs.toArray TB (0,0))∧Nn cs∧us.length=cs.length∧w'=setM w b 0 us
theorem bcb {new:List lg} (c:Vq):yu (EN B TB new) (ax c):=fun _ _ _ _ h=>h
theorem Pt {new:List lg} (ls:List lg):yu (EN B TB new) (bz ls):=by
 rintro w w' v (hb|⟨b,us,cs,_,h1,h2,h3,h4,rfl⟩) h
 ·
  exact Ae ls _ _ _ hb h
 ·
  obtain⟨ds,rfl,h⟩:=h;exact⟨ds,rfl,h.upto h2 h3 (Al b us 0 w w (wy _ _))⟩
def Vz (T:TypeId) (m:Nat) (B:Nat):Wq→Vq→Prop:=fun W v => ∃ b,v = .pointer (some ⟨b,0,none⟩)∧B≤b ∧ ∃ cs:List Vq,W.heap[b]? = some (.cells cs.toArray T (0,0))∧Nn cs∧cs.length=m
theorem bln {T:TypeId} {new:List lg}:yu (EN B TB new) (Vz T m B'):=by
 rintro w w' v (hb|⟨b,us,cs,_,h1,h2,h3,h4,rfl⟩) ⟨c,rfl,h5,ds,h6,h7,h8⟩
 ·
  exact⟨c,rfl,h5,ds,(hb.block _ (lt_of_block h6)).trans h6,h7,h8⟩
 ·
  refine⟨c,rfl,h5,?_⟩
  by_cases hbc:c=b
  ·
   subst hbc;rw[h6]at h2;have h9:=Az h2;injection h9 with e1 e2 e3;subst e2;have e4:ds=cs:=by simpa using e1
   subst e4;exact⟨us,Kw h6 h4,h1.noW,by rw[h4,h8]⟩
  ·
   exact⟨ds,((Al b us 0 w w (wy _ _)).block c (lt_of_block h6) (fun x=>hbc (by injection x))).trans h6,h7,h8⟩
def Xp (TB:TypeId) (new:List lg) (B:Nat):Wq→Vq→Prop:=fun W v => ∃ b,v = .pointer (some ⟨b,0,none⟩)∧B≤b∧zn W b TB new
theorem bpq {new:List lg}:yu (EN B TB new) (Xp TB new B'):=by
 rintro w w' v (hb|⟨b,us,cs,_,h1,h2,h3,h4,rfl⟩) ⟨c,rfl,h5,ds,h6,h7⟩
 ·
  exact⟨c,rfl,h5,zn.below ⟨ds,h6,h7⟩ hb⟩
 ·
  refine⟨c,rfl,h5,?_⟩
  have hg:=Al b us 0 w w (wy _ _)
  by_cases hbc:c=b
  ·
   subst hbc;exact⟨us,Kw h2 h4,h1.upto h2 h3 hg⟩
  ·
   exact⟨ds,(hg.block c (lt_of_block h6) (fun x=>hbc (by injection x))).trans h6,h7.upto h2 h3 hg⟩
theorem Hl {new:List lg} {k:Nat} (h:ib P Q l n T G il al a0 k o):ib P Q l n T G (EN B TB new) al a0 k o:=by
 intro a w hG hO hN
 refine Ux (fun a' w' hK => ?_) (h a w hG hO hN)
 obtain⟨v,h1,h2,h3,h4,h5⟩:=hK
 exact⟨v,h1,h2,.inl h3,h4,h5⟩
theorem bvj {k:Nat} (hN:Np P TL cs) (hw:cs.all okV=true) (hm:cs.length=m)
  (Qe : ∀ W W',G W→il W W'→G W') (hB : ∀ W,G W→B≤W.heap.size) (hT:T k=Vz TL m B) :
  ib P Q l n T G il [] a0 k { dst:=some d,op := .alloc TL,type:=ty,pos:=pos,after:=af,guard:=gd}:=by
 refine bzv (N:=Vz TL m) (B:=B) ?_ Qe hB hT (fun j W u h=>by simp at h)
 intro a w
 exact⟨_,(df _ _).alloc (gu _) _,fun hB=>⟨w.heap.size,rfl,hB,cs,heap_alloc_new w _,(gy.vs w cs hw).noW,hm⟩,hN a.eval w (some d) ty pos af gd⟩
theorem bve {bs:List yz} {k t:Nat} {new:List lg}
  (hO:Own w0 bs V) (hS:Cw P TL m) (hp:cu l n T a0 k (.tmp t) (Vz TB m V.heap.size)) (hx:cu l n T a0 k x (bz new)) (hn:ry new=m) (hsl:sl k=t) (hT:T k=Xp TB new V.heap.size) :
  ade P Q l n sl T (iw w0 bs V) (EN V.heap.size TB new) a0 k { dst:=none,op := .store TL (.tmp t) x,type:=ty,pos:=pos,after:=af,guard:=none}:=by
 refine⟨rfl,fun a w hG hA hN => ?_⟩
 obtain⟨us,ex,hu⟩:=hx a w hA hN
 obtain⟨b,ep,hge,cs,hb,hnw,hlen⟩:=hp a w hA hN
 have hl:us.length=cs.length:=by rw[hu.len,hn,hlen]
 have hr:=hS a.eval w none (.tmp t) x b 0 cs TB us ty pos af none (by rw[hu.len,hn]) (fun u h=>(hu.noW u h).2.1) hb (by rw[hlen];omega) ep ex
 unfold Oper.wp
 rw[hr]
 have hg:=Al b us 0 w w (wy _ _)
 have hbel:il V (setM w b 0 us):=hG.2.grown hg hG.2.size (fun k hk=>by injection hk with hk;omega)
 exact⟨a.tmps.getD (sl k) undef,rfl,⟨Own.step _ _ hO hbel,hbel⟩,.inr ⟨b,us,cs,hge,hu,hb,hnw,hl,rfl⟩,by rw[hT,hsl];exact⟨b,ep,hge,us,Kw hb hl,hu.upto hb hnw hg⟩,fun _=>rfl⟩
end Sb


namespace Sb
def EX (B:Nat) (TB:TypeId) (w w':Wq):Prop:=il w w' ∨ ∃ (b:Nat) (us cs:List Vq),B≤b∧w.heap[b]? = some (.cells cs.toArray TB (0,0))∧Nn cs∧us.length=cs.length∧w'=setM w b 0 us
theorem Wz (c:Vq):yu (EX B TB) (ax c):=fun _ _ _ _ h=>h
theorem Cx:yu (EX B TB) (fun _ _=>True):=fun _ _ _ _ _=>trivial
theorem Ao (ls:List lg):yu (EX B TB) (bz ls):=by
 rintro w w' v (hb|⟨b,us,cs,_,h2,h3,h4,rfl⟩) h
 ·
  exact Ae ls _ _ _ hb h
 ·
  obtain⟨ds,rfl,h⟩:=h;exact⟨ds,rfl,h.upto h2 h3 (Al b us 0 w w (wy _ _))⟩
def J2 (TB:TypeId) (m B k5 k6 s1 s2:Nat) (Kk Lh:List lg) (S:Nat→Prop) (u:Nat→Vq) (w:Wq):Prop :=
 (S k5→Vz TB m B w (u k5))∧(S k6→Vz TB m B w (u k6))∧(S k5→S k6→u k5≠u k6)∧(S s1→S k5∧Xp TB Kk B w (u k5))∧(S s2→S k6∧Xp TB Lh B w (u k6))
section
variable {TB:TypeId} {m B k5 k6 s1 s2 n:Nat} {Kk Lh:List lg} {S S':Nat→Prop} {u u':Nat→Vq} {w w':Wq}
theorem bjx:J2 TB m B k5 k6 s1 s2 Kk Lh=J2 TB m B k6 k5 s2 s1 Lh Kk:=by
 funext S u w
 exact propext ⟨fun⟨a,b,c,d,e⟩=>⟨b,a,fun x y h=>c y x h.symm,e,d⟩,fun⟨a,b,c,d,e⟩=>⟨b,a,fun x y h=>c y x h.symm,e,d⟩⟩
theorem J2.start:J2 TB m B k5 k6 s1 s2 Kk Lh (fun _=>False) u w:=⟨False.elim,False.elim,fun h=>h.elim,False.elim,False.elim⟩
theorem J2.congr (hl:k5<n∧k6<n∧s1<n∧s2<n) (hS : ∀ k,k<n→(S' k↔S k)) (h:J2 TB m B k5 k6 s1 s2 Kk Lh S u w):J2 TB m B k5 k6 s1 s2 Kk Lh S' u w:=by
 unfold J2 at h ⊢
 rw[hS k5 hl.1,hS k6 hl.2.1,hS s1 hl.2.2.1,hS s2 hl.2.2.2]
 exact h
theorem Vz.bel {v:Vq} (hb:il w w') (h:Vz TB m B w v):Vz TB m B w' v:=by
 obtain⟨c,rfl,h5,ds,h6,h7,h8⟩:=h
 exact⟨c,rfl,h5,ds,(hb.block _ (lt_of_block h6)).trans h6,h7,h8⟩
theorem Xp.bel {new:List lg} {v:Vq} (hb:il w w') (h:Xp TB new B w v):Xp TB new B w' v:=by
 obtain⟨c,rfl,h5,h6⟩:=h
 exact⟨c,rfl,h5,h6.below hb⟩
theorem J2.same {k:Nat} (hl:k5<n∧k6<n) (hne:k≠k5∧k≠k6∧k≠s1∧k≠s2) (h:J2 TB m B k5 k6 s1 s2 Kk Lh S u w) (hb:il w w') (hu : ∀ j,j<n→S j→u' j=u j):J2 TB m B k5 k6 s1 s2 Kk Lh (fun j=>j=k∨S j) u' w':=by
 obtain⟨a,b,c,d,e⟩:=h
 have r5:(k5=k∨S k5)→S k5:=fun h=>h.resolve_left (Kq hne.1)
 have r6:(k6=k∨S k6)→S k6:=fun h=>h.resolve_left (Kq hne.2.1)
 refine⟨fun h => ?_,fun h => ?_,fun h h' => ?_,fun h => ?_,fun h => ?_⟩
 ·
  rw[hu _ hl.1 (r5 h)];exact(a (r5 h)).bel hb
 ·
  rw[hu _ hl.2 (r6 h)];exact(b (r6 h)).bel hb
 ·
  rw[hu _ hl.1 (r5 h),hu _ hl.2 (r6 h')];exact c (r5 h) (r6 h')
 ·
  have q:=d (h.resolve_left (Kq hne.2.2.1));rw[hu _ hl.1 q.1];exact⟨.inr q.1,q.2.bel hb⟩
 ·
  have q:=e (h.resolve_left (Kq hne.2.2.2));rw[hu _ hl.2 q.1];exact⟨.inr q.1,q.2.bel hb⟩
theorem J2.alloc (hl:k5<n∧k6<n) (hne:k5≠k6∧k5≠s1∧k5≠s2) (h:J2 TB m B k5 k6 s1 s2 Kk Lh S u w) (hb:il w w') (hu : ∀ j,j<n→S j→u' j=u j) (Zg : ¬ S k5) (hv:u' k5 = .pointer (some ⟨w.heap.size,0,none⟩)) (hN:Vz TB m B w' (u' k5)) :
  J2 TB m B k5 k6 s1 s2 Kk Lh (fun j=>j=k5∨S j) u' w':=by
 obtain⟨a,b,c,d,e⟩:=h
 have r6:(k6=k5∨S k6)→S k6:=fun h=>h.resolve_left (Kq hne.1)
 refine⟨fun _=>hN,fun h => ?_,fun _ h' => ?_,fun h => ?_,fun h => ?_⟩
 ·
  rw[hu _ hl.2 (r6 h)];exact(b (r6 h)).bel hb
 ·
  obtain⟨g,e1,_,ds,h6,_⟩:=b (r6 h');rw[hv,hu _ hl.2 (r6 h'),e1];intro x;have:=lt_of_block h6;injection x with x;injection x with x;injection x with x;omega
 ·
  exact absurd (d (h.resolve_left (Kq hne.2.1))).1 Zg
 ·
  have q:=e (h.resolve_left (Kq hne.2.2));rw[hu _ hl.2 q.1];exact⟨.inr q.1,q.2.bel hb⟩
theorem Vz.set {b:Nat} {v:Vq} (h2:w.heap[b]? = some (.cells cs.toArray TB (0,0))) (h3:Nn us) (h4:us.length=cs.length) (h:Vz TB m B w v):Vz TB m B (setM w b 0 us) v:=by
 obtain⟨c,rfl,h5,ds,h6,h7,h8⟩:=h
 refine⟨c,rfl,h5,?_⟩
 by_cases hbc:c=b
 ·
  subst hbc;rw[h6]at h2;have h9:=Az h2;injection h9 with e1 e2 e3;have e4:ds=cs:=by simpa using e1
  subst e4;exact⟨us,Kw h6 h4,h3,by rw[h4,h8]⟩
 ·
  exact⟨ds,((Al b us 0 w w (wy _ _)).block c (lt_of_block h6) (fun x=>hbc (by injection x))).trans h6,h7,h8⟩
theorem Xp.set {b:Nat} {new:List lg} {v:Vq} (h2:w.heap[b]? = some (.cells cs.toArray TB (0,0))) (h3:Nn cs) (hv:v ≠ .pointer (some ⟨b,0,none⟩)) (h:Xp TB new B w v):Xp TB new B (setM w b 0 us) v:=by
 obtain⟨c,rfl,h5,ds,h6,h7⟩:=h
 have hg:=Al b us 0 w w (wy _ _)
 have hbc:c≠b:=fun x=>hv (by rw[x])
 exact⟨c,rfl,h5,ds,(hg.block c (lt_of_block h6) (fun x=>hbc (by injection x))).trans h6,h7.upto h2 h3 hg⟩
theorem J2.store {b:Nat} (hl:k5<n∧k6<n) (hne:s1≠k5∧s1≠k6∧s1≠s2) (h:J2 TB m B k5 k6 s1 s2 Kk Lh S u w) (hu : ∀ j,j<n→S j→u' j=u j) (hS:S k5) (hv:u k5 = .pointer (some ⟨b,0,none⟩))
  (h2:w.heap[b]? = some (.cells cs.toArray TB (0,0))) (h3:Nn cs) (h4:us.length=cs.length) (h5:Nn us) (hF:Xp TB Kk B (setM w b 0 us) (.pointer (some ⟨b,0,none⟩))) :
  J2 TB m B k5 k6 s1 s2 Kk Lh (fun j=>j=s1∨S j) u' (setM w b 0 us):=by
 obtain⟨a,b',c,d,e⟩:=h
 have r6:(k6=s1∨S k6)→S k6:=fun h=>h.resolve_left (Kq hne.2.1)
 refine⟨fun _ => ?_,fun h => ?_,fun _ h' => ?_,fun _ => ?_,fun h => ?_⟩
 ·
  rw[hu _ hl.1 hS];exact(a hS).set h2 h5 h4
 ·
  rw[hu _ hl.2 (r6 h)];exact(b' (r6 h)).set h2 h5 h4
 ·
  rw[hu _ hl.1 hS,hu _ hl.2 (r6 h')];exact c hS (r6 h')
 ·
  rw[hu _ hl.1 hS,hv];exact⟨.inr hS,hF⟩
 ·
  have q:=e (h.resolve_left (Kq hne.2.2));rw[hu _ hl.2 q.1];exact⟨.inr q.1,q.2.set h2 h3 (fun x=>c hS q.1 (by rw[hv,x]))⟩
end
section
variable {P:Program} {Q:Exit→Act→Wq→Prop} {l:List Oper} {n:Nat} {sl:Nat→Tmp} {T:Nat→Wq→Vq→Prop} {w0 V:Wq} {bs:List yz} {a0:Act} {TB:TypeId} {m k5 k6 s1 s2:Nat} {Kk Lh:List lg} {ty:TypeId} {pos:String} {af:Array Edge}
theorem Hu {k:Nat} (h:ib P Q l n T (iw w0 bs V) il [] a0 k o) (hg:o.guard=none:=by rfl) (hd:o.dst.isSome=true:=by rfl) (hl:k5<n∧k6<n:=by decide) (hne:k≠k5∧k≠k6∧k≠s1∧k≠s2:=by decide) :
  Ql P Q l n sl T (iw w0 bs V) (EX V.heap.size TB) (J2 TB m V.heap.size k5 k6 s1 s2 Kk Lh) a0 k o :=
 ⟨hg,fun a w hG hO hN _=>Ux (fun a' w' hK=>by
  obtain⟨v,h1,h2,h3,h4,_⟩:=hK;exact⟨v,h1,h2,.inl h3,h4,fun e=>by rw[e]at hd;(cases hd),fun S u u' hJ hu _ _ _=>hJ.same hl hne h3 hu⟩) (h a w hG hO hN)⟩
theorem afb {d:Tmp} (hN:Np P TB cs) (hw:cs.all okV=true) (hm:cs.length=m) (hT:T k5=fun _ _=>True) (hl:k5<n∧k6<n:=by decide) (hne:k5≠k6∧k5≠s1∧k5≠s2:=by decide) :
  Ql P Q l n sl T (iw w0 bs V) (EX V.heap.size TB) (J2 TB m V.heap.size k5 k6 s1 s2 Kk Lh) a0 k5 { dst:=some d,op := .alloc TB,type:=ty,pos:=pos,after:=af,guard:=none} :=
 ⟨rfl,fun a w hG hO _ _=>by
  have hb:il w (w.alloc (.cells cs.toArray TB)):=(df _ _).alloc (gu _) _;refine Dp (P:=P) (hN a.eval w (some d) ty pos af none) ⟨_,rfl,iw.step _ _ hG hb,.inl hb,by rw[hT];trivial,fun e=>by(cases e),fun S u u' hJ hu hv Zg _ => ?_⟩
  have hv':=hv mi;exact hJ.alloc hl hne hb hu Zg hv' (by rw[hv'];exact⟨w.heap.size,rfl,hG.2.size,cs,heap_alloc_new w _,(gy.vs w cs hw).noW,hm⟩)⟩
theorem afa {t:Tmp} (hO:Own w0 bs V) (hS:Cw P TB m) (hw:si l s1 k5 t=true) (hx:cu l n T a0 s1 x (bz Kk)) (hn:ry Kk=m) (hsl:sl s1=t) (hT:T s1=fun _ _=>True) (hl:k5<n∧k6<n:=by decide) (hne:s1≠k5∧s1≠k6∧s1≠s2:=by decide) :
  Ql P Q l n sl T (iw w0 bs V) (EX V.heap.size TB) (J2 TB m V.heap.size k5 k6 s1 s2 Kk Lh) a0 s1 { dst:=none,op := .store TB (.tmp t) x,type:=ty,pos:=pos,after:=af,guard:=none}:=by
 refine⟨rfl,fun a w hG hA hN hE => ?_⟩
 obtain⟨us,ex,hu⟩:=hx a w hA hN
 obtain⟨S0,u0,hJ0,_,hw0⟩:=hE
 obtain⟨b,ep,hge,cs,hb,hnw,hlen⟩:=hJ0.1 (hw0 k5 t hw).1
 rw[(hw0 k5 t hw).2]at ep
 have hle:us.length=cs.length:=by rw[hu.len,hn,hlen]
 have hr:=hS a.eval w none (.tmp t) x b 0 cs TB us ty pos af none (by rw[hu.len,hn]) (fun u h=>(hu.noW u h).2.1) hb (by rw[hlen];omega) ep ex
 unfold Oper.wp
 rw[hr]
 have hg:=Al b us 0 w w (wy _ _)
 have hbel:il V (setM w b 0 us):=hG.2.grown hg hG.2.size (fun k hk=>by injection hk with hk;omega)
 refine⟨a.tmps.getD (sl s1) undef,rfl,⟨Own.step _ _ hO hbel,hbel⟩,.inr ⟨b,us,cs,hge,hb,hnw,hle,rfl⟩,by rw[hT];trivial,fun _=>rfl,fun S u u' hJ hu' _ Zg hwt => ?_⟩
 exact hJ.store hl hne hu' (hwt k5 t hw).1 ((hwt k5 t hw).2.trans ep) hb hnw hle hu.noW ⟨b,rfl,hge,us,Kw hb hle,hu.upto hb hnw hg⟩
theorem agu {d:Tmp} (hN:Np P TB cs) (hw:cs.all okV=true) (hm:cs.length=m) (hT:T k6=fun _ _=>True) (hl:k6<n∧k5<n:=by decide) (hne:k6≠k5∧k6≠s2∧k6≠s1:=by decide) :
  Ql P Q l n sl T (iw w0 bs V) (EX V.heap.size TB) (J2 TB m V.heap.size k5 k6 s1 s2 Kk Lh) a0 k6 { dst:=some d,op := .alloc TB,type:=ty,pos:=pos,after:=af,guard:=none}:=by
 rw[bjx]
 exact afb hN hw hm hT hl hne
theorem agt {t:Tmp} (hO:Own w0 bs V) (hS:Cw P TB m) (hw:si l s2 k6 t=true) (hx:cu l n T a0 s2 x (bz Lh)) (hn:ry Lh=m) (hsl:sl s2=t) (hT:T s2=fun _ _=>True) (hl:k6<n∧k5<n:=by decide) (hne:s2≠k6∧s2≠k5∧s2≠s1:=by decide) :
  Ql P Q l n sl T (iw w0 bs V) (EX V.heap.size TB) (J2 TB m V.heap.size k5 k6 s1 s2 Kk Lh) a0 s2 { dst:=none,op := .store TB (.tmp t) x,type:=ty,pos:=pos,after:=af,guard:=none}:=by
 rw[bjx]
 exact afa hO hS hw hx hn hsl hT hl hne
end
theorem awv:agi prog 79 3 3:=by
 intro ρ w d x y us vs ty pos af gd h1 h2 e1 e2
 match us,h1,vs,h2 with
 | [u0,u1,u2],_,[v0,v1,v2],_ =>
 simp only[execOp]
 simp[go_sem,e1,e2]
 try rfl
end Sb


namespace Sb
abbrev L7 (f:Nat→Int):List Int:=[f 0,f 1,f 2,f 3,f 4,f 5,f 6]
theorem cam {f g:Nat→Int} (h : ∀ j,j<7→f j=g j):L7 f=L7 g:=by
 simp only[L7,h 0 om,h 1 om,h 2 om,h 3 om,h 4 om,h 5 om,h 6 om]
theorem bsd (f:Nat→Int) {k:Nat} (h:k<7):(L7 f)[k]? = some (f k):=by
 match k,h with
 | 0,_=>rfl
 | 1,_=>rfl
 | 2,_=>rfl
 | 3,_=>rfl
 | 4,_=>rfl
 | 5,_=>rfl
 | 6,_=>rfl
 | k+7,h=>omega
theorem chz (f:Nat→Int) {k:Nat} (h:k<7) (v:Int):(L7 f).set k v=L7 (fun j=>if j=k then v else f j):=by
 match k,h with
 | 0,_=>rfl
 | 1,_=>rfl
 | 2,_=>rfl
 | 3,_=>rfl
 | 4,_=>rfl
 | 5,_=>rfl
 | 6,_=>rfl
 | k+7,h=>omega
def eKL (l:List Int):Kind where
 size:=7
 ok:=fun _ c=>c=l.map (fun n => .int .i64 n)∧l.length=7
 noW:=by
  rintro W c ⟨rfl,_⟩ u hu;obtain⟨n,_,rfl⟩:=Nv.1 hu;exact xc n
 below:=fun _ h=>h
 upto:=fun _ _ _ h=>h
 len:=by rintro W c ⟨rfl,h⟩;rw[Rm,h]
def eK (f:Nat→Int):Kind:=eKL (L7 f)
theorem ckj {f g:Nat→Int} (h : ∀ j,j<7→f j=g j):eK f=eK g:=Ez eKL (cam h)
def Nb (f h:Nat→Int) (k:Nat):Nat→Int:=fun j=>if j<k then h j else f j
theorem aka (f h:Nat→Int):Nb f h 0=f:=by funext j;simp[Nb]
theorem avu (f h:Nat→Int) (k:Nat):Nb f h k k=f k:=if_neg (Nat.lt_irrefl k)
theorem aoz (f h:Nat→Int):eK (Nb f h 7)=eK h:=ckj fun j hj=>if_pos hj
theorem akb (f h:Nat→Int) (k:Nat) : ∀ j,j<7→(if j=k then h k else Nb f h k j)=Nb f h (k+1) j:=fun j _=>by
 unfold Nb
 by_cases e:j=k
 ·
  subst e;rw[if_pos rfl,if_pos (ary j)]
 ·
  rw[if_neg e]
  by_cases e2:j<k
  ·
   rw[if_pos e2,if_pos om]
  ·
   rw[if_neg e2,if_neg om]
theorem gy.e {f:Nat→Int} {ls:List lg} (h:gy W ls cs):gy W (.k (eK f)::ls) (.int .i64 (f 0) :: .int .i64 (f 1) :: .int .i64 (f 2) :: .int .i64 (f 3) :: .int .i64 (f 4) :: .int .i64 (f 5) :: .int .i64 (f 6)::cs):=⟨[_,_,_,_,_,_,_],cs,rfl,⟨rfl,rfl⟩,h⟩
theorem gy.aur {f:Nat→Int} {ls:List lg} (h:gy W (.k (eK f)::ls) cs) : ∃ r,cs = .int .i64 (f 0) :: .int .i64 (f 1) :: .int .i64 (f 2) :: .int .i64 (f 3) :: .int .i64 (f 4) :: .int .i64 (f 5) :: .int .i64 (f 6)::r∧gy W ls r:=by
 obtain⟨c,r,rfl,h1,h⟩:=h
 have h1':c=(L7 f).map (fun n => .int .i64 n):=h1.1
 subst h1'
 exact⟨r,rfl,h⟩
theorem cns {f:Nat→Int} {v:Vq} (h:bz [.k (eK f)] W v):v = .agg #[.int .i64 (f 0),.int .i64 (f 1),.int .i64 (f 2),.int .i64 (f 3),.int .i64 (f 4),.int .i64 (f 5),.int .i64 (f 6)]:=by
 obtain⟨cs,rfl,h⟩:=h
 obtain⟨r0,rfl,k⟩:=h.aur
 clear h
 cases k;rfl
theorem abl {f:Nat→Int} {a b v:Vq} (h:bz [.k (eK f),.v a,.v b] W v):v = .agg #[.int .i64 (f 0),.int .i64 (f 1),.int .i64 (f 2),.int .i64 (f 3),.int .i64 (f 4),.int .i64 (f 5),.int .i64 (f 6),a,b]:=by
 obtain⟨cs,rfl,h⟩:=h
 obtain⟨r0,rfl,k⟩:=h.aur
 clear h
 obtain⟨r1,rfl,_,k1⟩:=k.Jc
 obtain⟨r2,rfl,_,k2⟩:=k1.Jc
 cases k2;rfl
theorem ant {f:Nat→Int} {x:Rat} {v:Vq} (h:bz [.k (eK f),.q x] W v) : ∃ s1 n1 A1 c1 l1 s2 n2 A2 c2 l2,v = .agg #[.int .i64 (f 0),.int .i64 (f 1),.int .i64 (f 2),.int .i64 (f 3),.int .i64 (f 4),.int .i64 (f 5),.int .i64 (f 6),.int .i64 s1,.bool n1,.slice A1 (List.length l1) c1,.int .i64 s2,.bool n2,.slice A2 (List.length l2) c2]∧iy W s1 n1 A1 c1 l1 x.num∧iy W s2 n2 A2 c2 l2 (x.den:Int):=by
 obtain⟨cs,rfl,h⟩:=h
 obtain⟨r0,rfl,k⟩:=h.aur
 clear h
 obtain⟨s1,n1,A1,c1,l1,s2,n2,A2,c2,l2,r,rfl,h1,h2,k1⟩:=k.bzz
 cases k1
 exact⟨_,_,_,_,_,_,_,_,_,_,rfl,h1,h2⟩
theorem awx {f:Nat→Int} {x:Rat} {v:Vq} (h:bz [.k (eK f),.r x] W v) : ∃ A1 c1 l1 m1 A2 c2 l2 m2,v = .agg #[.int .i64 (f 0),.int .i64 (f 1),.int .i64 (f 2),.int .i64 (f 3),.int .i64 (f 4),.int .i64 (f 5),.int .i64 (f 6),.slice A1 (List.length l1) c1,.bool m1,.slice A2 (List.length l2) c2,.bool m2]∧QV W A1 c1 l1 m1 A2 c2 l2 m2 x:=by
 obtain⟨cs,rfl,h⟩:=h
 obtain⟨r0,rfl,k⟩:=h.aur
 clear h
 obtain⟨A1,c1,l1,m1,A2,c2,l2,m2,r,rfl,h1,k1⟩:=k.bay
 cases k1
 exact⟨_,_,_,_,_,_,_,_,rfl,h1⟩
theorem zn.bnq {b:Nat} {T:TypeId} {pre post:List lg} {f:Nat→Int} (h:zn W b T (pre++(.k (eK f)::post))) {k:Nat} (hk:k<7):W.cell? ⟨b,ry pre+k,none⟩=some (.int .i64 (f k)):=by
 obtain⟨cs,h1,h2⟩:=h
 obtain⟨c,cd,rfl,k1,k2⟩:=h2.cut
 obtain⟨c1,r,rfl,h3,k4⟩:=k2
 have h3':c1=(L7 f).map (fun n => .int .i64 n):=h3.1
 have:=adu h1 k (by rw[h3'];simpa using hk)
 rw[← k1.len,this,h3',aad,bsd f hk];rfl
end Sb

namespace Sb
variable {Q:Exit→Act→Wq→Prop} {l:List Oper} {n:Nat} {T:Nat→Wq→Vq→Prop} {G:Wq→Prop} {al:List Nat} {a0:Act} {k d:Nat} {ty:TypeId} {pos:String} {af:Array Edge} {gd:Option (Nat×Bool)}
def z7:Nat→Int:=fun _=>0
abbrev zU:List lg:=[iv 0,iv 0,iv 0,iv 0,iv 0,iv 0,iv 0,iv 0,iv 0]
abbrev zM:List lg:=[iv 0,iv 0,iv 0,iv 0,iv 0,iv 0,iv 0,iv 0,.v (.bool false),.v (.slice none 0 0),iv 0,.v (.bool false),.v (.slice none 0 0)]
abbrev zV:List lg:=[iv 0,iv 0,iv 0,iv 0,iv 0,iv 0,iv 0,.v (.slice none 0 0),.v (.bool false),.v (.slice none 0 0),.v (.bool false)]
def aV (f:Nat→Int):Vq := .agg #[.int .i64 (f 0),.int .i64 (f 1),.int .i64 (f 2),.int .i64 (f 3),.int .i64 (f 4),.int .i64 (f 5),.int .i64 (f 6)]
theorem Mo {f:Nat→Int} {ls:List lg}:gy W (.k (eK f)::ls) cs↔gy W ((L7 f).map iv++ls) cs:=by
 constructor
 ·
  intro h;obtain⟨r,rfl,h1⟩:=h.aur;exact gy.v (xc _) (gy.v (xc _) (gy.v (xc _) (gy.v (xc _) (gy.v (xc _) (gy.v (xc _) (gy.v (xc _) h1))))))
 ·
  intro h;obtain⟨r1,rfl,_,h1⟩:=gy.Jc h;obtain⟨r2,rfl,_,h2⟩:=gy.Jc h1;obtain⟨r3,rfl,_,h3⟩:=gy.Jc h2;obtain⟨r4,rfl,_,h4⟩:=gy.Jc h3;obtain⟨r5,rfl,_,h5⟩:=gy.Jc h4;obtain⟨r6,rfl,_,h6⟩:=gy.Jc h5;obtain⟨r7,rfl,_,h7⟩:=gy.Jc h6;exact gy.e h7
theorem Own.conv {xs ys:List yz} {b:Nat} {T:TypeId} {ls ls':List lg} (h:Own w (xs++(b,T,ls)::ys) W) (hc : ∀ cs,gy W ls cs→gy W ls' cs):Own w (xs++(b,T,ls')::ys) W:=by
 refine⟨h.bel,by have:=h.nd;rw[ajy,Gr]at this ⊢;exact this,fun b' T' l' hm => ?_⟩
 rcases Ku.1 hm with hm|hm
 ·
  exact h.box _ _ _ (ajx _ hm)
 ·
  rcases yx.1 hm with e|hm
  ·
   cases e
   obtain⟨g,cs,h1,h2⟩:=h.box b T ls (Ht _ Ah);exact⟨g,cs,h1,hc cs h2⟩
  ·
   exact h.box _ _ _ (Ht _ (Fw _ hm))
theorem Own.cqr {xs ys:List yz} {b k:Nat} {T:TypeId} {f g:Nat→Int} {post:List lg} {v:Int} (h:Own w (xs++(b,T,.k (eK f)::post)::ys) W) (hk:k<7) (hg : ∀ j,j<7→(if j=k then v else f j)=g j) :
  Own w (xs++(b,T,.k (eK g)::post)::ys) (setM W b k [.int .i64 v]):=by
 have h1:=h.conv (fun cs=>Mo.1)
 have e:L7 g=(L7 f).set k v:=by rw[chz f hk];exact(cam hg).symm
 have hv : ∀ W':Wq,gy W' [iv v] [.int .i64 v]:=fun W'=>gy.v (xc _) rfl
 clear hg
 have hc:k=0∨k=1∨k=2∨k=3∨k=4∨k=5∨k=6:=by omega
 rcases hc with rfl|rfl|rfl|rfl|rfl|rfl|rfl
 ·
  exact(Own.set (pre:=[]) (old:=[iv (f 0)]) (new:=[iv v]) (post:=[iv (f 1),iv (f 2),iv (f 3),iv (f 4),iv (f 5),iv (f 6)]++post) (off:=0) h1 (hv _) rfl rfl).conv (fun cs hc=>Mo.2 (by rw[e];exact hc))
 ·
  exact(Own.set (pre:=[iv (f 0)]) (old:=[iv (f 1)]) (new:=[iv v]) (post:=[iv (f 2),iv (f 3),iv (f 4),iv (f 5),iv (f 6)]++post) (off:=1) h1 (hv _) rfl rfl).conv (fun cs hc=>Mo.2 (by rw[e];exact hc))
 ·
  exact(Own.set (pre:=[iv (f 0),iv (f 1)]) (old:=[iv (f 2)]) (new:=[iv v]) (post:=[iv (f 3),iv (f 4),iv (f 5),iv (f 6)]++post) (off:=2) h1 (hv _) rfl rfl).conv (fun cs hc=>Mo.2 (by rw[e];exact hc))
 ·
  exact(Own.set (pre:=[iv (f 0),iv (f 1),iv (f 2)]) (old:=[iv (f 3)]) (new:=[iv v]) (post:=[iv (f 4),iv (f 5),iv (f 6)]++post) (off:=3) h1 (hv _) rfl rfl).conv (fun cs hc=>Mo.2 (by rw[e];exact hc))
 ·
  exact(Own.set (pre:=[iv (f 0),iv (f 1),iv (f 2),iv (f 3)]) (old:=[iv (f 4)]) (new:=[iv v]) (post:=[iv (f 5),iv (f 6)]++post) (off:=4) h1 (hv _) rfl rfl).conv (fun cs hc=>Mo.2 (by rw[e];exact hc))
 ·
  exact(Own.set (pre:=[iv (f 0),iv (f 1),iv (f 2),iv (f 3),iv (f 4)]) (old:=[iv (f 5)]) (new:=[iv v]) (post:=[iv (f 6)]++post) (off:=5) h1 (hv _) rfl rfl).conv (fun cs hc=>Mo.2 (by rw[e];exact hc))
 ·
  exact(Own.set (pre:=[iv (f 0),iv (f 1),iv (f 2),iv (f 3),iv (f 4),iv (f 5)]) (old:=[iv (f 6)]) (new:=[iv v]) (post:=[]++post) (off:=6) h1 (hv _) rfl rfl).conv (fun cs hc=>Mo.2 (by rw[e];exact hc))
theorem Fe:bbc prog 3:=by
 intro ρ w d x b off u ty pos af gd hc hx
 simp only[execOp,hx]
 simp[go_sem,hc]
theorem Jd {bs:List yz} {k b:Nat} {ls:List lg} {u:Vq}
  (hL:bbc P TL) (hm:(b,TB,ls)∈bs) (hx:cu l n T a0 k x (ax (.pointer (some ⟨b,off,none⟩)))) (pre post:List lg) (hT:T k=ax u) (he:ls=pre++(.v u::post):=by rfl) (ho:ry pre=off:=by rfl) (hal:al.contains k=false:=by rfl) :
  ib P Q l n T (iw w bs V) il al a0 k { dst:=some d,op := .load TL x,type:=ty,pos:=pos,after:=af,guard:=gd}:=cda hL hal hx (fun W h=>he ▸ iw.box hm h) ho hT
theorem aaj {bs:List yz} {b k:Nat} {post:List lg} {f:Nat→Int} {c:Int}
  (hm:(b,TB,.k (eK f)::post)∈bs) (hal:al.contains i=false) (hx:cu l n T a0 i x (ax (.pointer (some ⟨b,k,none⟩)))) (hk:k<7) (hv:f k=c) (hT:T i=ax (.int .i64 c)) :
  ib prog Q l n T (iw w bs V) il al a0 i { dst:=some d,op := .load 3 x,type:=ty,pos:=pos,after:=af,guard:=gd}:=by
 intro a w' hG hO hN
 have h1:=zn.bnq (pre:=[]) (iw.box hm hG) hk
 rw[show ry []+k=k from Bn k,hv]at h1
 exact wvz (Fe a.eval w' (some d) x b k _ ty pos af gd h1 (hx a w' hO hN)) hG hal (by rw[hT];rfl)
theorem cmq {bs:List yz} {b:Nat} {post:List lg} {f:Nat→Int}
  (hL:Ie prog 42 7) (hm:(b,TB,.k (eK f)::post)∈bs) (hal:al.contains i=false) (hx:cu l n T a0 i x (ax (.pointer (some ⟨b,0,none⟩)))) (hT:T i=ax (aV f)) :
  ib prog Q l n T (iw w bs V) il al a0 i { dst:=some d,op := .load 42 x,type:=ty,pos:=pos,after:=af,guard:=gd}:=by
 intro a w' hG hO hN
 have h1:=fun j (hj:j<7)=>zn.bnq (pre:=[]) (k:=j) (iw.box hm hG) hj
 have hr:=hL a.eval w' (some d) x b 0 ((L7 f).map (fun n => .int .i64 n)) ty pos af gd rfl (fun j hj=>by
  have h2:=h1 j hj;rw[show ry []+j=0+j from rfl]at h2;rw[h2,aad,bsd f hj];rfl) (hx a w' hO hN)
 exact wvz hr hG hal (by rw[hT];rfl)
theorem bvq {a:Act} {d:Option Tmp} {b k:Nat} (hk:k<7) (hx:a.eval x = .pointer (some ⟨b,0,none⟩)) (hy:a.eval y = .int .i64 (k:Int)) :
  (execOp a.eval { dst:=d,op := .indexAddr 42 x y,type:=ty,pos:=pos,after:=af,guard:=gd}).run prog w = .ok (.value (.pointer (some ⟨b,k,none⟩))) w:=by
 have hc:k=0∨k=1∨k=2∨k=3∨k=4∨k=5∨k=6:=by omega
 rcases hc with rfl|rfl|rfl|rfl|rfl|rfl|rfl<;>(simp only[execOp,hx,hy];simp[go_sem])
theorem Lx {b:Nat} (hal:al.contains i=false) (hx:cu l n T a0 i x (ax (.pointer (some ⟨b,0,none⟩)))) (hy:cu l n T a0 i y (ax (.int .i64 (k:Int)))) (hk:k<7) (hT:T i=ax (.pointer (some ⟨b,k,none⟩))) :
  ib prog Q l n T G il al a0 i { dst:=some d,op := .indexAddr 42 x y,type:=ty,pos:=pos,after:=af,guard:=gd}:=by
 intro a w hG hO hN
 exact wvz (bvq hk (hx a w hO hN) (hy a w hO hN)) hG hal (by rw[hT];rfl)
theorem cdh {d:Option Tmp} {f:Nat→Int} {k:Nat} (hk:k<7) (hx:ρ x=aV f) (hy:ρ y = .int .i64 (k:Int)) :
  (execOp ρ { dst:=d,op := .index 42 x y,type:=ty,pos:=pos,after:=af,guard:=gd}).run prog w = .ok (.value (.int .i64 (f k))) w:=by
 unfold aV at hx
 have hc:k=0∨k=1∨k=2∨k=3∨k=4∨k=5∨k=6:=by omega
 rcases hc with rfl|rfl|rfl|rfl|rfl|rfl|rfl<;>(simp only[execOp,hx,hy];simp[go_sem,Instr.index])
theorem cmr {f:Nat→Int} (hal:al.contains i=false) (hx:cu l n T a0 i x (ax (aV f))) (hy:cu l n T a0 i y (ax (.int .i64 (k:Int)))) (hk:k<7) (hT:T i=ax (.int .i64 (f k))) :
  ib prog Q l n T G il al a0 i { dst:=some d,op := .index 42 x y,type:=ty,pos:=pos,after:=af,guard:=gd}:=by
 intro a w hG hO hN
 exact wvz (cdh hk (hx a w hO hN) (hy a w hO hN)) hG hal (by rw[hT];rfl)
theorem bvs {d:Option Tmp} {o z c:Int} (hx:ρ x = .int .i64 o) (hy:ρ y = .int .i64 z) (hw:wrap64 (o+z)=c) :
  (execOp ρ { dst:=d,op := .binOp .add 3 x y 3,type:=ty,pos:=pos,after:=af,guard:=gd}).run prog w = .ok (.value (.int .i64 c)) w:=by
 have hw2:IntKind.i64.wrap (o+z)=c:=(bai _).trans hw
 simp only[execOp,hx,hy]
 simp[go_sem,underlying3,hw,hw2]
theorem atm {o z c:Int} (hal:al.contains k=false) (hx:cu l n T a0 k x (ax (.int .i64 o))) (hy:cu l n T a0 k y (ax (.int .i64 z))) (hw:wrap64 (o+z)=c) (hT:T k=ax (.int .i64 c)) :
  ib prog Q l n T G il al a0 k { dst:=some d,op := .binOp .add 3 x y 3,type:=ty,pos:=pos,after:=af,guard:=gd}:=by
 intro a w hG hO hN
 exact wvz (bvs (hx a w hO hN) (hy a w hO hN) hw) hG hal (by rw[hT];rfl)
theorem bvn {d:Option Tmp} {o z c:Int} (hx:ρ x = .int .i64 o) (hy:ρ y = .int .i64 z) (hw:wrap64 (o*z)=c) :
  (execOp ρ { dst:=d,op := .binOp .mul 3 x y 3,type:=ty,pos:=pos,after:=af,guard:=gd}).run prog w = .ok (.value (.int .i64 c)) w:=by
 have hw2:IntKind.i64.wrap (o*z)=c:=(bai _).trans hw
 simp only[execOp,hx,hy]
 simp[go_sem,underlying3,hw,hw2]
theorem akp {o z c:Int} (hal:al.contains k=false) (hx:cu l n T a0 k x (ax (.int .i64 o))) (hy:cu l n T a0 k y (ax (.int .i64 z))) (hw:wrap64 (o*z)=c) (hT:T k=ax (.int .i64 c)) :
  ib prog Q l n T G il al a0 k { dst:=some d,op := .binOp .mul 3 x y 3,type:=ty,pos:=pos,after:=af,guard:=gd}:=by
 intro a w hG hO hN
 exact wvz (bvn (hx a w hO hN) (hy a w hO hN) hw) hG hal (by rw[hT];rfl)
theorem Zc:Ie prog 44 9:=by
 intro ρ w d x b off us ty pos af gd hl hc hx
 match us,hl with
 | [u0,u1,u2,u3,u4,u5,u6,u7,u8],_ =>
 have k0:w.cell? ⟨b,off,none⟩=some u0:=hc 0 om
 have k1:w.cell? ⟨b,off+1,none⟩=some u1:=hc 1 om
 have k2:w.cell? ⟨b,off+2,none⟩=some u2:=hc 2 om
 have k3:w.cell? ⟨b,off+3,none⟩=some u3:=hc 3 om
 have k4:w.cell? ⟨b,off+4,none⟩=some u4:=hc 4 om
 have k5:w.cell? ⟨b,off+5,none⟩=some u5:=hc 5 om
 have k6:w.cell? ⟨b,off+6,none⟩=some u6:=hc 6 om
 have k7:w.cell? ⟨b,off+7,none⟩=some u7:=hc 7 om
 have k8:w.cell? ⟨b,off+8,none⟩=some u8:=hc 8 om
 clear hc
 simp only[execOp,hx]
 simp[go_sem,k0,k1,k2,k3,k4,k5,k6,k7,k8]
theorem vv:Cw prog 44 9:=by
 intro ρ w d p x b off cs TB us ty pos af gd hl hu hb ho hp hx
 match us,hl with
 | [u0,u1,u2,u3,u4,u5,u6,u7,u8],_ =>
 have o0:=hu u0 mi
 have o1:=hu u1 mi
 have o2:=hu u2 mi
 have o3:=hu u3 mi
 have o4:=hu u4 mi
 have o5:=hu u5 mi
 have o6:=hu u6 mi
 have o7:=hu u7 mi
 have o8:=hu u8 mi
 have f0:w.frozen? ⟨b,off,none⟩=false:=ah hb _
 have f1:w.frozen? ⟨b,off+1,none⟩=false:=ah hb _
 have f2:w.frozen? ⟨b,off+2,none⟩=false:=ah hb _
 have f3:w.frozen? ⟨b,off+3,none⟩=false:=ah hb _
 have f4:w.frozen? ⟨b,off+4,none⟩=false:=ah hb _
 have f5:w.frozen? ⟨b,off+5,none⟩=false:=ah hb _
 have f6:w.frozen? ⟨b,off+6,none⟩=false:=ah hb _
 have f7:w.frozen? ⟨b,off+7,none⟩=false:=ah hb _
 have f8:w.frozen? ⟨b,off+8,none⟩=false:=ah hb _
 obtain⟨c0,k0⟩ : ∃ c,w.cell? ⟨b,off,none⟩=some c:=jl hb om
 obtain⟨c1,k1⟩ : ∃ c,w.cell? ⟨b,off+1,none⟩=some c:=jl hb om
 obtain⟨c2,k2⟩ : ∃ c,w.cell? ⟨b,off+2,none⟩=some c:=jl hb om
 obtain⟨c3,k3⟩ : ∃ c,w.cell? ⟨b,off+3,none⟩=some c:=jl hb om
 obtain⟨c4,k4⟩ : ∃ c,w.cell? ⟨b,off+4,none⟩=some c:=jl hb om
 obtain⟨c5,k5⟩ : ∃ c,w.cell? ⟨b,off+5,none⟩=some c:=jl hb om
 obtain⟨c6,k6⟩ : ∃ c,w.cell? ⟨b,off+6,none⟩=some c:=jl hb om
 obtain⟨c7,k7⟩ : ∃ c,w.cell? ⟨b,off+7,none⟩=some c:=jl hb om
 obtain⟨c8,k8⟩ : ∃ c,w.cell? ⟨b,off+8,none⟩=some c:=jl hb om
 have hlt:=lt_of_block hb
 clear hb ho hu
 simp only[execOp,hp,hx,setM]
 simp[go_sem,hlt,run_store _ _ _ _ _ o0,o0,run_store _ _ _ _ _ o1,o1,run_store _ _ _ _ _ o2,o2,run_store _ _ _ _ _ o3,o3,run_store _ _ _ _ _ o4,o4,run_store _ _ _ _ _ o5,o5,run_store _ _ _ _ _ o6,o6,run_store _ _ _ _ _ o7,o7,run_store _ _ _ _ _ o8,o8,k0,k1,k2,k3,k4,k5,k6,k7,k8,f0,f1,f2,f3,f4,f5,f6,f7,f8]
theorem Ng:Np prog 44 [.int .i64 0,.int .i64 0,.int .i64 0,.int .i64 0,.int .i64 0,.int .i64 0,.int .i64 0,.int .i64 0,.int .i64 0]:=by
 intro ρ w d ty pos af gd
 simp only[execOp]
 simp[go_sem]
theorem Bq:Wh prog 44 9:=by
 intro w b off us hl hc
 match us,hl with
 | [u0,u1,u2,u3,u4,u5,u6,u7,u8],_ =>
 have k0:w.cell? ⟨b,off,none⟩=some u0:=hc 0 om
 have k1:w.cell? ⟨b,off+1,none⟩=some u1:=hc 1 om
 have k2:w.cell? ⟨b,off+2,none⟩=some u2:=hc 2 om
 have k3:w.cell? ⟨b,off+3,none⟩=some u3:=hc 3 om
 have k4:w.cell? ⟨b,off+4,none⟩=some u4:=hc 4 om
 have k5:w.cell? ⟨b,off+5,none⟩=some u5:=hc 5 om
 have k6:w.cell? ⟨b,off+6,none⟩=some u6:=hc 6 om
 have k7:w.cell? ⟨b,off+7,none⟩=some u7:=hc 7 om
 have k8:w.cell? ⟨b,off+8,none⟩=some u8:=hc 8 om
 clear hc
 simp[go_sem,k0,k1,k2,k3,k4,k5,k6,k7,k8]
theorem Vk:Ie prog 118 13:=by
 intro ρ w d x b off us ty pos af gd hl hc hx
 match us,hl with
 | [u0,u1,u2,u3,u4,u5,u6,u7,u8,u9,u10,u11,u12],_ =>
 have k0:w.cell? ⟨b,off,none⟩=some u0:=hc 0 om
 have k1:w.cell? ⟨b,off+1,none⟩=some u1:=hc 1 om
 have k2:w.cell? ⟨b,off+2,none⟩=some u2:=hc 2 om
 have k3:w.cell? ⟨b,off+3,none⟩=some u3:=hc 3 om
 have k4:w.cell? ⟨b,off+4,none⟩=some u4:=hc 4 om
 have k5:w.cell? ⟨b,off+5,none⟩=some u5:=hc 5 om
 have k6:w.cell? ⟨b,off+6,none⟩=some u6:=hc 6 om
 have k7:w.cell? ⟨b,off+7,none⟩=some u7:=hc 7 om
 have k8:w.cell? ⟨b,off+8,none⟩=some u8:=hc 8 om
 have k9:w.cell? ⟨b,off+9,none⟩=some u9:=hc 9 om
 have k10:w.cell? ⟨b,off+10,none⟩=some u10:=hc 10 om
 have k11:w.cell? ⟨b,off+11,none⟩=some u11:=hc 11 om
 have k12:w.cell? ⟨b,off+12,none⟩=some u12:=hc 12 om
 clear hc
 simp only[execOp,hx]
 simp[go_sem,k0,k1,k2,k3,k4,k5,k6,k7,k8,k9,k10,k11,k12]
theorem Bc:Cw prog 118 13:=by
 intro ρ w d p x b off cs TB us ty pos af gd hl hu hb ho hp hx
 match us,hl with
 | [u0,u1,u2,u3,u4,u5,u6,u7,u8,u9,u10,u11,u12],_ =>
 have o0:=hu u0 mi
 have o1:=hu u1 mi
 have o2:=hu u2 mi
 have o3:=hu u3 mi
 have o4:=hu u4 mi
 have o5:=hu u5 mi
 have o6:=hu u6 mi
 have o7:=hu u7 mi
 have o8:=hu u8 mi
 have o9:=hu u9 mi
 have o10:=hu u10 mi
 have o11:=hu u11 mi
 have o12:=hu u12 mi
 have f0:w.frozen? ⟨b,off,none⟩=false:=ah hb _
 have f1:w.frozen? ⟨b,off+1,none⟩=false:=ah hb _
 have f2:w.frozen? ⟨b,off+2,none⟩=false:=ah hb _
 have f3:w.frozen? ⟨b,off+3,none⟩=false:=ah hb _
 have f4:w.frozen? ⟨b,off+4,none⟩=false:=ah hb _
 have f5:w.frozen? ⟨b,off+5,none⟩=false:=ah hb _
 have f6:w.frozen? ⟨b,off+6,none⟩=false:=ah hb _
 have f7:w.frozen? ⟨b,off+7,none⟩=false:=ah hb _
 have f8:w.frozen? ⟨b,off+8,none⟩=false:=ah hb _
 have f9:w.frozen? ⟨b,off+9,none⟩=false:=ah hb _
 have f10:w.frozen? ⟨b,off+10,none⟩=false:=ah hb _
 have f11:w.frozen? ⟨b,off+11,none⟩=false:=ah hb _
 have f12:w.frozen? ⟨b,off+12,none⟩=false:=ah hb _
 obtain⟨c0,k0⟩ : ∃ c,w.cell? ⟨b,off,none⟩=some c:=jl hb om
 obtain⟨c1,k1⟩ : ∃ c,w.cell? ⟨b,off+1,none⟩=some c:=jl hb om
 obtain⟨c2,k2⟩ : ∃ c,w.cell? ⟨b,off+2,none⟩=some c:=jl hb om
 obtain⟨c3,k3⟩ : ∃ c,w.cell? ⟨b,off+3,none⟩=some c:=jl hb om
 obtain⟨c4,k4⟩ : ∃ c,w.cell? ⟨b,off+4,none⟩=some c:=jl hb om
 obtain⟨c5,k5⟩ : ∃ c,w.cell? ⟨b,off+5,none⟩=some c:=jl hb om
 obtain⟨c6,k6⟩ : ∃ c,w.cell? ⟨b,off+6,none⟩=some c:=jl hb om
 obtain⟨c7,k7⟩ : ∃ c,w.cell? ⟨b,off+7,none⟩=some c:=jl hb om
 obtain⟨c8,k8⟩ : ∃ c,w.cell? ⟨b,off+8,none⟩=some c:=jl hb om
 obtain⟨c9,k9⟩ : ∃ c,w.cell? ⟨b,off+9,none⟩=some c:=jl hb om
 obtain⟨c10,k10⟩ : ∃ c,w.cell? ⟨b,off+10,none⟩=some c:=jl hb om
 obtain⟨c11,k11⟩ : ∃ c,w.cell? ⟨b,off+11,none⟩=some c:=jl hb om
 obtain⟨c12,k12⟩ : ∃ c,w.cell? ⟨b,off+12,none⟩=some c:=jl hb om
 have hlt:=lt_of_block hb
 clear hb ho hu
 simp only[execOp,hp,hx,setM]
 simp[go_sem,hlt,run_store _ _ _ _ _ o0,o0,run_store _ _ _ _ _ o1,o1,run_store _ _ _ _ _ o2,o2,run_store _ _ _ _ _ o3,o3,run_store _ _ _ _ _ o4,o4,run_store _ _ _ _ _ o5,o5,run_store _ _ _ _ _ o6,o6,run_store _ _ _ _ _ o7,o7,run_store _ _ _ _ _ o8,o8,run_store _ _ _ _ _ o9,o9,run_store _ _ _ _ _ o10,o10,run_store _ _ _ _ _ o11,o11,run_store _ _ _ _ _ o12,o12,k0,k1,k2,k3,k4,k5,k6,k7,k8,k9,k10,k11,k12,f0,f1,f2,f3,f4,f5,f6,f7,f8,f9,f10,f11,f12]
theorem Xv:Np prog 118 [.int .i64 0,.int .i64 0,.int .i64 0,.int .i64 0,.int .i64 0,.int .i64 0,.int .i64 0,.int .i64 0,.bool false,.slice none 0 0,.int .i64 0,.bool false,.slice none 0 0]:=by
 intro ρ w d ty pos af gd
 simp only[execOp]
 simp[go_sem]
theorem Km:Wh prog 118 13:=by
 intro w b off us hl hc
 match us,hl with
 | [u0,u1,u2,u3,u4,u5,u6,u7,u8,u9,u10,u11,u12],_ =>
 have k0:w.cell? ⟨b,off,none⟩=some u0:=hc 0 om
 have k1:w.cell? ⟨b,off+1,none⟩=some u1:=hc 1 om
 have k2:w.cell? ⟨b,off+2,none⟩=some u2:=hc 2 om
 have k3:w.cell? ⟨b,off+3,none⟩=some u3:=hc 3 om
 have k4:w.cell? ⟨b,off+4,none⟩=some u4:=hc 4 om
 have k5:w.cell? ⟨b,off+5,none⟩=some u5:=hc 5 om
 have k6:w.cell? ⟨b,off+6,none⟩=some u6:=hc 6 om
 have k7:w.cell? ⟨b,off+7,none⟩=some u7:=hc 7 om
 have k8:w.cell? ⟨b,off+8,none⟩=some u8:=hc 8 om
 have k9:w.cell? ⟨b,off+9,none⟩=some u9:=hc 9 om
 have k10:w.cell? ⟨b,off+10,none⟩=some u10:=hc 10 om
 have k11:w.cell? ⟨b,off+11,none⟩=some u11:=hc 11 om
 have k12:w.cell? ⟨b,off+12,none⟩=some u12:=hc 12 om
 clear hc
 simp[go_sem,k0,k1,k2,k3,k4,k5,k6,k7,k8,k9,k10,k11,k12]
theorem Zb:Ie prog 113 11:=by
 intro ρ w d x b off us ty pos af gd hl hc hx
 match us,hl with
 | [u0,u1,u2,u3,u4,u5,u6,u7,u8,u9,u10],_ =>
 have k0:w.cell? ⟨b,off,none⟩=some u0:=hc 0 om
 have k1:w.cell? ⟨b,off+1,none⟩=some u1:=hc 1 om
 have k2:w.cell? ⟨b,off+2,none⟩=some u2:=hc 2 om
 have k3:w.cell? ⟨b,off+3,none⟩=some u3:=hc 3 om
 have k4:w.cell? ⟨b,off+4,none⟩=some u4:=hc 4 om
 have k5:w.cell? ⟨b,off+5,none⟩=some u5:=hc 5 om
 have k6:w.cell? ⟨b,off+6,none⟩=some u6:=hc 6 om
 have k7:w.cell? ⟨b,off+7,none⟩=some u7:=hc 7 om
 have k8:w.cell? ⟨b,off+8,none⟩=some u8:=hc 8 om
 have k9:w.cell? ⟨b,off+9,none⟩=some u9:=hc 9 om
 have k10:w.cell? ⟨b,off+10,none⟩=some u10:=hc 10 om
 clear hc
 simp only[execOp,hx]
 simp[go_sem,k0,k1,k2,k3,k4,k5,k6,k7,k8,k9,k10]
theorem Aw:Cw prog 113 11:=by
 intro ρ w d p x b off cs TB us ty pos af gd hl hu hb ho hp hx
 match us,hl with
 | [u0,u1,u2,u3,u4,u5,u6,u7,u8,u9,u10],_ =>
 have o0:=hu u0 mi
 have o1:=hu u1 mi
 have o2:=hu u2 mi
 have o3:=hu u3 mi
 have o4:=hu u4 mi
 have o5:=hu u5 mi
 have o6:=hu u6 mi
 have o7:=hu u7 mi
 have o8:=hu u8 mi
 have o9:=hu u9 mi
 have o10:=hu u10 mi
 have f0:w.frozen? ⟨b,off,none⟩=false:=ah hb _
 have f1:w.frozen? ⟨b,off+1,none⟩=false:=ah hb _
 have f2:w.frozen? ⟨b,off+2,none⟩=false:=ah hb _
 have f3:w.frozen? ⟨b,off+3,none⟩=false:=ah hb _
 have f4:w.frozen? ⟨b,off+4,none⟩=false:=ah hb _
 have f5:w.frozen? ⟨b,off+5,none⟩=false:=ah hb _
 have f6:w.frozen? ⟨b,off+6,none⟩=false:=ah hb _
 have f7:w.frozen? ⟨b,off+7,none⟩=false:=ah hb _
 have f8:w.frozen? ⟨b,off+8,none⟩=false:=ah hb _
 have f9:w.frozen? ⟨b,off+9,none⟩=false:=ah hb _
 have f10:w.frozen? ⟨b,off+10,none⟩=false:=ah hb _
 obtain⟨c0,k0⟩ : ∃ c,w.cell? ⟨b,off,none⟩=some c:=jl hb om
 obtain⟨c1,k1⟩ : ∃ c,w.cell? ⟨b,off+1,none⟩=some c:=jl hb om
 obtain⟨c2,k2⟩ : ∃ c,w.cell? ⟨b,off+2,none⟩=some c:=jl hb om
 obtain⟨c3,k3⟩ : ∃ c,w.cell? ⟨b,off+3,none⟩=some c:=jl hb om
 obtain⟨c4,k4⟩ : ∃ c,w.cell? ⟨b,off+4,none⟩=some c:=jl hb om
 obtain⟨c5,k5⟩ : ∃ c,w.cell? ⟨b,off+5,none⟩=some c:=jl hb om
 obtain⟨c6,k6⟩ : ∃ c,w.cell? ⟨b,off+6,none⟩=some c:=jl hb om
 obtain⟨c7,k7⟩ : ∃ c,w.cell? ⟨b,off+7,none⟩=some c:=jl hb om
 obtain⟨c8,k8⟩ : ∃ c,w.cell? ⟨b,off+8,none⟩=some c:=jl hb om
 obtain⟨c9,k9⟩ : ∃ c,w.cell? ⟨b,off+9,none⟩=some c:=jl hb om
 obtain⟨c10,k10⟩ : ∃ c,w.cell? ⟨b,off+10,none⟩=some c:=jl hb om
 have hlt:=lt_of_block hb
 clear hb ho hu
 simp only[execOp,hp,hx,setM]
 simp[go_sem,hlt,run_store _ _ _ _ _ o0,o0,run_store _ _ _ _ _ o1,o1,run_store _ _ _ _ _ o2,o2,run_store _ _ _ _ _ o3,o3,run_store _ _ _ _ _ o4,o4,run_store _ _ _ _ _ o5,o5,run_store _ _ _ _ _ o6,o6,run_store _ _ _ _ _ o7,o7,run_store _ _ _ _ _ o8,o8,run_store _ _ _ _ _ o9,o9,run_store _ _ _ _ _ o10,o10,k0,k1,k2,k3,k4,k5,k6,k7,k8,k9,k10,f0,f1,f2,f3,f4,f5,f6,f7,f8,f9,f10]
theorem Xu:Np prog 113 [.int .i64 0,.int .i64 0,.int .i64 0,.int .i64 0,.int .i64 0,.int .i64 0,.int .i64 0,.slice none 0 0,.bool false,.slice none 0 0,.bool false]:=by
 intro ρ w d ty pos af gd
 simp only[execOp]
 simp[go_sem]
theorem Ik:Wh prog 113 11:=by
 intro w b off us hl hc
 match us,hl with
 | [u0,u1,u2,u3,u4,u5,u6,u7,u8,u9,u10],_ =>
 have k0:w.cell? ⟨b,off,none⟩=some u0:=hc 0 om
 have k1:w.cell? ⟨b,off+1,none⟩=some u1:=hc 1 om
 have k2:w.cell? ⟨b,off+2,none⟩=some u2:=hc 2 om
 have k3:w.cell? ⟨b,off+3,none⟩=some u3:=hc 3 om
 have k4:w.cell? ⟨b,off+4,none⟩=some u4:=hc 4 om
 have k5:w.cell? ⟨b,off+5,none⟩=some u5:=hc 5 om
 have k6:w.cell? ⟨b,off+6,none⟩=some u6:=hc 6 om
 have k7:w.cell? ⟨b,off+7,none⟩=some u7:=hc 7 om
 have k8:w.cell? ⟨b,off+8,none⟩=some u8:=hc 8 om
 have k9:w.cell? ⟨b,off+9,none⟩=some u9:=hc 9 om
 have k10:w.cell? ⟨b,off+10,none⟩=some u10:=hc 10 om
 clear hc
 simp[go_sem,k0,k1,k2,k3,k4,k5,k6,k7,k8,k9,k10]
theorem Vl:Ie prog 42 7:=by
 intro ρ w d x b off us ty pos af gd hl hc hx
 match us,hl with
 | [u0,u1,u2,u3,u4,u5,u6],_ =>
 have k0:w.cell? ⟨b,off,none⟩=some u0:=hc 0 om
 have k1:w.cell? ⟨b,off+1,none⟩=some u1:=hc 1 om
 have k2:w.cell? ⟨b,off+2,none⟩=some u2:=hc 2 om
 have k3:w.cell? ⟨b,off+3,none⟩=some u3:=hc 3 om
 have k4:w.cell? ⟨b,off+4,none⟩=some u4:=hc 4 om
 have k5:w.cell? ⟨b,off+5,none⟩=some u5:=hc 5 om
 have k6:w.cell? ⟨b,off+6,none⟩=some u6:=hc 6 om
 clear hc
 simp only[execOp,hx]
 simp[go_sem,k0,k1,k2,k3,k4,k5,k6]
theorem byq:avr prog 44 [.int .i64 0,.int .i64 0,.int .i64 0,.int .i64 0,.int .i64 0,.int .i64 0,.int .i64 0,.int .i64 0,.int .i64 0]:=by
 intro ρ w d ty pos af gd
 simp only[execOp]
 simp[go_sem]
 try rfl
theorem afs:agi prog 44 7 2:=by
 intro ρ w d x y us vs ty pos af gd h1 h2 e1 e2
 match us,h1,vs,h2 with
 | [u0,u1,u2,u3,u4,u5,u6],_,[v0,v1],_ =>
 simp only[execOp]
 simp[go_sem,e1,e2]
 try rfl
theorem cey:agi prog 118 7 6:=by
 intro ρ w d x y us vs ty pos af gd h1 h2 e1 e2
 match us,h1,vs,h2 with
 | [u0,u1,u2,u3,u4,u5,u6],_,[v0,v1,v2,v3,v4,v5],_ =>
 simp only[execOp]
 simp[go_sem,e1,e2]
 try rfl
theorem cex:agi prog 113 7 4:=by
 intro ρ w d x y us vs ty pos af gd h1 h2 e1 e2
 match us,h1,vs,h2 with
 | [u0,u1,u2,u3,u4,u5,u6],_,[v0,v1,v2,v3],_ =>
 simp only[execOp]
 simp[go_sem,e1,e2]
 try rfl
theorem cff:Ee prog (fun x => .fieldAddr 44 x 0) 0:=by
 intro a w d x b off ty pos af gd hx
 have hc : ∀ v,a.eval (.const v)=v:=fun _=>rfl
 simp only[execOp,hx,hc]
 simp[go_sem]
theorem Uf {b:Nat} (hal:al.contains k=false) (hx:cu l n T a0 k x (ax (.pointer (some ⟨b,off,none⟩)))) (ho:off+0=off') (hT:T k=ax (.pointer (some ⟨b,off',none⟩))) :
  ib prog Q l n T G il al a0 k { dst:=some d,op := .fieldAddr 44 x 0,type:=ty,pos:=pos,after:=af,guard:=gd}:=by
 exact Em (P:=prog) (o:=fun x => .fieldAddr 44 x 0) cff hal hx ho hT
theorem cfe:Ee prog (fun x => .fieldAddr 44 x 1) 7:=by
 intro a w d x b off ty pos af gd hx
 have hc : ∀ v,a.eval (.const v)=v:=fun _=>rfl
 simp only[execOp,hx,hc]
 simp[go_sem]
theorem Ue {b:Nat} (hal:al.contains k=false) (hx:cu l n T a0 k x (ax (.pointer (some ⟨b,off,none⟩)))) (ho:off+7=off') (hT:T k=ax (.pointer (some ⟨b,off',none⟩))) :
  ib prog Q l n T G il al a0 k { dst:=some d,op := .fieldAddr 44 x 1,type:=ty,pos:=pos,after:=af,guard:=gd}:=by
 exact Em (P:=prog) (o:=fun x => .fieldAddr 44 x 1) cfe hal hx ho hT
theorem cfs:Ee prog (fun x => .fieldAddr 118 x 0) 0:=by
 intro a w d x b off ty pos af gd hx
 have hc : ∀ v,a.eval (.const v)=v:=fun _=>rfl
 simp only[execOp,hx,hc]
 simp[go_sem]
theorem Kz {b:Nat} (hal:al.contains k=false) (hx:cu l n T a0 k x (ax (.pointer (some ⟨b,off,none⟩)))) (ho:off+0=off') (hT:T k=ax (.pointer (some ⟨b,off',none⟩))) :
  ib prog Q l n T G il al a0 k { dst:=some d,op := .fieldAddr 118 x 0,type:=ty,pos:=pos,after:=af,guard:=gd}:=by
 exact Em (P:=prog) (o:=fun x => .fieldAddr 118 x 0) cfs hal hx ho hT
theorem cfr:Ee prog (fun x => .fieldAddr 118 x 1) 7:=by
 intro a w d x b off ty pos af gd hx
 have hc : ∀ v,a.eval (.const v)=v:=fun _=>rfl
 simp only[execOp,hx,hc]
 simp[go_sem]
theorem Py {b:Nat} (hal:al.contains k=false) (hx:cu l n T a0 k x (ax (.pointer (some ⟨b,off,none⟩)))) (ho:off+7=off') (hT:T k=ax (.pointer (some ⟨b,off',none⟩))) :
  ib prog Q l n T G il al a0 k { dst:=some d,op := .fieldAddr 118 x 1,type:=ty,pos:=pos,after:=af,guard:=gd}:=by
 exact Em (P:=prog) (o:=fun x => .fieldAddr 118 x 1) cfr hal hx ho hT
theorem cfd:Ee prog (fun x => .fieldAddr 113 x 0) 0:=by
 intro a w d x b off ty pos af gd hx
 have hc : ∀ v,a.eval (.const v)=v:=fun _=>rfl
 simp only[execOp,hx,hc]
 simp[go_sem]
theorem Pw {b:Nat} (hal:al.contains k=false) (hx:cu l n T a0 k x (ax (.pointer (some ⟨b,off,none⟩)))) (ho:off+0=off') (hT:T k=ax (.pointer (some ⟨b,off',none⟩))) :
  ib prog Q l n T G il al a0 k { dst:=some d,op := .fieldAddr 113 x 0,type:=ty,pos:=pos,after:=af,guard:=gd}:=by
 exact Em (P:=prog) (o:=fun x => .fieldAddr 113 x 0) cfd hal hx ho hT
theorem cfc:Ee prog (fun x => .fieldAddr 113 x 1) 7:=by
 intro a w d x b off ty pos af gd hx
 have hc : ∀ v,a.eval (.const v)=v:=fun _=>rfl
 simp only[execOp,hx,hc]
 simp[go_sem]
theorem Ky {b:Nat} (hal:al.contains k=false) (hx:cu l n T a0 k x (ax (.pointer (some ⟨b,off,none⟩)))) (ho:off+7=off') (hT:T k=ax (.pointer (some ⟨b,off',none⟩))) :
  ib prog Q l n T G il al a0 k { dst:=some d,op := .fieldAddr 113 x 1,type:=ty,pos:=pos,after:=af,guard:=gd}:=by
 exact Em (P:=prog) (o:=fun x => .fieldAddr 113 x 1) cfc hal hx ho hT
theorem anj {d:Option Tmp} {b:Nat} {v:Int} (hb:w.heap[b]? = some (.cells cs.toArray TB (0,0))) (ho:off<cs.length) (hp:ρ p = .pointer (some ⟨b,off,none⟩)) (hx:ρ x = .int .i64 v) :
  (execOp ρ { dst:=d,op := .store 3 p x,type:=ty,pos:=pos,after:=af,guard:=gd}).run prog w = .ok .skip (setM w b off [.int .i64 v]):=by
 have f0:w.frozen? ⟨b,off,none⟩=false:=ah hb _
 obtain⟨c0,k0⟩ : ∃ c,w.cell? ⟨b,off,none⟩=some c:=jl hb ho
 have hlt:=lt_of_block hb
 clear hb ho
 simp only[execOp,hp,hx,setM]
 simp[go_sem,hlt,k0,f0]
theorem asy {a:Act} {b k:Nat} {f g:Nat→Int} {v:Int} {bs:List yz} (hO:Own w0 bs w) (i:Nat) (post:List lg)
  (hi:bs[i]? = some (b,TB,.k (eK f)::post)) (hk:k<7) (hp:a.eval p = .pointer (some ⟨b,k,none⟩)) (hv:a.eval x = .int .i64 v) (hg : ∀ j,j<7→(if j=k then v else f j)=g j)
  (hk2 : ∀ w',Own w0 (bs.set i (b,TB,.k (eK g)::post)) w'→(∀ ks u,bz ks w u→bz ks w' u)→wpList prog ops Q rest a w') :
  wpList prog ops Q ({ dst:=none,op := .store 3 p x,type:=ty,pos:=pos,after:=af,guard:=none}::rest) a w:=by
 obtain⟨hlt,he⟩:=agj.1 hi
 have hbs:bs=bs.take i++(b,TB,.k (eK f)::post)::bs.drop (i+1):=by
  rw[← he,← Si hlt,Lu]
 have hset:bs.set i (b,TB,.k (eK g)::post)=bs.take i++(b,TB,.k (eK g)::post)::bs.drop (i+1):=aey .. |>.trans (if_pos hlt)
 rw[hset]at hk2
 rw[hbs]at hO
 have hbx:=hO.box b TB _ (Ht _ Ah)
 obtain⟨hge,cs,hb,hls⟩:=hbx
 have hlen:7≤cs.length:=by
  have h1:=hls.len;rw[h1];show 7≤7+ry post;omega
 unfold wpList
 rw[if_pos (by simp[Region.wanted])]
 refine .inl ?_
 unfold Oper.wp
 rw[anj hb om hp hv]
 exact hk2 _ (hO.cqr hk hg) (fun ks u h=>abk ⟨cs,hb,hls⟩ h)
theorem Pv (hal:al.contains k=false) (hT:T k=bz [.k (eK z7),.v (.int .i64 0),.v (.int .i64 0)]) :
  ib prog Q l n T G il al a0 k { dst:=some d,op := .build 44 #[],type:=ty,pos:=pos,after:=af,guard:=gd}:=by
 intro a w hG hO hN
 exact wvz (byq a.eval w (some d) ty pos af gd) hG hal (by rw[hT];exact⟨_,rfl,gy.e (f:=z7) (gy.v (xc _) (gy.v (xc _) rfl))⟩)
theorem bqf {b:Nat} (hal:al.contains k=false) (hx:cu l n T a0 k x (ax (.slice (some ⟨b,0,none⟩) m m))) (hy:cu l n T a0 k y (ax (.int .i64 (i:Int)))) (hi:i<m) (hT:T k=ax (.pointer (some ⟨b,1*i,none⟩))) :
  ib prog Q l n T G il al a0 k { dst:=some d,op := .indexAddr 37 x y,type:=ty,pos:=pos,after:=af,guard:=gd}:=by
 intro a w hG hO hN
 have h1:=hx a w hO hN
 have h2:=hy a w hO hN
 have hr:(execOp a.eval { dst:=some d,op := .indexAddr 37 x y,type:=ty,pos:=pos,after:=af,guard:=gd}).run prog w = .ok (.value (.pointer (some ⟨b,1*i,none⟩))) w:=by
  have h1':a.eval x = .slice (some ⟨b,0,none⟩) m m:=h1;have h2':a.eval y = .int .i64 (i:Int):=h2;simp only[execOp,h1',h2'];simp[go_sem,hi,og]
 exact wvz hr hG hal (by rw[hT];rfl)
theorem bco {fn:Func} {f x1:Operand} {A1:Wq→Vq→Prop}
  (hF : P.funcs[F]? = some fn) (hn : (!(fn.name == "runtime.NumGoroutine") && fn.body.isSome) = true) (hal : al.contains k = false) (Qe : ∀ W W', G W → il W W' → G W') (hf : cu l n T a0 k f (ax (.func (.func F) #[] #[]))) (h1 : cu l n T a0 k x1 A1)
  (hc : ∀ (W:Wq) (v1:Vq),G W→A1 W v1→Calls P F #[v1] W fun e w' => ∃ u,e = .returned u∧il W w'∧T k w' u) :
  ib P Q l n T G il al a0 k { dst:=some d,op := .call { callee := .value f,args:=#[x1],argTypes:=ats},type:=ty,pos:=pos,after:=af,guard:=gd}:=by
 intro a w hG hO hN
 refine Wv (bqq (Oo hF hn) (hf a w hO hN)) ?_
 simp only[Rk,Gr,Rl]
 refine(hc w (a.eval x1) hG (h1 a w hO hN)).mono ?_
 rintro e w' ⟨u,rfl,hb,ht⟩
 exact⟨u,rfl,u,rfl,Qe _ _ hG hb,hb,ht,fun h=>by rw[hal]at h;cases h⟩
theorem bzw {post:List lg} {f:Nat→Int} {b:Nat}
  (hb : ∀ W,G W→zn W b TB (.k (eK f)::post)) (hal:al.contains i=false) (hx:cu l n T a0 i x (ax (.pointer (some ⟨b,k,none⟩)))) (hk:k<7) (hT:T i=ax (.int .i64 (f k))) :
  ib prog Q l n T G il al a0 i { dst:=some d,op := .load 3 x,type:=ty,pos:=pos,after:=af,guard:=gd}:=by
 intro a w' hG hO hN
 have h1:=zn.bnq (pre:=[]) (hb w' hG) hk
 rw[show ry []+k=k from Bn k]at h1
 exact wvz (Fe a.eval w' (some d) x b k _ ty pos af gd h1 (hx a w' hO hN)) hG hal (by rw[hT];rfl)
theorem bvg {b:Nat} {post:List lg} {f:Nat→Int} (hb : ∀ W,G W→zn W b TB (.k (eK f)::post)) (hal:al.contains k=false) (hx:cu l n T a0 k x (ax (.pointer (some ⟨b,0,none⟩)))) (hT:T k=ax (.slice (some ⟨b,0,none⟩) 7 7)) :
  ib prog Q l n T G il al a0 k { dst:=some d,op := .slice 42 x none none none,type:=ty,pos:=pos,after:=af,guard:=gd}:=by
 intro a w' hG hO hN
 have hr:(execOp a.eval { dst:=some d,op := .slice 42 x none none none,type:=ty,pos:=pos,after:=af,guard:=gd}).run prog w' = .ok (.value (.slice (some ⟨b,0,none⟩) 7 7)) w':=by
  have hx':a.eval x = .pointer (some ⟨b,0,none⟩):=hx a w' hO hN;simp only[execOp,hx'];simp[go_sem,Instr.sliceAt,Instr.sliceBounds]
 exact wvz hr hG hal (by rw[hT];rfl)
end Sb

end Go.Proofs.YtfgeaakhlcaibaaGreatDoor
