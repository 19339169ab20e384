/- Texts beneath a law of layer 1. -/
import Derived.Test.YtfgeaakhlcaibaaGreatDoorDc8
import Derived.Laws.Concat
import Derived.Shelf.Strings.SplitCore
import Derived.Lib.SplitLaws
import Derived.OwnWalk
import Derived.Lib.ItoaNum
import Derived.Lib.Join
import Derived.Lib.AppendIntMem
set_option maxRecDepth 100000
set_option maxHeartbeats 16000000
namespace Go.Proofs.YtfgeaakhlcaibaaGreatDoor
open Go.RowKit
open Go.Proofs.Tryz
open Go renaming World → Wq
open Go renaming Value → Vq
variable {w W w' W' w0:Wq} {p q:Int} {x y:Operand} {s nm:ByteArray} {b k base n i off g m r c d off' u F:Nat} {v:Vq} {ty TL TB:TypeId} {pos:String} {af:Array Edge} {f f':Nat→Int} {gd:Option (Nat×Bool)} {Q:Exit→Act→Wq→Prop} {L:List (ByteArray×Vq)} {l rest:List Oper} {T:Nat→Wq→Vq→Prop} {G:Wq→Prop} {al:List Nat} {a0 a:Act} {ao:Option Addr} {fs:List (ByteArray×Int)} {ρ:Operand→Vq} {P:Program} {ops:Array Oper} {vs:Array Vq} {ls:List UInt8}

def cld (w:Wq) (l:List UInt8) (e:Ending) (w':Wq):Prop :=
 (ou l=none∧e = .returned (.tuple #[(Value.agg #[.int .i64 0,.bool false,.slice none 0 0,.int .i64 0,.bool false,.slice none 0 0]),.bool false])∧Below w.heap.size w w') ∨
 ∃ q s1 ek A1 c1 l1 s2 di A2 c2 l2,ou l=some q∧e = .returned (.tuple #[(Value.agg #[.int .i64 s1,.bool ek,.slice A1 (List.length l1) c1,.int .i64 s2,.bool di,.slice A2 (List.length l2) c2]),.bool true])∧iy w' s1 ek A1 c1 l1 q.num∧iy w' s2 di A2 c2 l2 (q.den:Int)∧Below w.heap.size w w'
theorem bfn (a b:ByteArray):(a++b).data.toList=a.data.toList++b.data.toList:=by
 rw[ByteArray.data_append,Array.toList_append]
theorem bcf (a b:ByteArray):(a++b).size=a.size+b.size:=by
 rw[← oq,bfn,Bj,oq,oq]
theorem Tq {b:Bool} (h : ¬ b=true):b=false:=by cases b with
 | true=>exact absurd rfl h
 | false=>rfl
theorem sz3 {l:List UInt8} (h:l.all mf=true) (hl:l.length≤40):je eu 3 ((ll l:Nat):Int) :=
 bbu (zh (Lf l h) (Ho om hl))
theorem bbv (h:n≤12):je eu 3 ((10^n:Nat):Int) :=
 bbu (Dm (Ho om h) de)
theorem bjt {a b:List UInt8} (h1:a.all mf=true) (h2:b.all mf=true):(a++b).all mf=true:=by
 rw[amt,h1,h2];rfl

theorem bcw (s:ByteArray) (w:Wq) (hT:yg w) (hs:s.size≤9223372036854775806) :
  Calls prog 86 #[.string s] w fun e w'=>cld w s.data.toList e w':=by
 have HT:=ae hT
 have Fj:=ae (fun W=>Yn s ⟨#[47]⟩ 47 rfl W hs)
 have Wt:=ae (fun W=>Yn s ⟨#[46]⟩ 46 rfl W hs)
 have Cn:=ae hs
 clear hT hs
 go_enter func86,ntmps86
 go_upto_region 1 with fail
 obtain⟨nr,hsz,hw0⟩:=Ii w (.cells #[.int .i64 0,.bool false,.slice none 0 0,.int .i64 0,.bool false,.slice none 0 0] 79)
 generalize w.alloc (.cells #[.int .i64 0,.bool false,.slice none 0 0,.int .i64 0,.bool false,.slice none 0 0] 79)=W0 at *
 have NR:=ae nr
 have HB:=bg hw0
 clear hsz hw0 nr
 go_wp2_with fail
 refine((aa Fj) _).mono ?_
 rintro e W1 ⟨a,b,f,rfl,hb,hcase⟩
 replace NR:=ae ((hb.block _ (lt_of_block (aa NR))).trans (aa NR))
 replace HB:=bg (az HB.out hb)
 clear hb
 rcases hcase with⟨rfl,hl,hn⟩|⟨rfl,_,_,hn⟩
 ·
  have hlen:s.size=a.size+1+b.size:=by rw[← oq,hl,Bj,Db,oq,oq];omega
  have Qq:=ae (fun W=>Sk a W (by have:=aa Cn;omega));have Qp:=ae (fun W=>Sk b W (by have:=aa Cn;omega));clear hlen Wt
  by_cases na:uf a.data.toList=true
  ·
   by_cases nb:uf b.data.toList=true
   ·
    by_cases hz:b.data.toList=[48]
    ·
     have HN:=bg (show ou s.data.toList=none by rw[Iu hl hn,na,nb,hz];rfl);rw[na]at Qq;rw[nb]at Qp;have e1:(b.toList==[48])=true:=by rw[agl,hz];rfl
     clear na nb hz hl hn Fj;have r0:W1.cell? ⟨w.heap.size,0,none⟩=some (.int .i64 0):=ag (aa NR) 0;have Jn:=ah (aa NR) 0;have r1:W1.cell? ⟨w.heap.size,1,none⟩=some (.bool false):=ag (aa NR) 1;have Jm:=ah (aa NR) 1;have r2:W1.cell? ⟨w.heap.size,2,none⟩=some (.slice none 0 0):=ag (aa NR) 2;have Ll:=ah (aa NR) 2;have r3:W1.cell? ⟨w.heap.size,3,none⟩=some (.int .i64 0):=ag (aa NR) 3;have Ms:=ah (aa NR) 3;have r4:W1.cell? ⟨w.heap.size,4,none⟩=some (.bool false):=ag (aa NR) 4;have fr4:=ah (aa NR) 4;have r5:W1.cell? ⟨w.heap.size,5,none⟩=some (.slice none 0 0):=ag (aa NR) 5;have fr5:=ah (aa NR) 5;have qr:=lt_of_block (aa NR)
     go_wp2_with (first|(go_at_call_of 156 (Value.string a);refine((aa Qq) _).mono ?_;rintro e w' ⟨rfl,rfl⟩)|(go_at_call_of 156 (Value.string b);refine((aa Qp) _).mono ?_;rintro e w' ⟨rfl,rfl⟩))
     exact bodyPost_ret (v := .tuple #[(Value.agg #[.int .i64 0,.bool false,.slice none 0 0,.int .i64 0,.bool false,.slice none 0 0]),.bool false]) (by simp[results,results86,go_sem,r0,r1,r2,r3,r4,r5,qr]) rfl
      (.inl ⟨HN.out,rfl,HB.out.grown (qg _ _ _ _ _ _ _ _) HB.out.size (fun k hk=>by injection hk with hk;omega)⟩)
    ·
     have HIA:=ae (fun W=>Xw a W (uj.1 (yo.1 na).1).2.2 (by have:=(uj.1 (yo.1 na).1).2.1;rw[oq]at this;omega));have HIB:=ae (fun W=>Xw b W (uj.1 (yo.1 nb).1).2.2 (by have:=(uj.1 (yo.1 nb).1).2.1;rw[oq]at this;omega));have Tw:=sz3 (uj.1 (yo.1 na).1).2.2 (by have:=(uj.1 (yo.1 na).1).2.1;omega);have Yk:=sz3 (uj.1 (yo.1 nb).1).2.2 (by have:=(uj.1 (yo.1 nb).1).2.1;omega);have hp:=acw nb hz;have Wj:=bg (show ou s.data.toList=some (Rat.divInt (ll a.data.toList:Nat) (ll b.data.toList:Nat))by
      rw[Iu hl hn,na,nb,oo.2 hz];rfl)
     obtain⟨z1,hz1⟩ : ∃ z:Int,z=(ll a.data.toList:Nat):=⟨_,rfl⟩
     obtain⟨z2,hz2⟩ : ∃ z:Int,z=(ll b.data.toList:Nat):=⟨_,rfl⟩
     have hz0:z2≠0:=by omega
     rw[← hz1]at HIA Wj Tw;rw[← hz2]at HIB Wj Yk;have HNR:=ae (fun s2 di A2 c2 l2 s3 Ck A3 c3 l3 W (hW:yg W) (g2:iy W s2 di A2 c2 l2 z1) (g3:iy W s3 Ck A3 c3 l3 z2)=>apo (K:=3) s2 di A2 c2 l2 s3 Ck A3 c3 l3 z1 z2 W hW g2 g3 hz0 Tw Yk (by rw[Hy];omega));rw[na]at Qq;rw[nb]at Qp;have e1:(b.toList==[48])=false:=by rw[agl];exact oo.2 hz
     clear na nb hz hl hn hp Tw Yk hz1 hz2 hz0 Fj
     go_wp2_with (first|(go_at_call_of 156 (Value.string a);refine((aa Qq) _).mono ?_;rintro e w' ⟨rfl,rfl⟩)|(go_at_call_of 156 (Value.string b);refine((aa Qp) _).mono ?_;rintro e w' ⟨rfl,rfl⟩))
     refine((aa HIA) _).mono ?_
     rintro e V1 ⟨s2,di,A2,c2,l2,rfl,f2,hb⟩;have F2:=ae f2;clear f2;replace NR:=ae ((hb.block _ (lt_of_block (aa NR))).trans (aa NR));replace HB:=bg (az HB.out hb);clear hb;go_wp2_with fail;refine((aa HIB) _).mono ?_
     rintro e V2 ⟨s3,Ck,A3,c3,l3,rfl,f3,hb⟩;have F3:=ae f3;clear f3;replace NR:=ae ((hb.block _ (lt_of_block (aa NR))).trans (aa NR));replace HB:=bg (az HB.out hb);replace F2:=ae ((aa F2).below hb);clear hb;go_wp2_with fail;refine((aa HNR) s2 di A2 c2 l2 s3 Ck A3 c3 l3 _ ((aa HT).below HB.out) (aa F2) (aa F3)).mono ?_
     rintro e V3 ⟨s4,Nh,A4,c4,l4,s5,Ap,A5,c5,l5,rfl,f4,f5,hb⟩;have F4:=ae f4;have F5:=ae f5;clear f4 f5 F2 F3;replace NR:=ae ((hb.block _ (lt_of_block (aa NR))).trans (aa NR));replace HB:=bg (az HB.out hb);clear hb;have r0:V3.cell? ⟨w.heap.size,0,none⟩=some (.int .i64 0):=ag (aa NR) 0;have Jn:=ah (aa NR) 0;have r1:V3.cell? ⟨w.heap.size,1,none⟩=some (.bool false):=ag (aa NR) 1;have Jm:=ah (aa NR) 1;have r2:V3.cell? ⟨w.heap.size,2,none⟩=some (.slice none 0 0):=ag (aa NR) 2;have Ll:=ah (aa NR) 2;have r3:V3.cell? ⟨w.heap.size,3,none⟩=some (.int .i64 0):=ag (aa NR) 3;have Ms:=ah (aa NR) 3;have r4:V3.cell? ⟨w.heap.size,4,none⟩=some (.bool false):=ag (aa NR) 4;have fr4:=ah (aa NR) 4;have r5:V3.cell? ⟨w.heap.size,5,none⟩=some (.slice none 0 0):=ag (aa NR) 5;have fr5:=ah (aa NR) 5;have qr:=lt_of_block (aa NR);go_wp2_with fail;have lu:=bg (aa NR);exact bodyPost_ret (v := .tuple #[(Value.agg #[.int .i64 s4,.bool Nh,.slice A4 l4.length c4,.int .i64 s5,.bool Ap,.slice A5 l5.length c5]),.bool true]) (by simp[results,results86,go_sem,r0,r1,r2,r3,r4,r5,qr]) rfl
      (.inr ⟨_,s4,Nh,A4,c4,l4,s5,Ap,A5,c5,l5,Wj.out,rfl,(aa F4).upto lu.out (Dl _ _ _ _ _ _ _ _ _ _) (qg _ _ _ _ _ _ _ _),(aa F5).upto lu.out (Dl _ _ _ _ _ _ _ _ _ _) (qg _ _ _ _ _ _ _ _),HB.out.grown (qg _ _ _ _ _ _ _ _) HB.out.size (fun k hk=>by injection hk with hk;omega)⟩)
   ·
    have HN:=bg (show ou s.data.toList=none by rw[Iu hl hn,na,Tq nb];rfl);rw[na]at Qq;rw[Tq nb]at Qp;clear na nb hl hn Fj;have r0:W1.cell? ⟨w.heap.size,0,none⟩=some (.int .i64 0):=ag (aa NR) 0;have Jn:=ah (aa NR) 0;have r1:W1.cell? ⟨w.heap.size,1,none⟩=some (.bool false):=ag (aa NR) 1;have Jm:=ah (aa NR) 1;have r2:W1.cell? ⟨w.heap.size,2,none⟩=some (.slice none 0 0):=ag (aa NR) 2;have Ll:=ah (aa NR) 2;have r3:W1.cell? ⟨w.heap.size,3,none⟩=some (.int .i64 0):=ag (aa NR) 3;have Ms:=ah (aa NR) 3;have r4:W1.cell? ⟨w.heap.size,4,none⟩=some (.bool false):=ag (aa NR) 4;have fr4:=ah (aa NR) 4;have r5:W1.cell? ⟨w.heap.size,5,none⟩=some (.slice none 0 0):=ag (aa NR) 5;have fr5:=ah (aa NR) 5;have qr:=lt_of_block (aa NR)
    go_wp2_with (first|(go_at_call_of 156 (Value.string a);refine((aa Qq) _).mono ?_;rintro e w' ⟨rfl,rfl⟩)|(go_at_call_of 156 (Value.string b);refine((aa Qp) _).mono ?_;rintro e w' ⟨rfl,rfl⟩))
    exact bodyPost_ret (v := .tuple #[(Value.agg #[.int .i64 0,.bool false,.slice none 0 0,.int .i64 0,.bool false,.slice none 0 0]),.bool false]) (by simp[results,results86,go_sem,r0,r1,r2,r3,r4,r5,qr]) rfl
     (.inl ⟨HN.out,rfl,HB.out.grown (qg _ _ _ _ _ _ _ _) HB.out.size (fun k hk=>by injection hk with hk;omega)⟩)
  ·
   have HN:=bg (show ou s.data.toList=none by rw[Iu hl hn,Tq na];rfl);rw[Tq na]at Qq;clear na hl hn Fj Qp;have r0:W1.cell? ⟨w.heap.size,0,none⟩=some (.int .i64 0):=ag (aa NR) 0;have Jn:=ah (aa NR) 0;have r1:W1.cell? ⟨w.heap.size,1,none⟩=some (.bool false):=ag (aa NR) 1;have Jm:=ah (aa NR) 1;have r2:W1.cell? ⟨w.heap.size,2,none⟩=some (.slice none 0 0):=ag (aa NR) 2;have Ll:=ah (aa NR) 2;have r3:W1.cell? ⟨w.heap.size,3,none⟩=some (.int .i64 0):=ag (aa NR) 3;have Ms:=ah (aa NR) 3;have r4:W1.cell? ⟨w.heap.size,4,none⟩=some (.bool false):=ag (aa NR) 4;have fr4:=ah (aa NR) 4;have r5:W1.cell? ⟨w.heap.size,5,none⟩=some (.slice none 0 0):=ag (aa NR) 5;have fr5:=ah (aa NR) 5;have qr:=lt_of_block (aa NR)
   go_wp2_with (first|(go_at_call_of 156 (Value.string a);refine((aa Qq) _).mono ?_;rintro e w' ⟨rfl,rfl⟩))
   exact bodyPost_ret (v := .tuple #[(Value.agg #[.int .i64 0,.bool false,.slice none 0 0,.int .i64 0,.bool false,.slice none 0 0]),.bool false]) (by simp[results,results86,go_sem,r0,r1,r2,r3,r4,r5,qr]) rfl
    (.inl ⟨HN.out,rfl,HB.out.grown (qg _ _ _ _ _ _ _ _) HB.out.size (fun k hk=>by injection hk with hk;omega)⟩)
 ·
  go_wp2_with fail;refine((aa Wt) _).mono ?_
  rintro e W2 ⟨a,b,f,rfl,hb,hcase⟩;replace NR:=ae ((hb.block _ (lt_of_block (aa NR))).trans (aa NR));replace HB:=bg (az HB.out hb);clear hb
  rcases hcase with⟨rfl,hl,hn2⟩|⟨rfl,ha,hbn,hn2⟩
  ·
   have hlen:s.size=a.size+1+b.size:=by rw[← oq,hl,Bj,Db,oq,oq];omega
   have Qq:=ae (fun W=>Sk a W (by have:=aa Cn;omega));have Qp:=ae (fun W=>alb b 12 W (by have:=aa Cn;omega));clear hlen
   by_cases na:uf a.data.toList=true
   ·
    by_cases nb:Cg b.data.toList 12=true
    ·
     obtain⟨g1,g2,g3⟩:=uj.1 nb;obtain⟨g4,g5,g6⟩:=uj.1 (yo.1 na).1;rw[oq]at g2 g5;have aqa:=bjt g6 g3;have beu:b.size≤12:=by omega
     have bxw:a.size≤20:=by omega
     have Wj:=bg (show ou s.data.toList=some (Rat.divInt (ll (a.data.toList++b.data.toList):Nat) ((10^b.size:Nat):Int))by
      rw[Ry hn hl hn2,na,nb,oq];rfl)
     rw[na]at Qq;rw[nb]at Qp;clear na nb g1 g2 g3 g4 g5 g6 hl hn hn2;have HIA:=ae (fun W=>Xw (a++b) W (by rw[bfn];exact aqa) (by rw[bcf];omega));rw[bfn]at HIA;have hadd : ∀ W,(Op.stringOp .add a b).run prog W = .ok (.string (a++b)) W:=fun W=>run_string_add_sum W a b om
     have hno : ¬ (a.size+b.size>9223372036854775807):=by omega
     obtain⟨y,hy⟩ : ∃ y,a++b=y:=⟨_,rfl⟩
     rw[hy]at HIA hadd;clear hy;have Tw:=sz3 aqa (by rw[Bj,oq,oq];omega);have Yk:=bbv (n:=b.size) beu;obtain⟨z1,hz1⟩ : ∃ z:Int,z=(ll (a.data.toList++b.data.toList):Nat):=⟨_,rfl⟩
     obtain⟨z2,hz2⟩ : ∃ z:Int,z=((10^b.size:Nat):Int):=⟨_,rfl⟩
     have hz0:z2≠0:=by have:=wz (n:=b.size) (show 0<10 by decide);omega
     have hz3:(10:Int)^b.size=z2:=by rw[hz2,Int.natCast_pow];rfl
     rw[← hz1]at HIA Wj Tw;rw[← hz2]at Wj Yk;have HNR:=ae (fun s2 di A2 c2 l2 s3 Ck A3 c3 l3 W (hW:yg W) (g2:iy W s2 di A2 c2 l2 z1) (g3:iy W s3 Ck A3 c3 l3 z2)=>apo (K:=3) s2 di A2 c2 l2 s3 Ck A3 c3 l3 z1 z2 W hW g2 g3 hz0 Tw Yk (by rw[Hy];omega));have bzc:=ae (fun W=>Je 10 om om W);have HPW:=ae (fun s2 di A2 c2 l2 W (g2:iy W s2 di A2 c2 l2 10)=>bdv s2 di A2 c2 l2 10 b.size 1 W g2 atc (by rw[Hy];omega) (by rw[Hy];omega) om);rw[hz3]at HPW;clear aqa beu bxw Tw Yk hz1 hz2 hz0 hz3 Fj Wt
     go_wp2_with (first|(go_at_call_of 156 (Value.string a);refine((aa Qq) _).mono ?_;rintro e w' ⟨rfl,rfl⟩)|(go_at_call 158;refine((aa Qp) _).mono ?_;rintro e w' ⟨rfl,rfl⟩))
     refine((aa bzc) _).mono ?_
     rintro e V2 ⟨s2,di,A2,c2,l2,rfl,f2,hb⟩;have F2:=ae f2;clear f2;replace NR:=ae ((hb.block _ (lt_of_block (aa NR))).trans (aa NR));replace HB:=bg (az HB.out hb);clear hb;go_wp2_with fail;refine((aa HPW) s2 di A2 c2 l2 _ (aa F2)).mono ?_
     rintro e V3 ⟨s3,Ck,A3,c3,l3,rfl,f3,hb⟩;have F3:=ae f3;clear f3 F2;replace NR:=ae ((hb.block _ (lt_of_block (aa NR))).trans (aa NR));replace HB:=bg (az HB.out hb);clear hb;go_upto_region 10 with fail;have nu:=heap_alloc_new V3 (.cells #[.int .i64 s3,.bool Ck,.slice A3 l3.length c3] 77);have hb:=ic (df V3.heap.size V3) (.cells #[.int .i64 s3,.bool Ck,.slice A3 l3.length c3] 77);generalize V3.alloc (.cells #[.int .i64 s3,.bool Ck,.slice A3 l3.length c3] 77)=V4 at *;obtain⟨bu,hbu⟩ : ∃ b,b=V3.heap.size:=⟨_,rfl⟩
     rw[← hbu]at nu ⊢;have obu:w.heap.size<bu:=by rw[hbu];exact lt_of_block (aa NR)
     clear hbu;replace NR:=ae ((hb.block _ (lt_of_block (aa NR))).trans (aa NR));replace HB:=bg (az HB.out hb);replace F3:=ae ((aa F3).below hb);clear hb;have cri:V4.cell? ⟨bu,0,none⟩=some (.int .i64 s3):=ag nu 0;have crh:V4.cell? ⟨bu,1,none⟩=some (.bool Ck):=ag nu 1;have crg:V4.cell? ⟨bu,2,none⟩=some (.slice A3 l3.length c3):=ag nu 2;have qu:=lt_of_block nu;have r0:V4.cell? ⟨w.heap.size,0,none⟩=some (.int .i64 0):=ag (aa NR) 0;have Jn:=ah (aa NR) 0;have r1:V4.cell? ⟨w.heap.size,1,none⟩=some (.bool false):=ag (aa NR) 1;have Jm:=ah (aa NR) 1;have r2:V4.cell? ⟨w.heap.size,2,none⟩=some (.slice none 0 0):=ag (aa NR) 2;have Ll:=ah (aa NR) 2;have r3:V4.cell? ⟨w.heap.size,3,none⟩=some (.int .i64 0):=ag (aa NR) 3;have Ms:=ah (aa NR) 3;have r4:V4.cell? ⟨w.heap.size,4,none⟩=some (.bool false):=ag (aa NR) 4;have fr4:=ah (aa NR) 4;have r5:V4.cell? ⟨w.heap.size,5,none⟩=some (.slice none 0 0):=ag (aa NR) 5;have fr5:=ah (aa NR) 5;have qr:=lt_of_block (aa NR);clear nu
     go_region_with (first|(go_at_call 157;refine((aa HIA) _).mono ?_;rintro e w' ⟨s4,Nh,A4,c4,l4,rfl,f4,hb4⟩;have hbw:=cz (w:=V4) (by(first|with_reducible assumption|(repeat (first|with_reducible exact df _ _|with_reducible assumption|refine ny ?_|(refine qz ?_ zx _)|refine ky ?_ _)))) hb4;obtain⟨hc,hfz⟩:=fq hbw)|(go_at_call 136;refine((aa HNR) s4 Nh A4 c4 l4 s3 Ck A3 c3 l3 _ ((aa HT).below (az HB.out (by(first|with_reducible assumption|(repeat (first|with_reducible exact df _ _|with_reducible assumption|refine ny ?_|(refine qz ?_ zx _)|refine ky ?_ _)))))) (by first|exact f4|exact iy.below f4 (by(first|with_reducible assumption|(repeat (first|with_reducible exact df _ _|with_reducible assumption|refine ny ?_|(refine qz ?_ zx _)|refine ky ?_ _))))) (iy.below (aa F3) (by(first|with_reducible assumption|(repeat (first|with_reducible exact df _ _|with_reducible assumption|refine ny ?_|(refine qz ?_ zx _)|refine ky ?_ _)))))).mono ?_;rintro e w' ⟨s5,Ap,A5,c5,l5,s6,Di,A6,c6,l6,rfl,f5,f6,hb5⟩;have hbw:=cz (w:=V4) (by(first|with_reducible assumption|(repeat (first|with_reducible exact df _ _|with_reducible assumption|refine ny ?_|(refine qz ?_ zx _)|refine ky ?_ _)))) hb5;obtain⟨hc,hfz⟩:=fq hbw))
     all_goals
      replace NR:=ae ((hbw.block _ (lt_of_block (aa NR))).trans (aa NR));replace HB:=bg (az HB.out hbw);have lu:=bg (aa NR);have F5:=ae f5;have F6:=ae f6;go_wp2_with fail;exact bodyPost_ret (v := .tuple #[(Value.agg #[.int .i64 s5,.bool Ap,.slice A5 l5.length c5,.int .i64 s6,.bool Di,.slice A6 l6.length c6]),.bool true]) (by simp[results,results86,go_sem,hc,r0,r1,r2,r3,r4,r5,qr]) rfl
       (.inr ⟨_,s5,Ap,A5,c5,l5,s6,Di,A6,c6,l6,Wj.out,rfl,(aa F5).upto lu.out (Dl _ _ _ _ _ _ _ _ _ _) (qg _ _ _ _ _ _ _ _),(aa F6).upto lu.out (Dl _ _ _ _ _ _ _ _ _ _) (qg _ _ _ _ _ _ _ _),HB.out.grown (qg _ _ _ _ _ _ _ _) HB.out.size (fun k hk=>by injection hk with hk;omega)⟩)
    ·
     have HN:=bg (show ou s.data.toList=none by rw[Ry hn hl hn2,na,Tq nb];rfl);rw[na]at Qq;rw[Tq nb]at Qp;clear na nb hl hn hn2 Fj Wt;have r0:W2.cell? ⟨w.heap.size,0,none⟩=some (.int .i64 0):=ag (aa NR) 0;have Jn:=ah (aa NR) 0;have r1:W2.cell? ⟨w.heap.size,1,none⟩=some (.bool false):=ag (aa NR) 1;have Jm:=ah (aa NR) 1;have r2:W2.cell? ⟨w.heap.size,2,none⟩=some (.slice none 0 0):=ag (aa NR) 2;have Ll:=ah (aa NR) 2;have r3:W2.cell? ⟨w.heap.size,3,none⟩=some (.int .i64 0):=ag (aa NR) 3;have Ms:=ah (aa NR) 3;have r4:W2.cell? ⟨w.heap.size,4,none⟩=some (.bool false):=ag (aa NR) 4;have fr4:=ah (aa NR) 4;have r5:W2.cell? ⟨w.heap.size,5,none⟩=some (.slice none 0 0):=ag (aa NR) 5;have fr5:=ah (aa NR) 5;have qr:=lt_of_block (aa NR)
     go_wp2_with (first|(go_at_call_of 156 (Value.string a);refine((aa Qq) _).mono ?_;rintro e w' ⟨rfl,rfl⟩)|(go_at_call 158;refine((aa Qp) _).mono ?_;rintro e w' ⟨rfl,rfl⟩))
     exact bodyPost_ret (v := .tuple #[(Value.agg #[.int .i64 0,.bool false,.slice none 0 0,.int .i64 0,.bool false,.slice none 0 0]),.bool false]) (by simp[results,results86,go_sem,r0,r1,r2,r3,r4,r5,qr]) rfl
      (.inl ⟨HN.out,rfl,HB.out.grown (qg _ _ _ _ _ _ _ _) HB.out.size (fun k hk=>by injection hk with hk;omega)⟩)
   ·
    have HN:=bg (show ou s.data.toList=none by rw[Ry hn hl hn2,Tq na];rfl);rw[Tq na]at Qq;clear na hl hn hn2 Fj Wt Qp;have r0:W2.cell? ⟨w.heap.size,0,none⟩=some (.int .i64 0):=ag (aa NR) 0;have Jn:=ah (aa NR) 0;have r1:W2.cell? ⟨w.heap.size,1,none⟩=some (.bool false):=ag (aa NR) 1;have Jm:=ah (aa NR) 1;have r2:W2.cell? ⟨w.heap.size,2,none⟩=some (.slice none 0 0):=ag (aa NR) 2;have Ll:=ah (aa NR) 2;have r3:W2.cell? ⟨w.heap.size,3,none⟩=some (.int .i64 0):=ag (aa NR) 3;have Ms:=ah (aa NR) 3;have r4:W2.cell? ⟨w.heap.size,4,none⟩=some (.bool false):=ag (aa NR) 4;have fr4:=ah (aa NR) 4;have r5:W2.cell? ⟨w.heap.size,5,none⟩=some (.slice none 0 0):=ag (aa NR) 5;have fr5:=ah (aa NR) 5;have qr:=lt_of_block (aa NR)
    go_wp2_with (first|(go_at_call_of 156 (Value.string a);refine((aa Qq) _).mono ?_;rintro e w' ⟨rfl,rfl⟩))
    exact bodyPost_ret (v := .tuple #[(Value.agg #[.int .i64 0,.bool false,.slice none 0 0,.int .i64 0,.bool false,.slice none 0 0]),.bool false]) (by simp[results,results86,go_sem,r0,r1,r2,r3,r4,r5,qr]) rfl
     (.inl ⟨HN.out,rfl,HB.out.grown (qg _ _ _ _ _ _ _ _) HB.out.size (fun k hk=>by injection hk with hk;omega)⟩)
  ·
   have Qq:=ae (fun W=>Sk a W (by have:=aa Cn;rw[ha];omega))
   by_cases na:uf a.data.toList=true
   ·
    obtain⟨g4,g5,g6⟩:=uj.1 (yo.1 na).1;rw[oq]at g5;have hb0:b.size=0:=by rw[← oq,hbn];rfl
    have aqa:(a.data.toList++b.data.toList).all mf=true:=by rw[hbn,Oz];exact g6
    have beu:b.size≤12:=by omega
    have bxw:a.size≤20:=by omega
    have Wj:=bg (show ou s.data.toList=some (Rat.divInt (ll (a.data.toList++b.data.toList):Nat) ((10^b.size:Nat):Int))by
     rw[Ko hn hn2,← ha,na,hbn,Oz,hb0];rfl)
    rw[na]at Qq;clear na g4 g5 g6 ha hbn hn hn2 hb0;have HIA:=ae (fun W=>Xw (a++b) W (by rw[bfn];exact aqa) (by rw[bcf];omega));rw[bfn]at HIA;have hadd : ∀ W,(Op.stringOp .add a b).run prog W = .ok (.string (a++b)) W:=fun W=>run_string_add_sum W a b om
    have hno : ¬ (a.size+b.size>9223372036854775807):=by omega
    obtain⟨y,hy⟩ : ∃ y,a++b=y:=⟨_,rfl⟩
    rw[hy]at HIA hadd;clear hy;have Tw:=sz3 aqa (by rw[Bj,oq,oq];omega);have Yk:=bbv (n:=b.size) beu;obtain⟨z1,hz1⟩ : ∃ z:Int,z=(ll (a.data.toList++b.data.toList):Nat):=⟨_,rfl⟩
    obtain⟨z2,hz2⟩ : ∃ z:Int,z=((10^b.size:Nat):Int):=⟨_,rfl⟩
    have hz0:z2≠0:=by have:=wz (n:=b.size) (show 0<10 by decide);omega
    have hz3:(10:Int)^b.size=z2:=by rw[hz2,Int.natCast_pow];rfl
    rw[← hz1]at HIA Wj Tw;rw[← hz2]at Wj Yk;have HNR:=ae (fun s2 di A2 c2 l2 s3 Ck A3 c3 l3 W (hW:yg W) (g2:iy W s2 di A2 c2 l2 z1) (g3:iy W s3 Ck A3 c3 l3 z2)=>apo (K:=3) s2 di A2 c2 l2 s3 Ck A3 c3 l3 z1 z2 W hW g2 g3 hz0 Tw Yk (by rw[Hy];omega));have bzc:=ae (fun W=>Je 10 om om W);have HPW:=ae (fun s2 di A2 c2 l2 W (g2:iy W s2 di A2 c2 l2 10)=>bdv s2 di A2 c2 l2 10 b.size 1 W g2 atc (by rw[Hy];omega) (by rw[Hy];omega) om);rw[hz3]at HPW;clear aqa beu bxw Tw Yk hz1 hz2 hz0 hz3 Fj Wt
    go_wp2_with (first|(go_at_call_of 156 (Value.string a);refine((aa Qq) _).mono ?_;rintro e w' ⟨rfl,rfl⟩))
    refine((aa bzc) _).mono ?_
    rintro e V2 ⟨s2,di,A2,c2,l2,rfl,f2,hb⟩;have F2:=ae f2;clear f2;replace NR:=ae ((hb.block _ (lt_of_block (aa NR))).trans (aa NR));replace HB:=bg (az HB.out hb);clear hb;go_wp2_with fail;refine((aa HPW) s2 di A2 c2 l2 _ (aa F2)).mono ?_
    rintro e V3 ⟨s3,Ck,A3,c3,l3,rfl,f3,hb⟩;have F3:=ae f3;clear f3 F2;replace NR:=ae ((hb.block _ (lt_of_block (aa NR))).trans (aa NR));replace HB:=bg (az HB.out hb);clear hb;go_upto_region 10 with fail;have nu:=heap_alloc_new V3 (.cells #[.int .i64 s3,.bool Ck,.slice A3 l3.length c3] 77);have hb:=ic (df V3.heap.size V3) (.cells #[.int .i64 s3,.bool Ck,.slice A3 l3.length c3] 77);generalize V3.alloc (.cells #[.int .i64 s3,.bool Ck,.slice A3 l3.length c3] 77)=V4 at *;obtain⟨bu,hbu⟩ : ∃ b,b=V3.heap.size:=⟨_,rfl⟩
    rw[← hbu]at nu ⊢;have obu:w.heap.size<bu:=by rw[hbu];exact lt_of_block (aa NR)
    clear hbu;replace NR:=ae ((hb.block _ (lt_of_block (aa NR))).trans (aa NR));replace HB:=bg (az HB.out hb);replace F3:=ae ((aa F3).below hb);clear hb;have cri:V4.cell? ⟨bu,0,none⟩=some (.int .i64 s3):=ag nu 0;have crh:V4.cell? ⟨bu,1,none⟩=some (.bool Ck):=ag nu 1;have crg:V4.cell? ⟨bu,2,none⟩=some (.slice A3 l3.length c3):=ag nu 2;have qu:=lt_of_block nu;have r0:V4.cell? ⟨w.heap.size,0,none⟩=some (.int .i64 0):=ag (aa NR) 0;have Jn:=ah (aa NR) 0;have r1:V4.cell? ⟨w.heap.size,1,none⟩=some (.bool false):=ag (aa NR) 1;have Jm:=ah (aa NR) 1;have r2:V4.cell? ⟨w.heap.size,2,none⟩=some (.slice none 0 0):=ag (aa NR) 2;have Ll:=ah (aa NR) 2;have r3:V4.cell? ⟨w.heap.size,3,none⟩=some (.int .i64 0):=ag (aa NR) 3;have Ms:=ah (aa NR) 3;have r4:V4.cell? ⟨w.heap.size,4,none⟩=some (.bool false):=ag (aa NR) 4;have fr4:=ah (aa NR) 4;have r5:V4.cell? ⟨w.heap.size,5,none⟩=some (.slice none 0 0):=ag (aa NR) 5;have fr5:=ah (aa NR) 5;have qr:=lt_of_block (aa NR);clear nu
    go_region_with (first|(go_at_call 157;refine((aa HIA) _).mono ?_;rintro e w' ⟨s4,Nh,A4,c4,l4,rfl,f4,hb4⟩;have hbw:=cz (w:=V4) (by(first|with_reducible assumption|(repeat (first|with_reducible exact df _ _|with_reducible assumption|refine ny ?_|(refine qz ?_ zx _)|refine ky ?_ _)))) hb4;obtain⟨hc,hfz⟩:=fq hbw)|(go_at_call 136;refine((aa HNR) s4 Nh A4 c4 l4 s3 Ck A3 c3 l3 _ ((aa HT).below (az HB.out (by(first|with_reducible assumption|(repeat (first|with_reducible exact df _ _|with_reducible assumption|refine ny ?_|(refine qz ?_ zx _)|refine ky ?_ _)))))) (by first|exact f4|exact iy.below f4 (by(first|with_reducible assumption|(repeat (first|with_reducible exact df _ _|with_reducible assumption|refine ny ?_|(refine qz ?_ zx _)|refine ky ?_ _))))) (iy.below (aa F3) (by(first|with_reducible assumption|(repeat (first|with_reducible exact df _ _|with_reducible assumption|refine ny ?_|(refine qz ?_ zx _)|refine ky ?_ _)))))).mono ?_;rintro e w' ⟨s5,Ap,A5,c5,l5,s6,Di,A6,c6,l6,rfl,f5,f6,hb5⟩;have hbw:=cz (w:=V4) (by(first|with_reducible assumption|(repeat (first|with_reducible exact df _ _|with_reducible assumption|refine ny ?_|(refine qz ?_ zx _)|refine ky ?_ _)))) hb5;obtain⟨hc,hfz⟩:=fq hbw))
    all_goals
     replace NR:=ae ((hbw.block _ (lt_of_block (aa NR))).trans (aa NR));replace HB:=bg (az HB.out hbw);have lu:=bg (aa NR);have F5:=ae f5;have F6:=ae f6;go_wp2_with fail;exact bodyPost_ret (v := .tuple #[(Value.agg #[.int .i64 s5,.bool Ap,.slice A5 l5.length c5,.int .i64 s6,.bool Di,.slice A6 l6.length c6]),.bool true]) (by simp[results,results86,go_sem,hc,r0,r1,r2,r3,r4,r5,qr]) rfl
      (.inr ⟨_,s5,Ap,A5,c5,l5,s6,Di,A6,c6,l6,Wj.out,rfl,(aa F5).upto lu.out (Dl _ _ _ _ _ _ _ _ _ _) (qg _ _ _ _ _ _ _ _),(aa F6).upto lu.out (Dl _ _ _ _ _ _ _ _ _ _) (qg _ _ _ _ _ _ _ _),HB.out.grown (qg _ _ _ _ _ _ _ _) HB.out.size (fun k hk=>by injection hk with hk;omega)⟩)
   ·
    have HN:=bg (show ou s.data.toList=none by rw[Ko hn hn2,← ha,Tq na];rfl);rw[Tq na]at Qq;clear na ha hbn hn hn2 Fj Wt;have r0:W2.cell? ⟨w.heap.size,0,none⟩=some (.int .i64 0):=ag (aa NR) 0;have Jn:=ah (aa NR) 0;have r1:W2.cell? ⟨w.heap.size,1,none⟩=some (.bool false):=ag (aa NR) 1;have Jm:=ah (aa NR) 1;have r2:W2.cell? ⟨w.heap.size,2,none⟩=some (.slice none 0 0):=ag (aa NR) 2;have Ll:=ah (aa NR) 2;have r3:W2.cell? ⟨w.heap.size,3,none⟩=some (.int .i64 0):=ag (aa NR) 3;have Ms:=ah (aa NR) 3;have r4:W2.cell? ⟨w.heap.size,4,none⟩=some (.bool false):=ag (aa NR) 4;have fr4:=ah (aa NR) 4;have r5:W2.cell? ⟨w.heap.size,5,none⟩=some (.slice none 0 0):=ag (aa NR) 5;have fr5:=ah (aa NR) 5;have qr:=lt_of_block (aa NR)
    go_wp2_with (first|(go_at_call_of 156 (Value.string a);refine((aa Qq) _).mono ?_;rintro e w' ⟨rfl,rfl⟩))
    exact bodyPost_ret (v := .tuple #[(Value.agg #[.int .i64 0,.bool false,.slice none 0 0,.int .i64 0,.bool false,.slice none 0 0]),.bool false]) (by simp[results,results86,go_sem,r0,r1,r2,r3,r4,r5,qr]) rfl
     (.inl ⟨HN.out,rfl,HB.out.grown (qg _ _ _ _ _ _ _ _) HB.out.size (fun k hk=>by injection hk with hk;omega)⟩)


def Ir (m:Bool) (o:Option Rat):Uq:=match o with
 | none=>⟨0,0,2⟩
 | some q=>if m=true∧q=0 then⟨0,0,2⟩else jf (if m=true then -q else q)
theorem amc (l:List UInt8):uh l=if l.head? = some 45 then Ir true (ou l.tail)else Ir false (ou l):=by
 unfold uh Ir
 split
 ·
  cases ou l.tail with
  | none=>rfl
  | some q=>simp
 ·
  cases ou l with
  | none=>rfl
  | some q=>simp
theorem Fz (s:ByteArray):(⟨s.data.toList.toArray⟩:ByteArray)=s:=by cases s;simp
theorem bfj (s:ByteArray) (h:s.data.toList.head? = some 45) (W:Wq) :
  Calls prog 85 #[.string s,.string ⟨#[45]⟩] W fun e w'=>e = .returned (.tuple #[.string ⟨s.data.toList.tail.toArray⟩,.bool true])∧w'=W:=by
 have h1:Lib.hasPrefix s.data.toList [45]=true:=by
  unfold Lib.hasPrefix
  cases hl:s.data.toList with
  | nil=>rw[hl]at h;cases h
  | cons c l=>rw[hl]at h;have:=Az h;rw[this];rfl
 have h2:Lib.trimPrefix s.data.toList [45]=s.data.toList.tail:=by
  unfold Lib.trimPrefix;rw[if_pos h1]
  cases s.data.toList with
  | nil=>rfl
  | cons c l=>rfl
 refine(strings_CutPrefix s ⟨#[45]⟩ W).mono ?_
 rintro e w' ⟨he,hw⟩
 refine⟨he.trans ?_,hw⟩
 show Ending.returned (.tuple #[.string ⟨(Lib.trimPrefix s.data.toList [45]).toArray⟩,.bool (Lib.hasPrefix s.data.toList [45])])=_
 rw[h1,h2]
theorem aws (s:ByteArray) (h : ¬ s.data.toList.head? = some 45) (W:Wq) :
  Calls prog 85 #[.string s,.string ⟨#[45]⟩] W fun e w'=>e = .returned (.tuple #[.string s,.bool false])∧w'=W:=by
 have h1:Lib.hasPrefix s.data.toList [45]=false:=by
  unfold Lib.hasPrefix
  cases hl:s.data.toList with
  | nil=>rfl
  | cons c l =>
   rw[hl]at h;have hc : ¬ 45=c:=fun e=>h (by rw[← e];rfl)
   simp[List.isPrefixOf,hc]
 have h2:Lib.trimPrefix s.data.toList [45]=s.data.toList:=by
  unfold Lib.trimPrefix;rw[h1];rfl
 refine(strings_CutPrefix s ⟨#[45]⟩ W).mono ?_
 rintro e w' ⟨he,hw⟩
 refine⟨he.trans ?_,hw⟩
 show Ending.returned (.tuple #[.string ⟨(Lib.trimPrefix s.data.toList [45]).toArray⟩,.bool (Lib.hasPrefix s.data.toList [45])])=_
 rw[h1,h2,Fz]

theorem bqt (s1:Int) (ek:Bool) (A1:Option Addr) (c1:Nat) (l1:List Nat) (s2:Int) (di:Bool) (A2:Option Addr) (c2:Nat) (l2:List Nat) (z:Int) (w:Wq) (h1:iy w s1 ek A1 c1 l1 z) :
  Calls prog 87 #[(Value.agg #[.int .i64 s1,.bool ek,.slice A1 l1.length c1,.int .i64 s2,.bool di,.slice A2 l2.length c2])] w fun e w'=>e = .returned (.int .i64 (zm z))∧Below w.heap.size w w':=by
 have HS:=ae (fun W (hW:Below w.heap.size w W)=>Gt s1 ek A1 c1 l1 z W (h1.below hW))
 obtain⟨o,ho⟩ : ∃ o,o=zm z:=⟨_,rfl⟩
 rw[← ho]at HS ⊢
 clear h1 ho
 go_enter func87,ntmps87
 go_upto_region 1 with fail
 obtain⟨nr,hsz,hw0⟩:=Ii w (.cells #[.int .i64 s1,.bool ek,.slice A1 l1.length c1,.int .i64 s2,.bool di,.slice A2 l2.length c2] 79)
 generalize w.alloc (.cells #[.int .i64 s1,.bool ek,.slice A1 l1.length c1,.int .i64 s2,.bool di,.slice A2 l2.length c2] 79)=W0 at *
 have k0:W0.cell? ⟨w.heap.size,0,none⟩=some (.int .i64 s1):=ag nr 0
 have k1:W0.cell? ⟨w.heap.size,1,none⟩=some (.bool ek):=ag nr 1
 have k2:W0.cell? ⟨w.heap.size,2,none⟩=some (.slice A1 l1.length c1):=ag nr 2
 have k3:W0.cell? ⟨w.heap.size,3,none⟩=some (.int .i64 s2):=ag nr 3
 have k4:W0.cell? ⟨w.heap.size,4,none⟩=some (.bool di):=ag nr 4
 have k5:W0.cell? ⟨w.heap.size,5,none⟩=some (.slice A2 l2.length c2):=ag nr 5
 clear hsz nr
 go_wp2_with fail
 refine((aa HS) _ hw0).mono ?_
 rintro e w' ⟨rfl,hb⟩
 have lh:=az hw0 hb
 clear hb
 go_wp2_with fail
 all_goals first|go_ret|skip
 exact⟨rfl,lh⟩

theorem Vh (s B:ByteArray) (m:Bool) (o:Option Rat) (ho:ou B.data.toList=o) (w:Wq) (hT:yg w)
  (hcut : ∀ W,Calls prog 85 #[.string s,.string ⟨#[45]⟩] W fun e w'=>e = .returned (.tuple #[.string B,.bool m])∧w'=W)
  (hpos : ∀ W,yg W→Calls prog 86 #[.string B] W fun e w'=>cld W B.data.toList e w') :
  Calls prog 24 #[.string s] w fun e w'=>ckz w (Ir m o) e w':=by
 obtain⟨t,ht⟩ : ∃ t,t=Ir m o:=⟨_,rfl⟩
 rw[← ht]
 have HT:=ae hT;have HC:=ae hcut;have HP:=ae hpos;have HO:=bg ho;have Zy:=bg ht
 clear hT hcut hpos ho ht
 go_enter func24,ntmps24
 go_upto_region 1 with fail
 obtain⟨nr,hsz,hw0⟩:=Ii w (.cells #[.int .i64 0,.int .i64 0] 23)
 generalize w.alloc (.cells #[.int .i64 0,.int .i64 0] 23)=W0 at *
 have NR:=ae nr;have HB:=bg hw0
 clear hsz nr hw0
 go_wp2_with (go_at_call 85;refine((aa HC) _).mono ?_;rintro e w' ⟨rfl,rfl⟩)
 refine((aa HP) _ ((aa HT).below HB.out)).mono ?_
 rintro e V1 hpr
 rcases hpr with⟨hpn,rfl,hb⟩|⟨q,s1,ek,A1,c1,l1,s2,di,A2,c2,l2,hpn,rfl,f1,f2,hb⟩
 ·
  have HTT:=bg (show t=⟨0,0,2⟩by rw[Zy.out,← HO.out,hpn];rfl);replace NR:=ae ((hb.block _ (lt_of_block (aa NR))).trans (aa NR));replace HB:=bg (az HB.out hb);clear hb hpn HP HC;go_upto_region 3 with fail;have hn:=heap_alloc_new V1 (.cells #[.int .i64 0,.bool false,.slice none 0 0,.int .i64 0,.bool false,.slice none 0 0] 79);have hb:=ic (df V1.heap.size V1) (.cells #[.int .i64 0,.bool false,.slice none 0 0,.int .i64 0,.bool false,.slice none 0 0] 79);generalize V1.alloc (.cells #[.int .i64 0,.bool false,.slice none 0 0,.int .i64 0,.bool false,.slice none 0 0] 79)=W2 at *;obtain⟨bx,hbx⟩ : ∃ b,b=V1.heap.size:=⟨_,rfl⟩
  rw[← hbx]at hn ⊢;have obx:w.heap.size<bx:=by rw[hbx];exact lt_of_block (aa NR)
  clear hbx;have kx0:W2.cell? ⟨bx,0,none⟩=some (.int .i64 0):=ag hn 0;have kx1:W2.cell? ⟨bx,1,none⟩=some (.bool false):=ag hn 1;have kx2:W2.cell? ⟨bx,2,none⟩=some (.slice none 0 0):=ag hn 2;have kx3:W2.cell? ⟨bx,3,none⟩=some (.int .i64 0):=ag hn 3;have kx4:W2.cell? ⟨bx,4,none⟩=some (.bool false):=ag hn 4;have kx5:W2.cell? ⟨bx,5,none⟩=some (.slice none 0 0):=ag hn 5;replace NR:=ae ((hb.block _ (lt_of_block (aa NR))).trans (aa NR));replace HB:=bg (az HB.out hb);clear hb hn;have r0:W2.cell? ⟨w.heap.size,0,none⟩=some (.int .i64 0):=ag (aa NR) 0;have Jn:=ah (aa NR) 0;have r1:W2.cell? ⟨w.heap.size,1,none⟩=some (.int .i64 0):=ag (aa NR) 1;have Jm:=ah (aa NR) 1;have qr:=lt_of_block (aa NR);go_wp2_with fail;exact bodyPost_ret (v := .tuple #[.agg #[.int .i64 0,.int .i64 0],.int .i64 2]) (by simp[results,results24,go_sem,r0,r1,qr]) rfl
   ⟨by rw[HTT.out],HB.out.grown (qa _ _ _ _) HB.out.size (fun k hk=>by injection hk with hk;omega)⟩
 ·
  have HQ:=bg (show o=some q from HO.out.symm.trans hpn);have F1:=ae f1;have F2:=ae f2;replace NR:=ae ((hb.block _ (lt_of_block (aa NR))).trans (aa NR));replace HB:=bg (az HB.out hb);clear hb hpn HP HC f1 f2;go_upto_region 3 with fail;have hn:=heap_alloc_new V1 (.cells #[.int .i64 s1,.bool ek,.slice A1 l1.length c1,.int .i64 s2,.bool di,.slice A2 l2.length c2] 79);have hb:=ic (df V1.heap.size V1) (.cells #[.int .i64 s1,.bool ek,.slice A1 l1.length c1,.int .i64 s2,.bool di,.slice A2 l2.length c2] 79);generalize V1.alloc (.cells #[.int .i64 s1,.bool ek,.slice A1 l1.length c1,.int .i64 s2,.bool di,.slice A2 l2.length c2] 79)=W2 at *;obtain⟨bx,hbx⟩ : ∃ b,b=V1.heap.size:=⟨_,rfl⟩
  rw[← hbx]at hn ⊢;have obx:w.heap.size<bx:=by rw[hbx];exact lt_of_block (aa NR)
  clear hbx;have JX:=ae hn;replace NR:=ae ((hb.block _ (lt_of_block (aa NR))).trans (aa NR));replace HB:=bg (az HB.out hb);replace F1:=ae ((aa F1).below hb);replace F2:=ae ((aa F2).below hb);clear hb hn;have kx0:W2.cell? ⟨bx,0,none⟩=some (.int .i64 s1):=ag (aa JX) 0;have ux0:=ah (aa JX) 0;have kx1:W2.cell? ⟨bx,1,none⟩=some (.bool ek):=ag (aa JX) 1;have ux1:=ah (aa JX) 1;have kx2:W2.cell? ⟨bx,2,none⟩=some (.slice A1 l1.length c1):=ag (aa JX) 2;have ux2:=ah (aa JX) 2;have kx3:W2.cell? ⟨bx,3,none⟩=some (.int .i64 s2):=ag (aa JX) 3;have ux3:=ah (aa JX) 3;have kx4:W2.cell? ⟨bx,4,none⟩=some (.bool di):=ag (aa JX) 4;have ux4:=ah (aa JX) 4;have kx5:W2.cell? ⟨bx,5,none⟩=some (.slice A2 l2.length c2):=ag (aa JX) 5;have ux5:=ah (aa JX) 5;have qx:=lt_of_block (aa JX)
  cases m
  ·
   have HTT:=bg (show t=jf q by rw[Zy.out,HQ.out];simp[Ir]);have ht2:jf q=t:=HTT.out.symm;have HR:=ae (fun s5 Ap A5 c5 l5 s6 Di A6 c6 l6 W (g1:iy W s5 Ap A5 c5 l5 (q).num) (g2:iy W s6 Di A6 c6 l6 ((q).den:Int))=>aph s5 Ap A5 c5 l5 _ s6 Di A6 c6 l6 _ W g1 g2 (q) rfl rfl);rw[ht2]at HR;replace HTT:=bg (show t=t from rfl);clear ht2 HQ Zy HO;go_wp2_with fail;refine((aa HR) s1 ek A1 c1 l1 s2 di A2 c2 l2 _ (aa F1) (aa F2)).mono ?_
   rintro e V9 ⟨rfl,hb⟩;replace NR:=ae ((hb.block _ (lt_of_block (aa NR))).trans (aa NR));replace HB:=bg (az HB.out hb);clear hb;have r0:V9.cell? ⟨w.heap.size,0,none⟩=some (.int .i64 0):=ag (aa NR) 0;have Jn:=ah (aa NR) 0;have r1:V9.cell? ⟨w.heap.size,1,none⟩=some (.int .i64 0):=ag (aa NR) 1;have Jm:=ah (aa NR) 1;have qr:=lt_of_block (aa NR);go_wp2_with fail;exact bodyPost_ret (v := .tuple #[.agg #[.int .i64 t.n,.int .i64 t.d],.int .i64 t.e]) (by simp[results,results24,go_sem,r0,r1,qr]) rfl
    ⟨rfl,HB.out.grown (qa _ _ _ _) HB.out.size (fun k hk=>by injection hk with hk;omega)⟩
  ·
   have HS:=ae (fun W (hW:Below W2.heap.size W2 W)=>bqt s1 ek A1 c1 l1 s2 di A2 c2 l2 q.num W ((aa F1).below hW))
   by_cases hz:q=0
   ·
    have HTT:=bg (show t=⟨0,0,2⟩by rw[Zy.out,HQ.out];unfold Ir;dsimp only;rw[if_pos ⟨rfl,hz⟩]);have hs0:zm q.num=0:=by rw[hz];rfl
    rw[hs0]at HS;clear hs0 hz HQ Zy HO;go_wp2_with fail;refine((aa HS) _ (df _ _)).mono ?_
    rintro e V3 ⟨rfl,hb⟩;clear kx0 ux0 kx1 ux1 kx2 ux2 kx3 ux3 kx4 ux4 kx5 ux5 qx;replace NR:=ae ((hb.block _ (lt_of_block (aa NR))).trans (aa NR));replace HB:=bg (az HB.out hb);replace JX:=ae ((hb.block _ (lt_of_block (aa JX))).trans (aa JX));clear hb;have r0:V3.cell? ⟨w.heap.size,0,none⟩=some (.int .i64 0):=ag (aa NR) 0;have Jn:=ah (aa NR) 0;have r1:V3.cell? ⟨w.heap.size,1,none⟩=some (.int .i64 0):=ag (aa NR) 1;have Jm:=ah (aa NR) 1;have qr:=lt_of_block (aa NR);go_wp2_with fail;exact bodyPost_ret (v := .tuple #[.agg #[.int .i64 0,.int .i64 0],.int .i64 2]) (by simp[results,results24,go_sem,r0,r1,qr]) rfl
     ⟨by rw[HTT.out],HB.out.grown (qa _ _ _ _) HB.out.size (fun k hk=>by injection hk with hk;omega)⟩
   ·
    have HTT:=bg (show t=jf (-q)by rw[Zy.out,HQ.out];unfold Ir;dsimp only;rw[if_neg (fun h=>hz h.2)];rfl);have hs0 : ¬ zm q.num=0:=fun h=>hz (by
     have:q.num=0:=by unfold zm at h;split at h<;>(try split at h)<;>omega
     exact Rat.num_eq_zero.1 this)
    obtain⟨so,hso⟩ : ∃ so,so=zm q.num:=⟨_,rfl⟩
    rw[← hso]at HS hs0;have e1:(so==0)=false:=oo.2 hs0;have ht2:jf (-q)=t:=HTT.out.symm;have HR:=ae (fun s5 Ap A5 c5 l5 s6 Di A6 c6 l6 W (g1:iy W s5 Ap A5 c5 l5 ((-q)).num) (g2:iy W s6 Di A6 c6 l6 (((-q)).den:Int))=>aph s5 Ap A5 c5 l5 _ s6 Di A6 c6 l6 _ W g1 g2 ((-q)) rfl rfl);rw[ht2]at HR;have HNG:=ae (fun s5 Ap A5 c5 l5 s6 Di A6 c6 l6 W (g1:iy W s5 Ap A5 c5 l5 q.num) (g2:iy W s6 Di A6 c6 l6 (q.den:Int))=>bcq s5 Ap A5 c5 l5 _ s6 Di A6 c6 l6 _ W g1 g2);rw[← ajm,show(q.den:Int)=((-q).den:Int)from by rw[ajn]]at HNG;replace F2:=ae (show iy W2 s2 di A2 c2 l2 ((-q).den:Int)by rw[ajn];exact aa F2);replace HTT:=bg (show t=t from rfl);clear ht2 HQ Zy HO hso hz;go_wp2_with fail;refine((aa HS) _ (df _ _)).mono ?_
    rintro e V3 ⟨rfl,hb⟩;clear kx0 ux0 kx1 ux1 kx2 ux2 kx3 ux3 kx4 ux4 kx5 ux5 qx;replace NR:=ae ((hb.block _ (lt_of_block (aa NR))).trans (aa NR));replace HB:=bg (az HB.out hb);replace F1:=ae ((aa F1).below hb);replace F2:=ae ((aa F2).below hb);replace JX:=ae ((hb.block _ (lt_of_block (aa JX))).trans (aa JX));clear hb;have kx0:V3.cell? ⟨bx,0,none⟩=some (.int .i64 s1):=ag (aa JX) 0;have ux0:=ah (aa JX) 0;have kx1:V3.cell? ⟨bx,1,none⟩=some (.bool ek):=ag (aa JX) 1;have ux1:=ah (aa JX) 1;have kx2:V3.cell? ⟨bx,2,none⟩=some (.slice A1 l1.length c1):=ag (aa JX) 2;have ux2:=ah (aa JX) 2;have kx3:V3.cell? ⟨bx,3,none⟩=some (.int .i64 s2):=ag (aa JX) 3;have ux3:=ah (aa JX) 3;have kx4:V3.cell? ⟨bx,4,none⟩=some (.bool di):=ag (aa JX) 4;have ux4:=ah (aa JX) 4;have kx5:V3.cell? ⟨bx,5,none⟩=some (.slice A2 l2.length c2):=ag (aa JX) 5;have ux5:=ah (aa JX) 5;have qx:=lt_of_block (aa JX);go_wp2_with fail;refine((aa HNG) s1 ek A1 c1 l1 s2 di A2 c2 l2 _ (aa F1) (aa F2)).mono ?_
    rintro e V4 ⟨s3,Ck,A3,c3,l3,s4,Nh,A4,c4,l4,rfl,f3,f4,hb⟩;have F3:=ae f3;have F4:=ae f4;clear kx0 ux0 kx1 ux1 kx2 ux2 kx3 ux3 kx4 ux4 kx5 ux5 qx;replace NR:=ae ((hb.block _ (lt_of_block (aa NR))).trans (aa NR));replace HB:=bg (az HB.out hb);replace JX:=ae ((hb.block _ (lt_of_block (aa JX))).trans (aa JX));clear hb f3 f4 F1 F2;have kx0:V4.cell? ⟨bx,0,none⟩=some (.int .i64 s1):=ag (aa JX) 0;have ux0:=ah (aa JX) 0;have kx1:V4.cell? ⟨bx,1,none⟩=some (.bool ek):=ag (aa JX) 1;have ux1:=ah (aa JX) 1;have kx2:V4.cell? ⟨bx,2,none⟩=some (.slice A1 l1.length c1):=ag (aa JX) 2;have ux2:=ah (aa JX) 2;have kx3:V4.cell? ⟨bx,3,none⟩=some (.int .i64 s2):=ag (aa JX) 3;have ux3:=ah (aa JX) 3;have kx4:V4.cell? ⟨bx,4,none⟩=some (.bool di):=ag (aa JX) 4;have ux4:=ah (aa JX) 4;have kx5:V4.cell? ⟨bx,5,none⟩=some (.slice A2 l2.length c2):=ag (aa JX) 5;have ux5:=ah (aa JX) 5;have qx:=lt_of_block (aa JX);go_upto_region 7 with fail;have hg:=qg V4 bx (.int .i64 s3) (.bool Ck) (.slice A3 l3.length c3) (.int .i64 s4) (.bool Nh) (.slice A4 l4.length c4);have hblk:=blp (u0 := .int .i64 s3) (u1 := .bool Ck) (u2 := .slice A3 l3.length c3) (u3 := .int .i64 s4) (u4 := .bool Nh) (u5 := .slice A4 l4.length c4) (aa JX);have hjr:=(hg.block w.heap.size (lt_of_block (aa NR)) (fun e=>by injection e with e;omega)).trans (aa NR);replace F3:=ae ((aa F3).upto (aa JX) (Dl _ _ _ _ _ _ _ _ _ _) hg);replace F4:=ae ((aa F4).upto (aa JX) (Dl _ _ _ _ _ _ _ _ _ _) hg);replace HB:=bg (HB.out.grown hg HB.out.size (fun k hk=>by injection hk with hk;omega));clear kx0 ux0 kx1 ux1 kx2 ux2 kx3 ux3 kx4 ux4 kx5 ux5 qx;generalize ((((((V4.setCell ⟨bx,0,none⟩ (.int .i64 s3)).setCell ⟨bx,1,none⟩ (.bool Ck)).setCell ⟨bx,2,none⟩ (.slice A3 l3.length c3)).setCell ⟨bx,3,none⟩ (.int .i64 s4)).setCell ⟨bx,4,none⟩ (.bool Nh)).setCell ⟨bx,5,none⟩ (.slice A4 l4.length c4))=W5 at *;replace NR:=ae hjr;clear JX hg hjr;have kx0:W5.cell? ⟨bx,0,none⟩=some (.int .i64 s3):=ag hblk 0;have kx1:W5.cell? ⟨bx,1,none⟩=some (.bool Ck):=ag hblk 1;have kx2:W5.cell? ⟨bx,2,none⟩=some (.slice A3 l3.length c3):=ag hblk 2;have kx3:W5.cell? ⟨bx,3,none⟩=some (.int .i64 s4):=ag hblk 3;have kx4:W5.cell? ⟨bx,4,none⟩=some (.bool Nh):=ag hblk 4;have kx5:W5.cell? ⟨bx,5,none⟩=some (.slice A4 l4.length c4):=ag hblk 5;clear hblk;go_wp2_with fail;refine((aa HR) s3 Ck A3 c3 l3 s4 Nh A4 c4 l4 _ (aa F3) (aa F4)).mono ?_
    rintro e V9 ⟨rfl,hb⟩;replace NR:=ae ((hb.block _ (lt_of_block (aa NR))).trans (aa NR));replace HB:=bg (az HB.out hb);clear hb;have r0:V9.cell? ⟨w.heap.size,0,none⟩=some (.int .i64 0):=ag (aa NR) 0;have Jn:=ah (aa NR) 0;have r1:V9.cell? ⟨w.heap.size,1,none⟩=some (.int .i64 0):=ag (aa NR) 1;have Jm:=ah (aa NR) 1;have qr:=lt_of_block (aa NR);go_wp2_with fail;exact bodyPost_ret (v := .tuple #[.agg #[.int .i64 t.n,.int .i64 t.d],.int .i64 t.e]) (by simp[results,results24,go_sem,r0,r1,qr]) rfl
     ⟨rfl,HB.out.grown (qa _ _ _ _) HB.out.size (fun k hk=>by injection hk with hk;omega)⟩

theorem ayc (s:ByteArray) (w:Wq) (hT:yg w) (hs:s.size≤9223372036854775806) :
  Calls prog 24 #[.string s] w fun e w'=>ckz w (uh s.data.toList) e w':=by
 rw[amc]
 by_cases h:s.data.toList.head? = some 45
 ·
  rw[if_pos h];have hl:(⟨s.data.toList.tail.toArray⟩:ByteArray).size≤9223372036854775806:=by
   rw[← oq];show s.data.toList.tail.length≤_;rw[List.length_tail,oq];omega
  exact Vh s ⟨s.data.toList.tail.toArray⟩ true _ rfl w hT (fun W=>bfj s h W) (fun W hW=>bcw _ W hW hl)
 ·
  rw[if_neg h];exact Vh s s false _ rfl w hT (fun W=>aws s h W) (fun W hW=>bcw s W hW hs)


namespace Sb
theorem bpt (s:ByteArray) (c:UInt8) (w:Wq) (hs:s.size<4294967281) :
  Calls prog 208 #[.string s,.string ⟨#[c]⟩] w fun e w' =>
   e = .returned (.slice (some ⟨w.heap.size,0,none⟩) (Lib.countB s ⟨#[c]⟩+1) (Lib.countB s ⟨#[c]⟩+1))∧w'=w.alloc (.cells ((Lib.splitB ⟨#[c]⟩ 0 (Lib.countB s ⟨#[c]⟩) s).map Value.string).toArray 9):=by
 have h1:1≤(⟨#[c]⟩:ByteArray).size:=gu 1
 have hle:=bah ⟨#[c]⟩ h1 s.size s (gu _)
 have hlen:=Lib.splitB_all ⟨#[c]⟩ h1 0 _ s rfl
 have c0:=Any.strings_genSplit_core (P:=prog) lays221 kr s ⟨#[c]⟩ 0 (-1) (Lib.countB s ⟨#[c]⟩+1) w hs h1 (ug _)
  (fun x cs hx=>(strings_Index_one x c _).mono fun e w' ⟨he,hw⟩=>⟨he.trans (by
   show _=Ending.returned (Value.int .i64 (Lib.index x.data.toList [c]));rw[Lib.index_one]),hw⟩)
  ((strings_Count_one s c w).mono fun e w' ⟨he,hw⟩=>⟨he.trans (by
   show _=Ending.returned (Value.int .i64 ((Lib.count s.data.toList [c]:Nat):Int));rw[Lib.count_one];rfl),hw⟩) de de (by rw[if_pos de];omega)
 rw[ase,hlen]at c0
 have e2:Lib.cellsOf (Lib.splitB ⟨#[c]⟩ 0 (Lib.countB s ⟨#[c]⟩) s) (Lib.countB s ⟨#[c]⟩+1)=((Lib.splitB ⟨#[c]⟩ 0 (Lib.countB s ⟨#[c]⟩) s).map Value.string).toArray:=by rw[← hlen];exact Lib.cellsOf_full _
 rw[e2]at c0
 go_enter func208,ntmps208
 go_wp2_with (go_at_call 234;refine c0.mono ?_;rintro e w' ⟨rfl,hw⟩;rw[hw])
 go_ret
 exact⟨rfl,rfl⟩
example:Lib.splitB ⟨#[46]⟩ 0 (Lib.countB ⟨#[107,78,46,109]⟩ ⟨#[46]⟩) ⟨#[107,78,46,109]⟩=[⟨#[107,78]⟩,⟨#[109]⟩]:=by kernel_rfl
example:Lib.splitB ⟨#[46]⟩ 0 (Lib.countB ⟨#[115,50]⟩ ⟨#[46]⟩) ⟨#[115,50]⟩=[⟨#[115,50]⟩]:=by kernel_rfl

theorem La (b:Int) (w:Wq):Calls prog 235 #[.int .u8 b] w fun e w'=>e = .returned (.bool (su b))∧w'=w:=by
 obtain⟨v,hv⟩ : ∃ v,v=su b:=⟨_,rfl⟩
 rw[← hv]
 unfold su at hv
 have HV:=ae hv
 clear hv
 by_cases h1:97≤b<;>by_cases h2:b≤122<;>by_cases h3:65≤b<;>by_cases h4:b≤90
 all_goals
  have hv:=aa HV;clear HV;simp only[h1,h2,h3,h4,decide_true,decide_false,Bool.and_true,arx,ana,bas,Bool.or_true,Bool.or_false,Bool.true_or,Bool.false_or]at hv;subst hv
  go_enter func235,ntmps235
  go_wp2_with fail
  go_ret
  exact⟨rfl,rfl⟩
def Kl (n:ByteArray) (p:Int) (b:Bool):Wq→Vq→Prop:=ko [bz [.v (.string n),iv p],ax (.bool b)]
theorem Qw {n:ByteArray} {b:Bool}:Kl n p b w (.tuple #[.agg #[.string n,.int .i64 p],.bool b]) :=
 ⟨[_,_],rfl,_,_,rfl,⟨_,rfl,gy.v (atx _) (gy.v (xc _) rfl)⟩,_,_,rfl,rfl,rfl⟩
theorem awd (s:ByteArray) (hl : ∀ j (h:j<s.size),su (s[j].toNat:Int)=true) (h0:0<s.size) (hs:s.size≤1000000) (w:Wq) :
  Calls prog 209 #[.string s] w (gp (Kl s 1 true) w):=by
 have HL:=ae (fun W b=>La b W)
 have HH:=ae hl
 clear hl
 have z0:((s.size:Int)==0)=false:=oo.2 om
 go_enter func209,ntmps209
 go_wp2_with fail
 go_loop [4] (fun i => ∃ k:Nat,k≤s.size∧i = .int .i64 k) (fun i=>s.size-(intOf i).toNat)
 case atStart=>exact⟨0,ug _,rfl⟩
 case round =>
  obtain⟨k,hk,rfl⟩:=hrel
  by_cases hlt:k<s.size
  ·
   have e1:=(aa HH) k hlt
   go_wp2_with (go_at_call 235;refine((aa HL) _ _).mono ?_;rintro e w' ⟨rfl,rfl⟩;rw[e1])
   go_round
   case rel=>exact⟨k+1,by omega,by go_num⟩
   case measure=>simp[intOf];omega
  ·
   obtain rfl:k=s.size:=by omega
   go_wp2_with fail;exact bodyPost_ret (v := .tuple #[.agg #[.string s,.int .i64 1],.bool true]) (by simp[results,results209,go_sem]) rfl ⟨_,rfl,ic (df _ _) _,Qw⟩
end Sb

namespace Sb
def facC:List (ByteArray×Int)→List Vq
 | []=>[]
 | f::l => .string f.1 :: .int .i64 f.2::facC l
theorem Xi : ∀ l k:List (ByteArray×Int),facC (l++k)=facC l++facC k
 | [],_=>rfl
 | f::l,k=>by rw[Ut,facC,facC,Xi l k];rfl
theorem aqj : ∀ l:List (ByteArray×Int),(facC l).length=l.length*2
 | []=>rfl
 | f::l=>by rw[facC,Db,Db,aqj l,Db];omega
def Dz (w:Wq) (base:Nat) (v:Vq) (l:List (ByteArray×Int)):Prop:=w.ownsRow base 181 2 v l.length (facC l)
theorem Dz.nil (w:Wq) (base:Nat):Dz w base (.slice none 0 0) []:=bbe _ _ _ _
theorem Dz.ge {l:List (ByteArray×Int)} (h:Dz w base v l) : ∀ g,v.ownBlock=some g→base≤g:=fun g hg=>(h.lt g hg).1
theorem Dz.below {l:List (ByteArray×Int)} (h:Dz w base v l) (hb:Below w.heap.size w w'):Dz w' base v l:=by
 obtain⟨h1,h2|⟨g,cap,cur,e,h3,h4,h5⟩⟩:=h
 ·
  exact⟨h1,.inl h2⟩
 ·
  exact⟨h1,.inr ⟨g,cap,cur,e,h3,(hb.block _ (lt_of_block h4)).trans h4,h5⟩⟩
theorem Dz.ne {l:List (ByteArray×Int)} {cs:Array Vq} (h:Dz w base v l) (hb:w.heap[b]? = some (.cells cs 9 (0,0))):some b≠v.ownBlock:=by
 intro e
 obtain⟨_,⟨rfl,_⟩|⟨g,cap,cur,rfl,_,h4,_⟩⟩:=h
 ·
  cases e
 ·
  injection e with e;subst e;have h5:=hb.symm.trans h4;injection h5 with h5;injection h5 with _ h5 _;exact absurd h5 de
theorem bjg:(prog.info? 181).map (fun i=>(i.zero,i.size,i.bytes))=some (some (.agg #[.string ⟨#[]⟩,.int .i64 0]),2,24):=by kernel_rfl
theorem aqh {n:ByteArray} {b:Bool} {u:Vq} (h:Kl n p b w u):u = .tuple #[.agg #[.string n,.int .i64 p],.bool b]:=by
 obtain⟨vs,rfl,u1,r,rfl,⟨cs,rfl,h1⟩,u2,r2,rfl,h2,rfl⟩:=h
 obtain⟨r1,rfl,_,h3⟩:=gy.Jc h1
 obtain⟨r2,rfl,_,h4⟩:=gy.Jc h3
 cases h4
 have h2':u2 = .bool b:=h2
 subst h2'
 rfl
def aiw (w0:Wq) (l:List (ByteArray×Int)) (e:Ending) (w':Wq):Prop := ∃ v',e = .returned (.tuple #[v',.bool true])∧Dz w' w0.heap.size v' l∧Below w0.heap.size w0 w'
theorem axj {n:ByteArray} {T:TypeId} (hb:b=w.heap.size) : ∀ (j:Nat) u,[Value.string n,.int .i64 p][j]? = some u→(w.alloc (.cells #[.string n,.int .i64 p] T)).cell? ((⟨b,0,none⟩:Addr).add j)=some u:=by
 intro j u h
 subst hb
 have h1:=ag (heap_alloc_new w (.cells #[.string n,.int .i64 p] T)) j
 rw[show(⟨w.heap.size,0,none⟩:Addr).add j=⟨w.heap.size,j,none⟩by(simp[Addr.add];try omega),h1]
 simpa using h
theorem ane {n:ByteArray} : ∀ u∈[Value.string n,.int .i64 p],u.oneCell'=true:=by
 intro u hu
 simp only[yx,aez,or_false]at hu
 rcases hu with rfl|rfl<;>rfl
theorem awg (s:ByteArray) (ps:List ByteArray) (fs:List (ByteArray×Int)) (l:List (ByteArray×Int)) (sg:Int) (v:Vq) (w0 w:Wq)
  (hsp:Lib.splitB ⟨#[46]⟩ 0 (Lib.countB s ⟨#[46]⟩) s=ps) (hs:s.size≤600) (hlen:fs.length=ps.length) (hl:l.length≤1000000)
  (hrf : ∀ (k:Nat) (p:ByteArray) (f:ByteArray×Int),ps[k]? = some p→fs[k]? = some f → ∀ W,Calls prog 209 #[.string p] W (gp (Kl f.1 f.2 true) W))
  (hown:Dz w w0.heap.size v l) (hb0:Below w0.heap.size w0 w) :
  Calls prog 170 #[v,.string s,.int .i64 sg] w fun e w'=>aiw w0 (l++fs.map (fun(f:ByteArray×Int)=>(f.1,wrap64 (f.2*sg)))) e w':=by
 have hcount:Lib.countB s ⟨#[46]⟩+1=ps.length:=by rw[← hsp];exact(Lib.splitB_all ⟨#[46]⟩ (gu 1) 0 _ s rfl).symm
 have hps:ps.length≤601:=by
  have:=bah ⟨#[46]⟩ (gu 1) s.size s (gu _);omega
 have HS:=ae (bpt s 46 w om)
 rw[hsp,hcount]at HS
 obtain⟨gs,hgs⟩ : ∃ gs,gs=fs.map (fun(f:ByteArray×Int)=>(f.1,wrap64 (f.2*sg))):=⟨_,rfl⟩
 have hg : ∀ (k:Nat) (f:ByteArray×Int),fs[k]? = some f→gs[k]? = some (f.1,wrap64 (f.2*sg)):=fun k f hf=>by rw[hgs,aad,hf];rfl
 have hgl:gs.length=ps.length:=by rw[hgs,Rm,hlen]
 rw[← hgs]
 obtain⟨n,hn⟩ : ∃ n,n=ps.length:=⟨_,rfl⟩
 rw[← hn]at HS hgl hlen hps
 have HRF:=ae hrf
 have HG:=ae (And.intro hg (And.intro hgl hlen))
 have HN:=ae hn
 obtain⟨i0,hi0,hz0,hz1,hz2⟩:=info_parts bjg
 clear hsp hcount hrf hgs hg hgl hlen hn hs
 go_enter func170,ntmps170
 go_wp2_with fail
 refine(aa HS).mono ?_
 rintro e W1 ⟨rfl,hW1⟩
 have hP:W1.heap[w.heap.size]? = some (.cells (ps.map Value.string).toArray 9 (0,0)):=by rw[hW1];exact heap_alloc_new w _
 have hbW:Below w.heap.size w W1:=by rw[hW1];exact ic (df _ _) _
 replace hown:=hown.below hbW
 replace hb0:=az hb0 hbW
 obtain⟨pb,hpb⟩ : ∃ pb,pb=w.heap.size:=⟨_,rfl⟩
 rw[← hpb]at hP
 rw[← hpb]
 clear hW1 hbW HS hpb
 try dsimp only
 go_wp2_with fail
 go_loopw [0,15] (fun lv kv wr => ∃ k:Nat,k≤n∧kv = .int .i64 ((k:Nat):Int)∧Dz wr w0.heap.size lv (l++gs.take k)∧wr.heap[pb]? = some (.cells (ps.map Value.string).toArray 9 (0,0))∧Below w0.heap.size w0 wr) (fun _ kv _=>n-(intOf kv).toNat)
 case atStart=>exact⟨0,ug _,rfl,by simpa using hown,hP,hb0⟩
 case round =>
  clear hown hP hb0;obtain⟨k,hk,rfl,hown,hP,hb0⟩:=hrel
  by_cases hlt:k<n
  ·
   obtain⟨p,hp⟩ : ∃ p,ps[k]? = some p:=⟨_,Cj (by have:=aa HN;omega)⟩
   obtain⟨f,hf⟩ : ∃ f,fs[k]? = some f:=⟨_,Cj (by have:=(aa HG).2.2;omega)⟩
   have Ki:=ae ((aa HG).1 k f hf);have HR:=ae ((aa HRF) k p f hp hf);have hc:wr.cell? ⟨pb,k,none⟩=some (.string p):=by rw[ag hP];simp[hp]
   clear hp hf;go_wp2_with fail;refine((aa HR) _).mono ?_
   rintro e W2 ⟨u,rfl,hb2,hu⟩;obtain rfl:=aqh hu;replace hown:=hown.below hb2;replace hP:=(hb2.block _ (lt_of_block hP)).trans hP;replace hb0:=az hb0 hb2;clear hu hb2 hc
   try dsimp only
   go_wp2_with (first|(at_builtin;go_loud (refine wpList_append_own _ rfl _ _ 127 rfl w0.heap.size 181 i0 (.agg #[.string ⟨#[]⟩,.int .i64 0]) 2 24 underlying127 hi0 hz0 hz1 hz2 rfl de _ _ _ rfl ((hown.alloc _).alloc _) ⟨_,0,none⟩ 1 1 [.string f.1,.int .i64 (wrap64 (f.2*sg))] rfl rfl (axj (by simp only[yw])) ane (by unfold maxLen;simp;omega) (by simp;omega) (by simp;have:=hb0.size;omega) ?_;intro v' w1 hown1 hgrow1 _))|fail)
   have hbX:Below W2.heap.size W2 ((W2.alloc (.cells #[.string f.1,.int .i64 (wrap64 (f.2*sg))] 181)).alloc (.cells #[.string f.1,.int .i64 (wrap64 (f.2*sg))] 181)):=ic (ic (df _ _) _) _;have hne:=hown.ne hP;have hb1:=az hb0 hbX;have ht:gs.take (k+1)=gs.take k++[(f.1,wrap64 (f.2*sg))]:=by rw[Pk,aa Ki];rfl
   refine⟨⟨k+1,by omega,by push_cast;rfl,?_,?_,hb1.grown hgrow1 hb1.size hown.ge⟩,by simp[intOf];omega⟩
   ·
    rw[ht,← Lm];unfold Dz;rw[Xi (l++gs.take k),show(l++gs.take k++[(f.1,wrap64 (f.2*sg))]).length=(l++gs.take k).length+1 from Bj];exact hown1
   ·
    have hlt1:pb<W2.heap.size:=lt_of_block hP;exact(hgrow1.block pb (zh hlt1 hbX.size) hne).trans ((hbX.block pb hlt1).trans hP)
  ·
   obtain rfl:k=n:=by omega
   have htk:gs.take k=gs:=Fb (by have:=(aa HG).2.1;omega);rw[htk]at hown;clear htk hP;go_wp2_with fail
   go_ret2
   exact⟨_,rfl,hown,hb0⟩
def Qy (W:Wq) (g i:Nat) (nm:ByteArray) (p:Int):Prop:=W.cell? ⟨g,2*i,none⟩=some (.string nm)∧W.cell? ⟨g,2*i+1,none⟩=some (.int .i64 p)
theorem Qy.below {B:Nat} (h:Qy W g i nm p) (hb:Below B W W') (hg:g<B):Qy W' g i nm p:=by
 have e:=hb.block g hg
 exact⟨(Re e).trans h.1,(Re e).trans h.2⟩
theorem Qy.lt (h:Qy W g i nm p):g<W.heap.size:=World.block_lt_of_cell? W _ h.1
def Pj (W:Wq) (ao:Option Addr) (fs:List (ByteArray×Int)):Prop := ∀ k f,fs[k]? = some f → ∃ g,ao=some ⟨g,0,none⟩∧Qy W g k f.1 f.2
theorem Pj.below (h:Pj W ao fs) (hb:il W W'):Pj W' ao fs:=fun k f hf=>by
 obtain⟨g,e,h1⟩:=h k f hf
 exact⟨g,e,h1.below hb h1.lt⟩
def zz (fs:List (ByteArray×Int)):Wq→Vq→Prop:=fun W v => ∃ ao c,v = .slice ao fs.length c∧Pj W ao fs
theorem Bp (fs:List (ByteArray×Int)):yu il (zz fs):=by
 rintro w w' v hb ⟨g,c,rfl,h⟩
 exact⟨g,c,rfl,h.below hb⟩
theorem aqk : ∀ (l:List (ByteArray×Int)) (k:Nat) (f:ByteArray×Int),l[k]? = some f→(facC l)[2*k]? = some (.string f.1)∧(facC l)[2*k+1]? = some (.int .i64 f.2)
 | [],k,f,h=>by simp at h
 | a::l,0,f,h=>by
  simp only[List.getElem?_cons_zero,bbh]at h;subst h;exact⟨rfl,rfl⟩
 | a::l,k+1,f,h=>by
  have h1:=aqk l k f (by simpa using h);rw[facC,show 2*(k+1)=2*k+1+1 by omega,show 2*k+1+1+1=(2*k+1)+1+1 by omega];exact⟨by simpa using h1.1,by simpa using h1.2⟩
theorem Dz.aib {l:List (ByteArray×Int)} (h:Dz W base v l):zz l W v:=by
 have h0:=h
 obtain⟨_,⟨rfl,h2⟩|⟨g,cap,cur,rfl,h3⟩⟩:=h
 ·
  obtain rfl:=Yj.1 h2;exact⟨none,0,rfl,fun k f hf=>by simp at hf⟩
 ·
  refine⟨_,cap,rfl,fun k f hf=>⟨g,rfl,?_⟩⟩
  have hc:=bbf (g:=g) h0 rfl;obtain⟨h4,h5⟩:=aqk l k f hf;have e : ∀ j,(⟨g,0,none⟩:Addr).add j=⟨g,j,none⟩:=fun j=>by(simp[Addr.add];try omega)
  have h6:=hc _ _ h4;have h7:=hc _ _ h5;rw[e]at h6 h7;exact⟨h6,h7⟩
theorem biv (s a b:ByteArray) (l1 l2:List (ByteArray×Int)) (w:Wq)
  (hcut : ∀ W,Calls prog 155 #[.string s,.string ⟨#[47]⟩] W fun e w'=>e = .returned (.tuple #[.string a,.string b,.bool true])∧Below W.heap.size W w') (ha:(a.toList==[49])=false)
  (h1 : ∀ w0 W v,Dz W w0.heap.size v []→Below w0.heap.size w0 W→Calls prog 170 #[v,.string a,.int .i64 1] W fun e w'=>aiw w0 l1 e w')
  (h2 : ∀ w0 W v,Dz W w0.heap.size v l1→Below w0.heap.size w0 W→Calls prog 170 #[v,.string b,.int .i64 (-1)] W fun e w'=>aiw w0 l2 e w') :
  Calls prog 115 #[.string s] w (gp (ko [zz l2,ax (.bool true)]) w):=by
 have HC:=ae hcut
 have H1:=ae h1
 have H2:=ae h2
 clear hcut h1 h2
 go_enter func115,ntmps115
 go_wp2_with fail
 refine((aa HC) _).mono ?_
 rintro e W1 ⟨rfl,hb⟩
 try dsimp only
 go_wp2_with fail
 refine((aa H1) w W1 _ (Dz.nil _ _) hb).mono ?_
 rintro e W2 ⟨v1,rfl,hf1,hb1⟩
 clear hb
 try dsimp only
 go_wp2_with fail
 refine((aa H2) w W2 _ hf1 hb1).mono ?_
 rintro e W3 ⟨v2,rfl,hf2,hb2⟩
 clear hb1 hf1
 try dsimp only
 go_wp2_with fail
 go_ret2
 exact⟨_,rfl,hb2,[_,_],rfl,_,_,rfl,hf2.aib,_,_,rfl,rfl,rfl⟩
theorem bwc (s a b:ByteArray) (l1:List (ByteArray×Int)) (w:Wq)
  (hcut : ∀ W,Calls prog 155 #[.string s,.string ⟨#[47]⟩] W fun e w'=>e = .returned (.tuple #[.string a,.string b,.bool false])∧Below W.heap.size W w') (ha:(a.toList==[49])=false)
  (h1 : ∀ w0 W v,Dz W w0.heap.size v []→Below w0.heap.size w0 W→Calls prog 170 #[v,.string a,.int .i64 1] W fun e w'=>aiw w0 l1 e w') :
  Calls prog 115 #[.string s] w (gp (ko [zz l1,ax (.bool true)]) w):=by
 have HC:=ae hcut
 have H1:=ae h1
 clear hcut h1
 go_enter func115,ntmps115
 go_wp2_with fail
 refine((aa HC) _).mono ?_
 rintro e W1 ⟨rfl,hb⟩
 try dsimp only
 go_wp2_with fail
 refine((aa H1) w W1 _ (Dz.nil _ _) hb).mono ?_
 rintro e W2 ⟨v1,rfl,hf1,hb1⟩
 clear hb
 try dsimp only
 go_wp2_with fail
 go_ret2
 exact⟨_,rfl,hb1,[_,_],rfl,_,_,rfl,hf1.aib,_,_,rfl,rfl,rfl⟩
theorem bwe (s a b:ByteArray) (l1:List (ByteArray×Int)) (w:Wq)
  (hcut : ∀ W,Calls prog 155 #[.string s,.string ⟨#[47]⟩] W fun e w'=>e = .returned (.tuple #[.string a,.string b,.bool true])∧Below W.heap.size W w') (ha:(a.toList==[49])=true)
  (h1 : ∀ w0 W v,Dz W w0.heap.size v []→Below w0.heap.size w0 W→Calls prog 170 #[v,.string b,.int .i64 (-1)] W fun e w'=>aiw w0 l1 e w') :
  Calls prog 115 #[.string s] w (gp (ko [zz l1,ax (.bool true)]) w):=by
 have HC:=ae hcut
 have H1:=ae h1
 clear hcut h1
 go_enter func115,ntmps115
 go_wp2_with fail
 refine((aa HC) _).mono ?_
 rintro e W1 ⟨rfl,hb⟩
 try dsimp only
 go_wp2_with fail
 refine((aa H1) w W1 _ (Dz.nil _ _) hb).mono ?_
 rintro e W2 ⟨v1,rfl,hf1,hb1⟩
 clear hb
 try dsimp only
 go_wp2_with fail
 go_ret2
 exact⟨_,rfl,hb1,[_,_],rfl,_,_,rfl,hf1.aib,_,_,rfl,rfl,rfl⟩
theorem bri (s a b:ByteArray) (l1:List (ByteArray×Int)) (w:Wq)
  (hcut : ∀ W,Calls prog 155 #[.string s,.string ⟨#[47]⟩] W fun e w'=>e = .returned (.tuple #[.string a,.string b,.bool false])∧Below W.heap.size W w') (ha:(a.toList==[49])=true) (hl:l1=[]) :
  Calls prog 115 #[.string s] w (gp (ko [zz l1,ax (.bool true)]) w):=by
 have HC:=ae hcut
 subst hl
 clear hcut
 go_enter func115,ntmps115
 go_wp2_with fail
 refine((aa HC) _).mono ?_
 rintro e W1 ⟨rfl,hb⟩
 try dsimp only
 go_wp2_with fail
 go_ret2
 exact⟨_,rfl,hb,[_,_],rfl,_,_,rfl,(Dz.nil W1 0).aib,_,_,rfl,rfl,rfl⟩
end Sb

namespace Sb
variable {Q:Exit→Act→Wq→Prop} {l:List Oper} {n:Nat} {T:Nat→Wq→Vq→Prop} {G:Wq→Prop} {al:List Nat} {a0:Act} {k d:Nat} {ty:TypeId} {pos:String} {af:Array Edge} {gd:Option (Nat×Bool)}
theorem chy:Ie prog 181 2:=by
 intro ρ w d x b off us ty pos af gd hl hc hx
 match us,hl with
 | [u0,u1],_ =>
 have k0:w.cell? ⟨b,off,none⟩=some u0:=hc 0 om
 have k1:w.cell? ⟨b,off+1,none⟩=some u1:=hc 1 om
 clear hc
 simp only[execOp,hx]
 simp[go_sem,k0,k1]
theorem avw:Cw prog 181 2:=by
 intro ρ w d p x b off cs TB us ty pos af gd hl hu hb ho hp hx
 match us,hl with
 | [u0,u1],_ =>
 have o0:=hu u0 mi
 have o1:=hu u1 mi
 have f0:w.frozen? ⟨b,off,none⟩=false:=ah hb _
 have f1:w.frozen? ⟨b,off+1,none⟩=false:=ah hb _
 obtain⟨c0,k0⟩ : ∃ c,w.cell? ⟨b,off,none⟩=some c:=jl hb om
 obtain⟨c1,k1⟩ : ∃ c,w.cell? ⟨b,off+1,none⟩=some c:=jl hb om
 have hlt:=lt_of_block hb
 clear hb ho hu
 simp only[execOp,hp,hx,setM]
 simp[go_sem,hlt,run_store _ _ _ _ _ o0,o0,run_store _ _ _ _ _ o1,o1,k0,k1,f0,f1]
theorem bmk:Np prog 181 [.string ⟨#[]⟩,.int .i64 0]:=by
 intro ρ w d ty pos af gd
 simp only[execOp]
 simp[go_sem]
theorem cfx:Ee prog (fun x => .fieldAddr 181 x 0) 0:=by
 intro a w d x b off ty pos af gd hx
 have hc : ∀ v,a.eval (.const v)=v:=fun _=>rfl
 simp only[execOp,hx,hc]
 simp[go_sem]
theorem akr (hal:al.contains k=false) (hx:cu l n T a0 k x (ax (.pointer (some ⟨b,off,none⟩)))) (ho:off+0=off') (hT:T k=ax (.pointer (some ⟨b,off',none⟩))) :
  ib prog Q l n T G il al a0 k { dst:=some d,op := .fieldAddr 181 x 0,type:=ty,pos:=pos,after:=af,guard:=gd}:=by
 exact Em (P:=prog) (o:=fun x => .fieldAddr 181 x 0) cfx hal hx ho hT
theorem cfw:Ee prog (fun x => .fieldAddr 181 x 1) 1:=by
 intro a w d x b off ty pos af gd hx
 have hc : ∀ v,a.eval (.const v)=v:=fun _=>rfl
 simp only[execOp,hx,hc]
 simp[go_sem]
theorem axs (hal:al.contains k=false) (hx:cu l n T a0 k x (ax (.pointer (some ⟨b,off,none⟩)))) (ho:off+1=off') (hT:T k=ax (.pointer (some ⟨b,off',none⟩))) :
  ib prog Q l n T G il al a0 k { dst:=some d,op := .fieldAddr 181 x 1,type:=ty,pos:=pos,after:=af,guard:=gd}:=by
 exact Em (P:=prog) (o:=fun x => .fieldAddr 181 x 1) cfw hal hx ho hT
theorem bls {d:Option Tmp} (h1:ρ x = .int .i64 p) (h2:ρ y = .int .i64 q) :
  (execOp ρ { dst:=d,op := .build 23 #[(0,x),(1,y)],type:=ty,pos:=pos,after:=af,guard:=gd}).run prog w = .ok (.value (.agg #[.int .i64 p,.int .i64 q])) w:=by
 simp only[execOp]
 simp[go_sem,h1,h2]
 try rfl
theorem apg (hal:al.contains k=false) (hx:cu l n T a0 k x (ax (.int .i64 p))) (hy:cu l n T a0 k y (ax (.int .i64 q))) (hT:T k=bz [.v (.int .i64 p),.v (.int .i64 q)]) :
  ib prog Q l n T G il al a0 k { dst:=some d,op := .build 23 #[(0,x),(1,y)],type:=ty,pos:=pos,after:=af,guard:=gd}:=by
 intro a w hG hO hN
 exact wvz (bls (hx a w hO hN) (hy a w hO hN)) hG hal (by rw[hT];exact Gw _ _ _)
abbrev zF:List lg:=[.v (.string ⟨#[]⟩),iv 0]
theorem abg:bbc prog 9:=by
 intro ρ w d x b off u ty pos af gd hc hx
 simp only[execOp,hx]
 simp[go_sem,hc]
theorem bqe {A:Option Addr} (hal:al.contains k=false) (hx:cu l n T a0 k x (ax (.slice A m c))) (hT:T k=ax (.int .i64 m)) :
  ib prog Q l n T G il al a0 k { dst:=some d,op := .call { callee := .builtin .len,args:=#[x],argTypes:=#[127]},type:=ty,pos:=pos,after:=af,guard:=gd}:=by
 intro a w hG hO hN
 have h:a.eval x = .slice A m c:=hx a w hO hN
 have hr:(execOp a.eval { dst:=some d,op := .call { callee := .builtin .len,args:=#[x],argTypes:=#[127]},type:=ty,pos:=pos,after:=af,guard:=gd}).run prog w = .ok (.value (.int .i64 m)) w:=by
  simp only[execOp,resolve,invoke,h,Rk,Gr,Rl];simp[go_sem,h,Builtin.len_]
 exact wvz hr hG hal (by rw[hT];rfl)
theorem bcn (hal:al.contains k=false) (hx:cu l n T a0 k x (ax (.slice (some ⟨b,0,none⟩) m c))) (hy:cu l n T a0 k y (ax (.int .i64 (i:Int)))) (hi:i<m) (hT:T k=ax (.pointer (some ⟨b,2*i,none⟩))) :
  ib prog Q l n T G il al a0 k { dst:=some d,op := .indexAddr 127 x y,type:=ty,pos:=pos,after:=af,guard:=gd}:=by
 intro a w hG hO hN
 have h1:a.eval x = .slice (some ⟨b,0,none⟩) m c:=hx a w hO hN
 have h2:a.eval y = .int .i64 (i:Int):=hy a w hO hN
 have hr:(execOp a.eval { dst:=some d,op := .indexAddr 127 x y,type:=ty,pos:=pos,after:=af,guard:=gd}).run prog w = .ok (.value (.pointer (some ⟨b,2*i,none⟩))) w:=by
  simp only[execOp,h1,h2];simp[go_sem,hi,og]
 exact wvz hr hG hal (by rw[hT];rfl)
theorem avz (hb : ∀ W,G W→Qy W b i nm p) (hal:al.contains k=false) (hx:cu l n T a0 k x (ax (.pointer (some ⟨b,2*i,none⟩)))) (hT:T k=bz [.v (.string nm),iv p]) :
  ib prog Q l n T G il al a0 k { dst:=some d,op := .load 181 x,type:=ty,pos:=pos,after:=af,guard:=gd}:=by
 intro a w hG hO hN
 obtain⟨h1,h2⟩:=hb w hG
 have hr:=chy a.eval w (some d) x b (2*i) [.string nm,.int .i64 p] ty pos af gd rfl (fun j hj=>by
  have hc:j=0∨j=1:=by omega
  rcases hc with rfl|rfl
  ·
   exact h1
  ·
   exact h2) (hx a w hO hN)
 exact wvz hr hG hal (by rw[hT];exact⟨_,rfl,gy.v (atx _) (gy.v (xc _) rfl)⟩)
theorem Cm.setM {T:TypeId} {ls:List lg} {us:List Vq} (h:Cm W r L) (hb:zn W b T ls):Cm (setM W b off us) r L:=by
 obtain⟨cs,h1,_⟩:=hb
 have hne:some r≠some b:=fun e=>by
  injection e with e;subst e;have h2:W.heap[r]? = _:=h;rw[h1]at h2
  cases h2
 exact((Al b us off W W (wy _ _)).block r (lt_of_block h) hne).trans h
theorem bpj {p:Operand} {xs ys:List yz} {pre old new post:List lg}
  (hS:Cw P TL m) (hp:a.eval p = .pointer (some ⟨b,off,none⟩)) (hv:bz new w (a.eval x)) (hO:Own w0 (xs++(b,TB,pre++(old++post))::ys) w) (hm:ry new=m) (hl:ry new=ry old) (ho:off=ry pre)
  (hk : ∀ w',Own w0 (xs++(b,TB,pre++(new++post))::ys) w'→(∀ ks u,bz ks w u→bz ks w' u)→(∀ r L,Cm w r L→Cm w' r L)→wpList P ops Q rest a w') :
  wpList P ops Q ({ dst:=none,op := .store TL p x,type:=ty,pos:=pos,after:=af,guard:=none}::rest) a w:=by
 obtain⟨us,e,hu⟩:=hv
 have hbx:=hO.box b TB _ (Ht _ Ah)
 obtain⟨hge,cs,hb,hls⟩:=hbx
 have hr:=hS a.eval w none p x b off cs TB us ty pos af none (by rw[hu.len,hm]) (fun u h=>(hu.noW u h).2.1) hb (by
  have h1:=hls.len;obtain⟨c,cd,rfl,k1,k2⟩:=hls.cut;obtain⟨o,d,rfl,k3,k4⟩:=k2.cut;have e1:=k1.len;have e3:=k3.len;simp only[Bj];omega) hp e
 unfold wpList
 rw[if_pos (by simp[Region.wanted])]
 refine .inl ?_
 unfold Oper.wp
 rw[hr]
 exact hk _ (hO.set hu hl ho) (fun ks u h=>abk ⟨cs,hb,hls⟩ h) (fun r L h=>h.setM ⟨cs,hb,hls⟩)
theorem Ny {p:Operand} {bs:List yz} (hO:Own w0 bs w) (i:Nat) (pre old new post:List lg)
  (hi:bs[i]? = some (b,TB,pre++(old++post))) (hS:Cw P TL m) (hp:a.eval p = .pointer (some ⟨b,off,none⟩)) (hv:bz new w (a.eval x)) (hm:ry new=m) (hl:ry new=ry old) (ho:off=ry pre)
  (hk : ∀ w',Own w0 (bs.set i (b,TB,pre++(new++post))) w'→(∀ ks u,bz ks w u→bz ks w' u)→(∀ r L,Cm w r L→Cm w' r L)→wpList P ops Q rest a w') :
  wpList P ops Q ({ dst:=none,op := .store TL p x,type:=ty,pos:=pos,after:=af,guard:=none}::rest) a w:=by
 obtain⟨hlt,he⟩:=agj.1 hi
 have hbs:bs=bs.take i++(b,TB,pre++(old++post))::bs.drop (i+1):=by
  rw[← he,← Si hlt,Lu]
 have hset:bs.set i (b,TB,pre++(new++post))=bs.take i++(b,TB,pre++(new++post))::bs.drop (i+1):=aey .. |>.trans (if_pos hlt)
 rw[hset]at hk
 rw[hbs]at hO
 exact bpj hS hp hv hO hm hl ho hk
theorem Own.tl {e:yz} {bs:List yz} (h:Own w (e::bs) W):Own w bs W:=⟨h.bel,(Ri.1 (by simpa using h.nd)).2,fun b T ls hm=>h.box b T ls (Fw _ hm)⟩
structure cbp (w:Wq) (g k:Nat) (nm:ByteArray) (p:Int) (f:Nat→Int) (x:Rat) (u:Nat→Int) (y:Rat) (q:Nat→Int) (z:Rat) (f':Nat→Int) (x':Rat):Prop where
 at_:Qy w g k nm p
 find : ∀ W r,yg W→Cm W r Co→Calls prog 121 #[.map (some r),.string nm] W (gp (ko [bz [.k (eK u),.q y],ax (.bool true)]) W)
 pow : ∀ W v0,yg W→bz [.k (eK u),.q y] W v0→Calls prog 104 #[v0,.int .i64 p] W (gp (bz [.k (eK q),.q z]) W)
 tim : ∀ W v0 v1,yg W→bz [.k (eK f),.q x] W v0→bz [.k (eK q),.q z] W v1→Calls prog 119 #[v0,v1] W (gp (bz [.k (eK f'),.q x']) W)
def Xz (w:Wq) (g k:Nat) (nm:ByteArray) (p:Int) (f:Nat→Int) (x:Rat) (f':Nat→Int) (x':Rat):Prop := ∃ u y q z,cbp w g k nm p f x u y q z f' x'
theorem Xz.parts {x:Rat} {x':Rat} (h:Hid (Xz w g k nm p f x f' x')) : ∃ u y q z,Hid (cbp w g k nm p f x u y q z f' x'):=by
 obtain⟨u,y,q,z,h⟩:=aa h
 exact⟨u,y,q,z,ae h⟩
theorem aye {F:Nat→Nat→Int} {X:Nat→Rat} (w:Wq) (hT:yg w) (hn:n≤1000000) (hF0:F 0=z7) (hX0:jw 1 1=X 0) (ok:qi 1 1)
  (hh : ∀ k,k<n → ∃ g,ao=some ⟨g,0,none⟩ ∧ ∃ nm p,Xz w g k nm p (F k) (X k) (F (k+1)) (X (k+1))) :
  Calls prog 117 #[.slice ao n c] w (gp (ko [bz [.k (eK (F n)),.q (X n)],ax (.bool true)]) w):=by
 have HT:=ae hT
 have HN:=ae hn
 have HF0:=ae hF0
 have HX0:=ae hX0
 have Mw:=ae ok
 have HH:=ae hh
 clear hT hn hF0 hX0 ok hh
 go_enter func117,ntmps117
 go_upto_region 1 with fail
 have hO:=(Own.push (T:=118) (ls:=zM) (Own.nil w) (gy.vs w [.int .i64 0,.int .i64 0,.int .i64 0,.int .i64 0,.int .i64 0,.int .i64 0,.int .i64 0,.int .i64 0,.bool false,.slice none 0 0,.int .i64 0,.bool false,.slice none 0 0] rfl) (w.heap.size) rfl)
 generalize w.alloc (.cells #[.int .i64 0,.int .i64 0,.int .i64 0,.int .i64 0,.int .i64 0,.int .i64 0,.int .i64 0,.int .i64 0,.bool false,.slice none 0 0,.int .i64 0,.bool false,.slice none 0 0] 118)=W0 at *
 have HO:=ae hO
 clear hO
 refine yc 2 37 (ui [aeo Co,aeo Co]) (iw w _ W0) il [] kr rfl (qm.pick ⟨Wx,Wx,trivial⟩) (iw.begin (aa HO))
  (au (Uc func120 kr rfl iw.step  (fun W  hG  => aif W))
  (au (zu rfl (aT 0))
  ai)) ?_
 intro v1 V1 hG1 hv1 hne1
 simp only[ay,Act.put,tA]
 obtain⟨mr,em,hm⟩:=(show aeo Co V1 (v1 1)from hv1 1 de)
 simp only[em]
 have xg:=ae hm
 clear hm
 replace HO:=ae hG1.1
 clear hG1 hv1 hne1
 go_upto_region 2 with fail
 refine fw 3 [_,_,_] [2] HO (au (apg rfl (fe _) (fe _) rfl) (au (sc1 func118 (aT 0) (fun W v0 hG h0=>(aa HX0) ▸ auu (aa Mw) W _ h0)) (Am Xv ai))) ?_
 intro v2 V2 hG2 hv2 hne2
 obtain⟨Iq,e2,Mf,hz2⟩:=(show qw 118 zM V1.heap.size V2 (v2 2)from hv2 2 de)
 simp only[ay,Act.put,tA,e2]
 have hO:=hG2.1
 replace xg:=ae ((aa xg).below hG2.2)
 replace hO:=Own.add (aa HO) hG2.2 Mf hz2
 clear Mf hz2
 refine Ny hO 0 [] zM [.k (eK z7),.q (X 0)] [] rfl Bc rfl (show bz [.k (eK z7),.q (X 0)] V2 (v2 1)from hv2 1 de) rfl rfl rfl ?_
 intro Oy rf hk0 hm0
 replace xg:=ae (hm0 _ _ (aa xg))
 clear hm0
 replace hO:=rf
 clear rf
 replace HO:=ae hO
 clear hO hG2 hv2 hne2 hk0
 try clear e2
 go_upto_region 3 with fail
 refine fw 3 [_,_,_] [] HO (dh aF (au (bqe rfl (aT 0) rfl) (dh (fe _) ai))) ?_
 intro v3 V3 hG3 hv3 ji
 simp only[ay,Act.put,tA,show v3 0 = .slice ao n c from hv3 0 de,show v3 1 = .int .i64 n from hv3 1 de,exv (hv3 2 de)]
 have hO:=hG3.1
 replace xg:=ae ((aa xg).below hG3.2)
 replace HO:=ae hO
 clear hO hG3 hv3 ji
 have HOM:=ae (And.intro (aa HO) (aa xg))
 clear HO xg
 go_wp2_with fail
 go_loopw [15] (fun vk wr => ∃ k:Nat,k≤n∧vk = .int .i64 ((k:Nat):Int)∧Hid (Own w [(Iq,118,[.k (eK (F k)),.q (X k)]),(w.heap.size,118,zM)] wr∧Cm wr mr Co)) (fun vk _=>n-(intOf vk).toNat)
 case atStart=>exact⟨0,by omega,rfl,by rw[aa HF0];exact HOM⟩
 case round =>
  clear HOM;obtain⟨k,hk,rfl,HOM⟩:=hrel;have HK:=ae hk;clear hk;have HO:=ae (aa HOM).1;have xg:=ae (aa HOM).2;clear HOM
  by_cases g1:(k:Int)<(n:Int)
  ·
   have d1:decide ((k:Int)<(n:Int))=true:=dm g1;have qp:=ae (show k<n by omega);obtain⟨g,rfl,nm,p,HS⟩ : ∃ g,ao=some ⟨g,0,none⟩ ∧ ∃ nm p,Hid (Xz w g k nm p (F k) (X k) (F (k+1)) (X (k+1))):=by
    obtain⟨g,e,nm,p,h⟩:=(aa HH) k (aa qp);exact⟨g,e,nm,p,ae h⟩
   obtain⟨u,y,q,z,HS⟩:=Xz.parts HS;go_upto_region 4 with fail;refine fw 1 [_] [] HO (au (wu rfl aF aF rfl d1) ai) ?_
   intro v4 V4 hG4 hv4 ma;simp only[ay,Act.put,tA,exv (hv4 0 de)];have hO:=hG4.1;replace xg:=ae ((aa xg).below hG4.2);replace HO:=ae hO;clear hO hG4 hv4 ma;clear d1 g1;go_upto_region 5 with fail;refine fw 3 [_,_,_] [2] HO (au (bcn (i:=k) (m:=n) (c:=c) rfl aF aF (aa qp) rfl) (au (avz (i:=k) (fun W h=>(aa HS).at_.below h.1.bel (aa HS).at_.lt) rfl (aT 0) rfl) (Am bmk ai))) ?_
   intro v5 V5 mo hv5 hne5;obtain⟨aqm,e2,Mf,hz2⟩:=(show qw 181 zF V4.heap.size V5 (v5 2)from hv5 2 de)
   simp only[ay,Act.put,tA,e2];have hO:=mo.1;replace xg:=ae ((aa xg).below mo.2);replace hO:=Own.add (aa HO) mo.2 Mf hz2;clear Mf hz2;refine Ny hO 0 [] zF [.v (.string nm),iv p] [] rfl avw rfl (show bz [.v (.string nm),iv p] V5 (v5 1)from hv5 1 de) rfl rfl rfl ?_
   intro Jv rf hk0 hm0;replace xg:=ae (hm0 _ _ (aa xg));clear hm0;replace hO:=rf;clear rf;replace HO:=ae hO;clear hO mo hv5 hne5 hk0;try clear e2;go_upto_region 6 with fail;refine fw 8 [_,_,_,_,_,_,_,_] [7] HO (dh aF (au (akr (b:=aqm) (off:=0) rfl aF rfl rfl) (au (Jd abg me0 (aT 1) [] [iv p] rfl) (au (sc2 func121 (aT 0) (aT 2) (fun W v0 v1 hG h0 h1=>by cases h0;cases h1;exact(aa HS).find W mr ((aa HT).below hG.bel) ((aa xg).below hG.2))) (dh (aT 3) (pq [bz [.k (eK u),.q y],ax (.bool true)] (aT 4) (pq _ (aT 4) (Am Xv ai)))))))) ?_
   intro v6 V6 qb hv6 vw;obtain⟨ckw,e7,Fy,Lb⟩:=(show qw 118 zM Jv.heap.size V6 (v6 7)from hv6 7 de)
   simp only[ay,Act.put,tA,exv (hv6 6 de),e7];have hO:=qb.1;replace xg:=ae ((aa xg).below qb.2);replace hO:=Own.add (aa HO) qb.2 Fy Lb;clear Fy Lb;refine Ny hO 0 [] zM [.k (eK u),.q y] [] rfl Bc rfl (show bz [.k (eK u),.q y] V6 (v6 5)from hv6 5 de) rfl rfl rfl ?_
   intro ais rf hk0 hm0;replace xg:=ae (hm0 _ _ (aa xg));clear hm0;replace hO:=rf;clear rf;replace HO:=ae hO;clear hO qb hv6 vw hk0;try clear e7;go_upto_region 7 with fail;refine fw 2 [_,_] [] HO (dh aF (au (tq rfl (aT 0) rfl rfl) ai)) ?_
   intro v7 V7 vg hv7 zw;simp only[ay,Act.put,tA,exv (hv7 1 de)];have hO:=vg.1;replace xg:=ae ((aa xg).below vg.2);replace HO:=ae hO;clear hO vg hv7 zw;go_upto_region 9 with fail;refine Nw 6 [_,_,_,_,_,_] [] HO (xh Vk Ed aF (xh Vk me0 aF (au (axs (b:=aqm) (off:=0) rfl aF rfl rfl) (au (Jd Fe uq (aT 2) [.v (.string nm)] [] rfl) (au (sc2 func104 (aT 1) (aT 3) (fun W v0 v1 hG h0 h1=>by cases h1;exact(aa HS).pow W _ ((aa HT).below hG.bel) h0)) (au (sc2 func119 (aT 0) (aT 4) (fun W v0 v1 hG h0 h1=>(aa HS).tim W _ _ ((aa HT).below hG.bel) h0 h1)) ai)))))) ?_
   intro v8 V8 Eb En Ju;simp only[ay,Act.put,tA];have hO:=Eb.1;replace xg:=ae ((aa xg).below Eb.2);refine Ny hO 2 [] [.k (eK (F k)),.q (X k)] [.k (eK (F (k+1))),.q (X (k+1))] [] rfl Bc rfl (show bz [.k (eK (F (k+1))),.q (X (k+1))] V8 (v8 5)from En 5 de) rfl rfl rfl ?_
   intro air rf hk0 hm0;replace xg:=ae (hm0 _ _ (aa xg));clear hm0;replace hO:=rf;clear rf;replace HO:=ae hO;clear hO Eb En Ju hk0;go_wp2_with fail
   go_roundw
   case rel =>
    exact⟨k+1,by have:=aa qp;omega,He (aa qp) (aa HN),ae ⟨(aa HO).tl.tl,aa xg⟩⟩
   case measure =>
    have h1:=aa qp;have h2:=aa HN;clear HO xg;rw[Ih h1 h2];exact measS h1
  ·
   have d1:decide ((k:Int)<(n:Int))=false:=dw g1;obtain rfl:k=n:=by have:=aa HK;omega
   go_upto_region 4 with fail;refine fw 1 [_] [] HO (au (wu rfl aF aF rfl d1) ai) ?_
   intro v4 V4 hG4 hv4 ma;simp only[ay,Act.put,tA,exv (hv4 0 de)];have hO:=hG4.1;replace xg:=ae ((aa xg).below hG4.2);replace HO:=ae hO;clear hO hG4 hv4 ma;clear d1 g1;go_upto_region 11 with fail;refine fw 1 [_] [] HO (xh Vk me0 aF ai) ?_
   intro v5 V5 mo hv5 hne5;simp only[ay,Act.put,tA];have hO:=mo.1;replace xg:=ae ((aa xg).below mo.2);refine Ny hO 1 [] zM [.k (eK (F k)),.q (X k)] [] rfl Bc rfl (show bz [.k (eK (F k)),.q (X k)] V5 (v5 0)from hv5 0 de) rfl rfl rfl ?_
   intro Jv rf hk0 hm0;replace xg:=ae (hm0 _ _ (aa xg));clear hm0;replace hO:=rf;clear rf;replace HO:=ae hO;clear hO mo hv5 hne5 hk0;go_wp2_with fail;exact vo results117 Km rfl rfl (aa HO) uq rfl rfl
end Sb


namespace Sb
variable {Q:Exit→Act→Wq→Prop} {l:List Oper} {n:Nat} {T:Nat→Wq→Vq→Prop} {G:Wq→Prop} {al:List Nat} {a0:Act} {k d:Nat} {ty:TypeId} {pos:String} {af:Array Edge} {gd:Option (Nat×Bool)}
theorem Ar (hal:al.contains k=false) (hx:cu l n T a0 k x (ax (.string s))) (hT:T k=ax (.int .i64 (s.size:Int))) :
  ib prog Q l n T G il al a0 k { dst:=some d,op := .call { callee := .builtin .len,args:=#[x],argTypes:=#[9]},type:=ty,pos:=pos,after:=af,guard:=gd}:=by
 intro a w hG hO hN
 have h:a.eval x = .string s:=hx a w hO hN
 have hr:(execOp a.eval { dst:=some d,op := .call { callee := .builtin .len,args:=#[x],argTypes:=#[9]},type:=ty,pos:=pos,after:=af,guard:=gd}).run prog w = .ok (.value (.int .i64 (s.size:Int))) w:=by
  simp only[execOp,resolve,invoke,h,Rk,Gr,Rl];simp[go_sem,h,Builtin.len_]
 exact wvz hr hG hal (by rw[hT];rfl)
def kfE:Nat→Int:=fun j=>if j=0 then 2 else if j=1 then 1 else if j=2 then -4 else 0
theorem cqv (hal:al.contains k=false) (hT:T k=bz [.k (eK kfE)]) :
  ib prog Q l n T G il al a0 k { dst:=some d,op := .build 42 #[(0,.const (.int .i64 2)),(1,.const (.int .i64 1)),(2,.const (.int .i64 (-4)))],type:=ty,pos:=pos,after:=af,guard:=gd}:=by
 intro a w hG hO hN
 have hr:(execOp a.eval { dst:=some d,op := .build 42 #[(0,.const (.int .i64 2)),(1,.const (.int .i64 1)),(2,.const (.int .i64 (-4)))],type:=ty,pos:=pos,after:=af,guard:=gd}).run prog w = .ok (.value (.agg #[.int .i64 2,.int .i64 1,.int .i64 (-4),.int .i64 0,.int .i64 0,.int .i64 0,.int .i64 0])) w:=by
  have hc : ∀ v,a.eval (.const v)=v:=fun _=>rfl
  simp only[execOp,hc];simp[go_sem,hc]
  try rfl
 exact wvz hr hG hal (by rw[hT];exact⟨_,rfl,gy.e (f:=kfE) rfl⟩)
theorem Vh {a b:ByteArray} {n d:Int} {F F':Nat→Int} {X X':Rat} (w:Wq) (hT:yg w) (hz:decide ((s.size:Int)>600)=false) (ok:qi n d) (hpos:decide (n>0)=true)
  (hsp : ∀ W,Calls prog 114 #[.string s] W (gp (ko [ax (.string a),ax (.string b)]) W))
  (Rp : ∀ W,yg W→Calls prog 24 #[.string a] W (gp (ko [bz [iv n,iv d],ax (.int .i64 0)]) W))
  (hq : ∀ W,Calls prog 115 #[.string b] W (gp (ko [zz fs,ax (.bool true)]) W))
  (hmul : ∀ W ao c,yg W→Pj W ao fs→Calls prog 117 #[.slice ao fs.length c] W (gp (ko [bz [.k (eK F),.q X],ax (.bool true)]) W))
  (cio : ∀ W v0 v1,yg W→bz [.k (eK z7),.q (jw n d)] W v0→bz [.k (eK F),.q X] W v1→Calls prog 119 #[v0,v1] W (gp (bz [.k (eK F'),.q X']) W)) :
  Calls prog 49 #[.string s] w (gp (Kg (xk F' X')) w):=by
 have HT:=ae hT
 have HZ:=ae hz
 have Mw:=ae ok
 have HPO:=ae hpos
 have Zz:=ae hsp
 have HRP:=ae Rp
 have HQ:=ae hq
 have HMU:=ae hmul
 have HTM:=ae cio
 clear hT hz ok hpos hsp Rp hq hmul cio
 go_enter func49,ntmps49
 go_upto_region 1 with fail
 have hO:=(Own.push (T:=44) (ls:=zU) (Own.nil w) (gy.vs w [.int .i64 0,.int .i64 0,.int .i64 0,.int .i64 0,.int .i64 0,.int .i64 0,.int .i64 0,.int .i64 0,.int .i64 0] rfl) (w.heap.size) rfl)
 generalize w.alloc (.cells #[.int .i64 0,.int .i64 0,.int .i64 0,.int .i64 0,.int .i64 0,.int .i64 0,.int .i64 0,.int .i64 0,.int .i64 0] 44)=W0 at *
 have HO:=ae hO
 clear hO
 refine fw 3 [_,_,_] [] HO (dh aF (au (Ar rfl (aT 0) rfl) (au (Lp rfl (aT 1) (fe _) rfl (aa HZ)) ai))) ?_
 intro v1 V1 hG1 hv1 hne1
 simp only[ay,Act.put,tA,exv (hv1 2 de)]
 replace HO:=ae hG1.1
 clear hG1 hv1 hne1
 go_upto_region 3 with fail
 refine fw 7 [_,_,_,_,_,_,_] [] HO (dh aF (au (sc1 func114 (aT 0) (fun W v0 hG h0=>by cases h0;exact(aa Zz) W)) (dh (aT 1) (pq [ax (.string a),ax (.string b)] (aT 2) (pq _ (aT 2) (Ak (aT 3) (Ak (aT 4) ai))))))) ?_
 intro v2 V2 hG2 hv2 hne2
 simp only[ay,Act.put,tA,show v2 3 = .string a from hv2 3 de,show v2 4 = .string b from hv2 4 de,show v2 5 = .string a from hv2 5 de,show v2 6 = .string b from hv2 6 de]
 replace HO:=ae hG2.1
 clear hG2 hv2 hne2
 go_upto_region 4 with fail
 refine fw 6 [_,_,_,_,_,_] [5] HO (dh aF (au (sc1 func24 (aT 0) (fun W v0 hG h0=>by cases h0;exact(aa HRP) W ((aa HT).below hG.bel))) (dh (aT 1) (pq [bz [iv n,iv d],ax (.int .i64 0)] (aT 2) (pq _ (aT 2) (Am Lr ai)))))) ?_
 intro v3 V3 hG3 hv3 ji
 obtain⟨bnu,e5,zo,Cy⟩:=(show qw 23 zR V2.heap.size V3 (v3 5)from hv3 5 de)
 simp only[ay,Act.put,tA,exv (hv3 4 de),e5]
 have hO:=hG3.1
 replace hO:=Own.add (aa HO) hG3.2 zo Cy
 clear zo Cy
 refine kg hO 0 Gg (hv3 3 de) ?_
 clear hO
 intro Gc hO hk0
 replace HO:=ae hO
 clear hO hG3 hv3 ji hk0
 try clear e5
 go_upto_region 5 with fail
 refine yc 7 59 (ui [ax (.string b),ko [zz fs,ax (.bool true)],ko [zz fs,ax (.bool true)],zz fs,ax (.bool true),zz fs,ax (.bool true)]) (iw w _ Gc) il [] kr rfl (qm.pick ⟨fo _,rq ⟨(Bp _),(fo _),trivial⟩,rq ⟨(Bp _),(fo _),trivial⟩,Bp _,fo _,Bp _,fo _,trivial⟩) (iw.begin (aa HO))
  (au (jh rfl aF)
  (au (sc1 func115 (aT 0) (fun W v0 hG h0=>by cases h0;exact(aa HQ) W))
  (au (jh rfl (aT 1))
  (au (xq (ts:=[zz fs,ax (.bool true)]) rfl (aT 2) (sw rfl) rfl)
  (au (xq (ts:=[zz fs,ax (.bool true)]) rfl (aT 2) (sw rfl) rfl)
  (au (zu rfl (aT 3))
  (au (zu rfl (aT 4))
  ai))))))) ?_
 intro v4 V4 hG4 hv4 ma
 simp only[ay,Act.put,tA,exv (hv4 4 de),exv (hv4 6 de)]
 obtain⟨ao,c,em,hfa⟩:=(show zz fs V4 (v4 5)from hv4 5 de)
 simp only[em]
 have Zm:=ae hfa
 clear hfa
 replace HO:=ae hG4.1
 clear hG4 hv4 ma
 go_upto_region 6 with fail
 refine fw 9 [_,_,_,_,_,_,_,_,_] [] HO (dh aF (au (tq rfl (aT 0) rfl rfl) (dh (aT 1) (ku (jh rfl aF) (ku (El Js me0 aF [] [iv n,iv d] []) (ku (jh rfl aF) (ku (afg func116 kr rfl iw.step (aT 3) (aT 4) (aT 5) (fun W v0 v1 v2 hG h0 h1 h2=>by cases h0;cases h2;exact brs W _ h1 (aa HPO))) (ku (tq rfl (aT 6) rfl rfl) (au (mh rfl (aT 2) (aT 7)) ai))))))))) ?_
 intro v5 V5 mo hv5 hne5
 simp only[ay,Act.put,tA,exv (hv5 8 de)]
 have hO:=mo.1
 replace Zm:=ae ((aa Zm).below mo.2)
 replace HO:=ae hO
 clear hO mo hv5 hne5
 go_upto_region 8 with fail
 refine fw 6 [_,_,_,_,_,_] [5] HO (dh aF (au (sc1 func117 (aT 0) (fun W v0 hG h0=>by cases h0;exact(aa HMU) W ao c ((aa HT).below hG.bel) ((aa Zm).below hG.2))) (dh (aT 1) (pq [bz [.k (eK F),.q X],ax (.bool true)] (aT 2) (pq _ (aT 2) (Am Xv ai)))))) ?_
 intro v6 V6 qb hv6 vw
 obtain⟨ckx,e5,zo,Cy⟩:=(show qw 118 zM V5.heap.size V6 (v6 5)from hv6 5 de)
 simp only[ay,Act.put,tA,exv (hv6 4 de),e5]
 have hO:=qb.1
 replace hO:=Own.add (aa HO) qb.2 zo Cy
 clear zo Cy
 refine kg hO 0 Bc (hv6 3 de) ?_
 clear hO
 intro ais hO hk0
 replace HO:=ae hO
 clear hO qb hv6 vw hk0
 try clear e5
 go_upto_region 9 with fail
 refine fw 2 [_,_] [] HO (dh aF (au (tq rfl (aT 0) rfl rfl) ai)) ?_
 intro v7 V7 vg hv7 zw
 simp only[ay,Act.put,tA,exv (hv7 1 de)]
 replace HO:=ae vg.1
 clear vg hv7 zw
 go_upto_region 11 with fail
 refine fw 2 [_,_] [] HO (dh aF (au (aff rfl (aT 0) (fe _) rfl rfl) ai)) ?_
 intro v8 V8 Eb En Ju
 simp only[ay,Act.put,tA,exv (En 1 de)]
 replace HO:=ae Eb.1
 clear Eb En Ju
 go_upto_region 13 with fail
 refine Nw 7 [_,_,_,_,_,_,_] [] HO (xh Js uq aF (au (sc1 func118 (aT 0) (fun W v0 hG h0=>auu (aa Mw) W _ h0)) (xh Vk me0 aF (au (sc2 func119 (aT 1) (aT 2) (fun W v0 v1 hG h0 h1=>(aa HTM) W _ _ ((aa HT).below hG.bel) h0 h1)) (au (sc1 func105 (aT 3) (fun W v0 hG h0=>bjo W _ h0)) (pq [bz [.k (eK (xk F' X').f),iv (xk F' X').n,iv (xk F' X').d],ax (.int .i64 (xk F' X').e)] (aT 4) (pq _ (aT 4) ai))))))) ?_
 intro v9 V9 Rv Vn acj
 simp only[ay,Act.put,tA,show v9 6 = .int .i64 (xk F' X').e from Vn 6 de]
 have hO:=Rv.1
 refine kg hO 2 vv (Vn 5 de) ?_
 clear hO
 intro ctd hO hk0
 replace HO:=ae hO
 clear hO Rv Vn acj hk0
 go_wp2_with fail
 exact vo results49 Bq rfl rfl (aa HO) Ed rfl rfl
theorem bmq (w:Wq) (hT:yg w) (hp : ∀ W,yg W→Calls prog 49 #[.string ⟨#[107,78,46,109,47,115,50]⟩] W (gp (Kg ⟨kfE,1000,1,0⟩) W)) :
  Calls prog 43 #[] w (gp (ax (.bool true)) w):=by
 have HT:=ae hT
 have HP:=ae hp
 clear hT hp
 go_enter func43,ntmps43
 go_upto_region 1 with fail
 have hO:=(Own.nil w)
 have HO:=ae hO
 clear hO
 refine fw 5 [_,_,_,_,_] [4] HO (au (sc1 func49 (fe _) (fun W v0 hG h0=>by cases h0;exact(aa HP) W ((aa HT).below hG.bel))) (dh (aT 0) (pq [bz [.k (eK kfE),iv 1000,iv 1],ax (.int .i64 0)] (aT 1) (pq _ (aT 1) (Am Ng ai))))) ?_
 intro v1 V1 hG1 hv1 hne1
 obtain⟨Ox,e4,hge4,Mq⟩:=(show qw 44 zU w.heap.size V1 (v1 4)from hv1 4 de)
 simp only[ay,Act.put,tA,exv (hv1 3 de),e4]
 have hO:=hG1.1
 replace hO:=Own.add (aa HO) hG1.2 hge4 Mq
 clear hge4 Mq
 refine kg hO 0 vv (hv1 2 de) ?_
 clear hO
 intro Ep hO hk0
 replace HO:=ae hO
 clear hO hG1 hv1 hne1 hk0
 try clear e4
 go_upto_region 2 with fail
 refine fw 5 [_,_,_,_,_] [4] HO (au (sc1 func50 (fe _) (fun W v0 hG h0=>by cases h0;exact bry W)) (dh (aT 0) (pq [bz [.k (eK z7),iv 0,iv 0],ax (.int .i64 4)] (aT 1) (pq _ (aT 1) (Am Ng ai))))) ?_
 intro v2 V2 hG2 hv2 hne2
 obtain⟨byv,e4,hge4,Mq⟩:=(show qw 44 zU Ep.heap.size V2 (v2 4)from hv2 4 de)
 simp only[ay,Act.put,tA,exv (hv2 3 de),e4]
 have hO:=hG2.1
 replace hO:=Own.add (aa HO) hG2.2 hge4 Mq
 clear hge4 Mq
 refine kg hO 0 vv (hv2 2 de) ?_
 clear hO
 intro Oy hO hk0
 replace HO:=ae hO
 clear hO hG2 hv2 hne2 hk0
 try clear e4
 go_upto_region 3 with fail
 refine fw 14 [_,_,_,_,_,_,_,_,_,_,_,_,_,_] [] HO (xh Zc uq aF (au (cqv rfl rfl) (au (apg rfl (fe _) (fe _) rfl) (au (Gu afs rfl (aT 1) (aT 2) rfl rfl rfl) (au (bis rfl (aT 0) (aT 3) rfl) (dh (aT 4) (ku (jh rfl aF) (ku (Yp rfl (aT 6) (fe _) rfl (Yc _)) (au (qj rfl (aT 5) (aT 7)) (dh (aT 8) (ku (jh rfl aF) (ku (Yp rfl (aT 10) (fe _) rfl (Yc _)) (au (qj rfl (aT 9) (aT 11)) (Ak (aT 12) ai)))))))))))))) ?_
 intro v3 V3 hG3 hv3 ji
 simp only[ay,Act.put,tA,exv (hv3 12 de),exv (hv3 13 de)]
 replace HO:=ae hG3.1
 clear hG3 hv3 ji
 go_wp2_with fail
 exact Ka results43 rfl (aa HO).bel rfl
end Sb


namespace Sb
theorem chi (s:ByteArray) (m:Nat) (c:UInt8) (p:Int) (hm:0<m) (hlm:m<s.size) (hs:s.size=m+1) (hl : ∀ j (h:j<s.size),j<m→su (s[j].toNat:Int)=true) (hc:s[m]=c) (hcl:su (c.toNat:Int)=false) (h1:49≤c.toNat) (h2:c.toNat≤57) (hp:p=(c.toNat:Int)-48) (hz:s.size≤1000000) (w:Wq) :
  Calls prog 209 #[.string s] w (gp (Kl (s.extract 0 m) p true) w):=by
 have HL:=ae (fun W b=>La b W)
 have HH:=ae hl
 obtain⟨r,hr⟩ : ∃ r,r=s.extract m s.size:=⟨_,rfl⟩
 have hrs:r.size=1:=by rw[hr,bkt];omega
 have hr0:r[0]'(by omega)=c:=by
  rw[← hc];subst hr;rw[ByteArray.getElem_extract];simp only[Hr]
 have hcp:=(fun W=>aws r (by
  have h3:r.data.toList.head? = some (r[0]'(by omega)):=by
   have h1:0<r.data.toList.length:=by rw[oq];omega
   rw[ard,Cj h1];rfl
  rw[h3,hr0];intro h;have h4:c=45:=Az h;rw[h4]at h1;exact absurd h1 de) W)
 have HC:Hid (∀ W,Calls prog 85 #[.string (s.extract m s.size),.string ⟨#[45]⟩] W fun e w'=>e = .returned (.tuple #[.string r,.bool false])∧w'=W):=ae (fun W=>by rw[← hr];exact hcp W)
 clear hl hcp
 have HZ:=ae (And.intro hs hz)
 have z0:((m:Int)==0)=false:=oo.2 om
 have z1:((m:Int)==(s.size:Int))=false:=oo.2 om
 have hms:m≤s.size:=by omega
 have hd:su (s[m].toNat:Int)=false:=by rw[hc];exact hcl
 clear hs hz hc hcl
 go_enter func209,ntmps209
 go_wp2_with fail
 go_loop [4] (fun i => ∃ k:Nat,k≤m∧i = .int .i64 k) (fun i=>m-(intOf i).toNat)
 case atStart=>exact⟨0,ug _,rfl⟩
 case round =>
  obtain⟨k,hk,rfl⟩:=hrel
  by_cases g:k<m
  ·
   have hlt:k<s.size:=by omega
   have e1:=(aa HH) k hlt g;have HG:=ae g;have hz2:=(aa HZ).2;clear hd hr0 hp h1 h2
   go_wp2_with (go_at_call 235;refine((aa HL) _ _).mono ?_;rintro e w' ⟨rfl,rfl⟩;rw[e1])
   go_round
   case rel=>exact⟨k+1,by have:=aa HG;omega,by go_num⟩
   case measure=>have:=aa HG;simp[intOf];omega
  ·
   obtain rfl:k=m:=by omega
   go_wp2_with (go_at_call 235;refine((aa HL) _ _).mono ?_;rintro e w' ⟨rfl,rfl⟩;rw[hd])
   refine((aa HC) _).mono ?_
   rintro e w' ⟨rfl,rfl⟩
   dsimp only
   have hq:((r.size:Int) != 1)=false:=by rw[hrs];rfl
   have hr1:0<r.size:=by omega
   have Vo:r[0]'hr1=c:=hr0;rw[← Vo]at h1 h2 hp;have e4:decide ((r[0].toNat:Int)<49)=false:=dw om;have e5:decide ((57:Int)<(r[0].toNat:Int))=false:=dw om;have e6:IntKind.u8.wrap ((r[0].toNat:Int)-48)=p:=by rw[hp];exact wrap_u8 om om
   have e7:IntKind.i64.wrap p=p:=Es _ om;have e8:wrap64 p=p:=Cs _ om;clear h1 h2 hp Vo hr0 hrs hr hd;go_wp2_with fail;exact bodyPost_ret (v := .tuple #[.agg #[.string (s.extract 0 k),.int .i64 p],.bool true]) (by simp[results,results209,go_sem]) rfl ⟨_,rfl,ic (df _ _) _,Qw⟩
end Sb
end Go.Proofs.YtfgeaakhlcaibaaGreatDoor
namespace Go.Proofs.YtfgeaakhlcaibaaGreatDoor
open Go.Lib
open Go.Proofs.Tryz
open Go renaming World → Wq
open Go renaming Value → Vq
variable {w W w' W' w0:Wq} {p q:Int} {x y:Operand} {s nm:ByteArray} {b k base n i off g m r c d off' u F:Nat} {v:Vq} {ty TL TB:TypeId} {pos:String} {af:Array Edge} {f f':Nat→Int} {gd:Option (Nat×Bool)} {Q:Exit→Act→Wq→Prop} {L:List (ByteArray×Vq)} {l rest:List Oper} {T:Nat→Wq→Vq→Prop} {G:Wq→Prop} {al:List Nat} {a0 a:Act} {ao:Option Addr} {fs:List (ByteArray×Int)} {ρ:Operand→Vq} {P:Program} {ops:Array Oper} {vs:Array Vq} {ls:List UInt8}

theorem aat (h:k<10):(UInt8.ofNat (48+k)).toNat=48+k:=by
 rw[UInt8.toNat_ofNat'];omega
theorem aea (u:Nat):ll (decDigits u)=u:=by
 induction u using Nat.strongRecOn with
 | _ u ih =>
  by_cases h:u<10
  ·
   rw[decDigits_one h];show 0*10+((UInt8.ofNat (48+u)).toNat-48)=u;rw[aat h];omega
  ·
   rw[decDigits,dif_neg h,Vv,ih (u/10) om,aat om];omega
theorem aot (h:k<10):mf (UInt8.ofNat (48+k))=true:=by
 unfold mf
 rw[aat h,dm (show 48≤((48+k:Nat):Int)by omega),dm (show((48+k:Nat):Int)≤57 by omega)];rfl
theorem azk (u:Nat):(decDigits u).all mf=true:=by
 induction u using Nat.strongRecOn with
 | _ u ih =>
  by_cases h:u<10
  ·
   rw[decDigits_one h,Xq,aot h];rfl
  ·
   rw[decDigits,dif_neg h,amt,ih (u/10) om,Xq,aot om];rfl
theorem azj : ∀ (k u:Nat),1≤k→u<10^k→(decDigits u).length≤k
 | 0,_,h,_=>absurd h om
 | k+1,u,_,h=>by
  by_cases h1:u<10
  ·
   rw[decDigits_one h1];simp
  ·
   rw[decDigits,dif_neg h1,Bj]
   rcases Fs k with rfl|hk
   ·
    rw[Bn,Rh]at h;omega
   ·
    have:=azj k (u/10) hk (by rw[Be]at h;omega);simp only[Db,List.length_nil];omega
theorem ame (u:Nat):1≤(decDigits u).length:=by
 by_cases h:u<10
 ·
  rw[decDigits_one h];simp
 ·
  rw[decDigits,dif_neg h,Bj];simp
theorem bob (u:Nat) (h0:1≤u):(decDigits u).head? ≠ some 48:=by
 induction u using Nat.strongRecOn with
 | _ u ih =>
  by_cases h:u<10
  ·
   rw[decDigits_one h];intro e;have e2:UInt8.ofNat (48+u)=48:=Az e;have e3:=aat h;rw[e2]at e3;have:(48:UInt8).toNat=48:=rfl;omega
  ·
   rw[decDigits,dif_neg h];have h1:=ame (u/10);have h2:=ih (u/10) om om
   cases hl:decDigits (u/10)with
   | nil=>rw[hl]at h1;exact absurd h1 de
   | cons c l=>rw[hl]at h2;exact h2
theorem amf (h:u≤1000000000000):uf (decDigits u)=true:=by
 refine yo.2 ⟨uj.2 ⟨ame u,?_,azk u⟩,?_⟩
 ·
  have:=azj 20 u om (Dm h de);omega
 ·
  rcases Fs u with rfl|h0
  ·
   exact .inl (by rw[decDigits_one om];rfl)
  ·
   exact .inr (bob u h0)
theorem aeb (u:Nat) {c:UInt8} (hc:c.toNat<48):c ∉ decDigits u:=fun h=>by
 have:=aip (azk u) h;omega
theorem btr (h:1≤u) : ¬ decDigits u=[48]:=fun e=>by
 have h1:=aea u
 rw[e]at h1
 have:ll [48]=0:=rfl
 omega
def Xj (n d:Int):List UInt8:=if d=1 then itoa n else itoa n++47::itoa d
theorem azi {d:Int} (h:0≤d):itoa d=decDigits d.natAbs:=by
 unfold itoa;rw[if_neg om,show d.toNat=d.natAbs by omega]
theorem bnx (u d:Nat) (hu:u≤1000000000000) (hd:d≤1000000000000) (h1:1≤d) :
  ou (if d=1 then decDigits u else decDigits u++47::decDigits d)=some (Rat.divInt u d):=by
 by_cases h:d=1
 ·
  rw[if_pos h,Ko (aeb u de) (aeb u de),if_pos (amf hu),aea,h];rfl
 ·
  rw[if_neg h,Iu rfl (aeb u de),amf hu,amf hd,oo.2 (btr h1),aea,aea];rfl
theorem bfv {n d:Int} (ok:qi n d):uh (Xj n d)=⟨n,d,0⟩:=by
 obtain⟨h1,h2,h3,h4,_⟩:=id ok
 have hp:=bnx n.natAbs d.natAbs om om om
 rw[show((d.natAbs:Nat):Int)=d by omega]at hp
 have hdd:(if d.natAbs=1 then decDigits n.natAbs else decDigits n.natAbs++47::decDigits d.natAbs)=(if d=1 then decDigits n.natAbs else decDigits n.natAbs++47::itoa d):=by
  rw[azi om]
  by_cases h:d=1
  ·
   rw[if_pos h,if_pos om]
  ·
   rw[if_neg h,if_neg om]
 rw[hdd]at hp
 unfold uh
 by_cases hn:n<0
 ·
  have e:Xj n d=45::(if d=1 then decDigits n.natAbs else decDigits n.natAbs++47::itoa d):=by
   unfold Xj;have e1:itoa n=45::decDigits n.natAbs:=by unfold itoa;rw[if_pos hn]
   rw[e1]
   by_cases h:d=1
   ·
    rw[if_pos h,if_pos h]
   ·
    rw[if_neg h,if_neg h];rfl
  rw[e,List.head?_cons,if_pos rfl,List.tail_cons,hp];have hq : -Rat.divInt (n.natAbs:Int) d=jw n d:=by unfold jw;rw[Rat.neg_divInt,show -(n.natAbs:Int)=n by omega]
  have h0 : ¬ Rat.divInt (n.natAbs:Int) d=0:=fun hz=>by
   rw[hz]at hq;have:=(bnw ok).1 (by rw[← hq];rfl);omega
  dsimp only
  rw[if_neg h0,hq,Sq ok]
 ·
  have e:Xj n d=(if d=1 then decDigits n.natAbs else decDigits n.natAbs++47::itoa d):=by
   unfold Xj;rw[azi (d:=n) om]
  have hh : ¬ (Xj n d).head? = some 45:=by
   have hdp:=ame n.natAbs;have hno:(45:UInt8) ∉ decDigits n.natAbs:=aeb _ de;rw[e]
   cases hl:decDigits n.natAbs with
   | nil=>rw[hl]at hdp;exact absurd hdp de
   | cons c l =>
    rw[hl]at hno;have hc : ¬ c=45:=fun e=>hno (by rw[e];exact Ah)
    split
    ·
     intro h;exact hc (Az h)
    ·
     intro h;exact hc (Az h)
  rw[if_neg hh,e,hp]
  dsimp only
  rw[show((n.natAbs:Nat):Int)=n by omega];exact Sq ok
end Go.Proofs.YtfgeaakhlcaibaaGreatDoor
namespace Go.Proofs.YtfgeaakhlcaibaaGreatDoor
open Go.RowKit
open Go.Proofs.Tryz
open Go renaming World → Wq
open Go renaming Value → Vq
variable {w W w' W' w0:Wq} {p q:Int} {x y:Operand} {s nm:ByteArray} {b k base n i off g m r c d off' u F:Nat} {v:Vq} {ty TL TB:TypeId} {pos:String} {af:Array Edge} {f f':Nat→Int} {gd:Option (Nat×Bool)} {Q:Exit→Act→Wq→Prop} {L:List (ByteArray×Vq)} {l rest:List Oper} {T:Nat→Wq→Vq→Prop} {G:Wq→Prop} {al:List Nat} {a0 a:Act} {ao:Option Addr} {fs:List (ByteArray×Int)} {ρ:Operand→Vq} {P:Program} {ops:Array Oper} {vs:Array Vq} {ls:List UInt8}

namespace Sb
theorem awt {a b:ByteArray} {c:UInt8} (h:s.data.toList=a.data.toList++c::b.data.toList) (hn:c ∉ a.data.toList) (hs:s.size≤1000) (W:Wq) :
  Calls prog 155 #[.string s,.string ⟨#[c]⟩] W fun e w'=>e = .returned (.tuple #[.string a,.string b,.bool true])∧Below W.heap.size W w':=by
 refine(Yn s ⟨#[c]⟩ c rfl W om).mono ?_
 rintro e w' ⟨x,y,f,rfl,hb,⟨rfl,h1,h2⟩|⟨rfl,rfl,h1,h2⟩⟩
 ·
  have e1:=Qh c _ y.data.toList h2;rw[← h1,h,Qh c _ _ hn]at e1;simp only[bbh,Prod.mk.injEq]at e1;obtain rfl:a=x:=by rw[← Fz a,e1.1,Fz]
  obtain rfl:b=y:=by rw[← Fz b,e1.2,Fz]
  exact⟨rfl,hb⟩
 ·
  exact absurd (by rw[h];exact Ht _ Ah) h2
theorem bcc (hn:(32:UInt8) ∉ s.data.toList) (hs:s.size≤600) (w:Wq) :
  Calls prog 114 #[.string s] w (gp (ko [ax (.string ⟨#[49]⟩),ax (.string s)]) w):=by
 have HC:=ae (fun W=>Yn s ⟨#[32]⟩ 32 rfl W om)
 have HN:=ae hn
 clear hn hs
 go_enter func114,ntmps114
 go_wp2_with fail
 refine((aa HC) _).mono ?_
 rintro e W1 ⟨x,y,f,rfl,hb,⟨_,h,_⟩|⟨rfl,rfl,h1,h2⟩⟩
 ·
  exact absurd (by rw[h];exact Ht _ Ah) (aa HN)
 clear h1 h2
 dsimp only
 go_wp2_with fail
 go_ret2
 exact⟨_,rfl,hb,[_,_],rfl,_,_,rfl,rfl,_,_,rfl,rfl,rfl⟩
theorem Ou:qi 1 1:=by unfold qi;decide
theorem aby:qi 1000 1:=by unfold qi;decide
theorem blx (w:Wq) (hT:yg w):Calls prog 24 #[.string ⟨#[49]⟩] w (gp (ko [bz [iv 1,iv 1],ax (.int .i64 0)]) w):=by
 have e1:=bfv (n:=1) (d:=1) Ou
 rw[show Xj 1 1=[49]by kernel_rfl]at e1
 refine(ayc ⟨#[49]⟩ w hT de).mono ?_
 rintro e w' ⟨rfl,hb⟩
 rw[show(⟨#[49]⟩:ByteArray).data.toList=[49]from rfl,e1]
 exact⟨_,rfl,hb,[_,_],rfl,_,_,rfl,Gw _ _ _,_,_,rfl,rfl,rfl⟩
theorem alx {p q:Nat→Int} (h:([0,1,2,3,4,5,6].all fun j=>p j==q j)=true) : ∀ j,j<7→p j=q j:=fun j hj=>by
 have:=Hd.1 h j (by
  have hc:j=0∨j=1∨j=2∨j=3∨j=4∨j=5∨j=6:=by omega
  rcases hc with rfl|rfl|rfl|rfl|rfl|rfl|rfl<;>decide)
 exact eq_of_beq this
theorem chn {a b:Rat} (e:a=b) (h:Calls prog F vs W (gp (ko [bz [.k (eK f),.q a],ax v]) W)):Calls prog F vs W (gp (ko [bz [.k (eK f),.q b],ax v]) W):=e ▸ h
theorem awf {a b:Rat} (e:a=b) (h:Calls prog F vs W (gp (bz [.q a]) W)):Calls prog F vs W (gp (bz [.q b]) W):=e ▸ h
theorem bby {u q:Nat→Int} {n d n' d' a b a' b':Int} (hat:Qy w g k nm p)
  (hfind : ∀ W r,yg W→Cm W r Co→Calls prog 121 #[.map (some r),.string nm] W (gp (ko [bz [.k (eK u),.q (jw n d)],ax (.bool true)]) W))
  (okx:qi a b) (oky:qi n d) (okz:qi n' d') (hp : -((9:Nat):Int)≤p∧p≤(9:Nat)) (hq : ∀ j,j<7→wrap64 (u j*p)=q j) (h0n:(jw n d).num≠0) (hz:Ec (jw n d) p=jw n' d')
  (hf : ∀ j,j<7→wrap64 (f j+q j)=f' j) (hx:jw a b*jw n' d'=jw a' b'):Xz w g k nm p f (jw a b) f' (jw a' b') :=
 ⟨u,jw n d,q,jw n' d',hat,hfind,fun W v0 hT h0=>axz W v0 h0 hq (fun W' v0' hb h=>awf hz (btk (K:=1) (b:=9) (Oa oky) h0n hp om om W' _ h)),
  fun W v0 v1 hT h0 h1=>Ym W v0 h0 v1 h1 hf (fun W' x y hb g0 g1=>awf hx (aih (hT.below hb) (Oa okx) (Oa okz) g0 g1))⟩
theorem cah:jw 1 1*jw 1000 1=jw 1000 1:=by kernel_rfl
theorem bmn:jw 1000 1*jw 1 1=jw 1000 1:=by kernel_rfl
theorem cmy:Ec (jw 1000 1) 1=jw 1000 1:=by kernel_rfl
theorem cna:Ec (jw 1 1) 1=jw 1 1:=by kernel_rfl
theorem cmz:Ec (jw 1 1) (-2)=jw 1 1:=by kernel_rfl
theorem chr:(jw 1 1).num≠0:=by decide
theorem crb:(jw 1000 1).num≠0:=by decide
def kF (k:Nat):Nat→Int:=if k=0 then z7 else if k=1 then(fun j=>if j=0 then 1 else if j=1 then 1 else if j=2 then -2 else 0)else if k=2 then(fun j=>if j=0 then 2 else if j=1 then 1 else if j=2 then -2 else 0)else kfE
def kX (k:Nat):Rat:=if k=0 then jw 1 1 else jw 1000 1
def kN':Nat→Int:=fun j=>if j=0 then 1 else if j=1 then 1 else if j=2 then -2 else 0
def km':Nat→Int:=fun j=>if j=0 then 1 else 0
def ks':Nat→Int:=fun j=>if j=2 then 1 else 0
def ks2:Nat→Int:=fun j=>if j=2 then -2 else 0
def kFs:List (ByteArray×Int):=[(⟨#[107,78]⟩,1),(⟨#[109]⟩,1),(⟨#[115]⟩,-2)]
theorem ceo (W:Wq) (r:Nat) (hT:yg W) (hm:Cm W r Co):Calls prog 121 #[.map (some r),.string ⟨#[107,78]⟩] W (gp (ko [bz [.k (eK kN'),.q (jw 1000 1)],ax (.bool true)]) W) :=
 chn bmn (bex (b:=107) (ls:=[78]) (f:=kN') (n:=1) (d:=1) (p:=1000) (q:=1) W hm rfl kr kr kr kr hT aby Ou (alx (p:=fun j=>wrap64 (z7 j+kN' j)) kr))
theorem ckf (W:Wq) (r:Nat) (hm:Cm W r Co):Calls prog 121 #[.map (some r),.string ⟨#[109]⟩] W (gp (ko [bz [.k (eK km'),.q (jw 1 1)],ax (.bool true)]) W) :=
 aqg (f:=km') (n:=1) (d:=1) W hm kr Ou
theorem cke (W:Wq) (r:Nat) (hm:Cm W r Co):Calls prog 121 #[.map (some r),.string ⟨#[115]⟩] W (gp (ko [bz [.k (eK ks'),.q (jw 1 1)],ax (.bool true)]) W) :=
 aqg (f:=ks') (n:=1) (d:=1) W hm kr Ou
theorem bml (W:Wq) (ao:Option Addr) (c:Nat) (hT:yg W) (hf:Pj W ao kFs) :
  Calls prog 117 #[.slice ao kFs.length c] W (gp (ko [bz [.k (eK kfE),.q (jw 1000 1)],ax (.bool true)]) W):=by
 refine aye (F:=kF) (X:=kX) (n:=3) W hT om rfl rfl Ou (fun k hk => ?_)
 have hc:k=0∨k=1∨k=2:=by omega
 rcases hc with rfl|rfl|rfl
 ·
  obtain⟨g,e,hat⟩:=hf 0 _ rfl;exact⟨g,e,_,_,bby hat ceo Ou aby aby de (q:=kN') (alx (p:=fun j=>wrap64 (kN' j*1)) kr) crb cmy (alx (p:=fun j=>wrap64 (kF 0 j+kN' j)) (q:=kF 1) kr) cah⟩
 ·
  obtain⟨g,e,hat⟩:=hf 1 _ rfl;exact⟨g,e,_,_,bby hat (fun W r _ hm=>ckf W r hm) aby Ou Ou de (q:=km') (alx (p:=fun j=>wrap64 (km' j*1)) kr) chr cna (alx (p:=fun j=>wrap64 (kF 1 j+km' j)) (q:=kF 2) kr) bmn⟩
 ·
  obtain⟨g,e,hat⟩:=hf 2 _ rfl;exact⟨g,e,_,_,bby hat (fun W r _ hm=>cke W r hm) aby Ou Ou de (q:=ks2) (alx (p:=fun j=>wrap64 (ks' j*(-2))) kr) chr cmz (alx (p:=fun j=>wrap64 (kF 2 j+ks2 j)) (q:=kF 3) kr) bmn⟩
abbrev tkN:ByteArray:=⟨#[107,78]⟩
abbrev tm:ByteArray:=⟨#[109]⟩
abbrev ts:ByteArray:=⟨#[115]⟩
abbrev ts2:ByteArray:=⟨#[115,50]⟩
abbrev cgj:ByteArray:=⟨#[107,78,46,109]⟩
abbrev blm:ByteArray:=⟨#[107,78,46,109,47,115,50]⟩
def l1k:List (ByteArray×Int):=[(tkN,1),(tm,1)]
theorem chh (k:Nat) (p:ByteArray) (f:ByteArray×Int) (hp:[tkN,tm][k]? = some p) (hf:l1k[k]? = some f) (W:Wq):Calls prog 209 #[.string p] W (gp (Kl f.1 f.2 true) W):=by
 match k,hp,hf with
 | 0,hp,hf =>
  cases hp
  cases hf
  exact awd tkN (fun j h=>by
   have hc:j=0∨j=1:=by
    have h2:j<2:=h;omega
   rcases hc with rfl|rfl<;>rfl) de de W
 | 1,hp,hf =>
  cases hp
  cases hf
  exact awd tm (fun j h=>by
   have hc:j=0:=by
    have h2:j<1:=h;omega
   subst hc;rfl) de de W
 | k+2,hp,_=>cases hp
theorem cnl:ts2.extract 0 1=ts:=by kernel_rfl
theorem chj (k:Nat) (p:ByteArray) (f:ByteArray×Int) (hp:[ts2][k]? = some p) (hf:[(ts,(2:Int))][k]? = some f) (W:Wq):Calls prog 209 #[.string p] W (gp (Kl f.1 f.2 true) W):=by
 match k,hp,hf with
 | 0,hp,hf =>
  cases hp
  cases hf
  have h:=chi ts2 1 50 2 de de rfl (fun j h hj=>by
   have hc:j=0:=by omega
   subst hc;rfl) rfl rfl de de de de W
  rw[cnl]at h;exact h
 | k+1,hp,_=>cases hp
theorem bmb (w:Wq):Calls prog 115 #[.string blm] w (gp (ko [zz kFs,ax (.bool true)]) w):=by
 refine biv blm cgj ts2 l1k kFs w (fun W=>awt (c:=47) rfl de de W) kr (fun w0 W v hf hb => ?_) (fun w0 W v hf hb => ?_)
 ·
  have h:=awg cgj [tkN,tm] l1k [] 1 v w0 W kr de rfl de chh hf hb;rw[show[]++l1k.map (fun(f:ByteArray×Int)=>(f.1,wrap64 (f.2*1)))=l1k by kernel_rfl]at h;exact h
 ·
  have h:=awg ts2 [ts2] [(ts,2)] l1k (-1) v w0 W kr de rfl de chj hf hb;rw[show l1k++[(ts,(2:Int))].map (fun(f:ByteArray×Int)=>(f.1,wrap64 (f.2*(-1))))=kFs by kernel_rfl]at h;exact h
theorem cnk:Li kfE:=fun j hj=>by
 have hc:j=0∨j=1∨j=2∨j=3∨j=4∨j=5∨j=6:=by omega
 rcases hc with rfl|rfl|rfl|rfl|rfl|rfl|rfl<;>decide
theorem cgm:xk kfE (jw 1000 1)=⟨kfE,1000,1,0⟩:=by
 unfold xk
 rw[if_pos cnk,Sq aby]
 rfl
theorem bhi (w:Wq) (hT:yg w):Calls prog 49 #[.string blm] w (gp (Kg ⟨kfE,1000,1,0⟩) w):=by
 rw[← cgm]
 exact Vh (a:=⟨#[49]⟩) (b:=blm) (n:=1) (d:=1) (fs:=kFs) (F:=kfE) (X:=jw 1000 1) w hT de Ou de (fun W=>bcc de de W) (fun W h=>blx W h) bmb (fun W ao c h hf=>bml W ao c h hf)
  (fun W v0 v1 h h0 h1=>Ym W v0 h0 v1 h1 (alx (p:=fun j=>wrap64 (z7 j+kfE j)) kr) (fun W' x y hb g0 g1=>awf cah (aih (h.below hb) (Oa Ou) (Oa aby) g0 g1)))
theorem bse (w:Wq) (hT:yg w):Calls prog 43 #[] w (gp (ax (.bool true)) w):=bmq w hT fun W h=>bhi W h
end Sb

namespace Sb
def tx (l:List UInt8):ByteArray:=⟨l.toArray⟩
theorem Ac (l:List UInt8):(tx l).data.toList=l:=rfl
theorem akh (l:List UInt8):(tx l).toList=l:=(agl _).trans rfl
theorem xw (l:List UInt8):(tx l).size=l.length:=(oq _).symm
def bnL:List (List UInt8):=[[109],[107,103],[115],[65],[75],[109,111,108],[99,100]]
def bn (j:Nat):List UInt8:=bnL.getD j []
def boq (w:Wq):Prop:=(∀ j,j<7→w.cell? ⟨0,j,none⟩=some (.string (tx (bn j))))∧0<w.heap.size
theorem boq.below (h:boq w) (hb:Below w.heap.size w W):boq W:=⟨fun j hj=>(hb.cell (p:=⟨0,j,none⟩) h.2).trans (h.1 j hj),zh h.2 hb.size⟩
def aqt (w:Wq) (base:Nat) (v:Vq) (ps:List (List UInt8)):Prop:=w.ownsRow base 9 1 v ps.length (ps.map fun l=>Value.string (tx l))
theorem aqt.nil (w:Wq) (base:Nat):aqt w base (.slice none 0 0) []:=bbe _ _ _ _
theorem aqt.ge {l:List (List UInt8)} (h:aqt w base v l) : ∀ g,v.ownBlock=some g→base≤g:=fun g hg=>(World.ownsRow.lt h g hg).1
theorem aqt.below {l:List (List UInt8)} (h:aqt w base v l) (hb:Below w.heap.size w w'):aqt w' base v l:=by
 obtain⟨h1,h2|⟨g,cap,cur,e,h3,h4,h5⟩⟩:=h
 ·
  exact⟨h1,.inl h2⟩
 ·
  exact⟨h1,.inr ⟨g,cap,cur,e,h3,(hb.block _ (lt_of_block h4)).trans h4,h5⟩⟩
theorem baw {o:Nat} (hb : ∀ W,G W→W.cell? ⟨b,o,none⟩=some (.string s)) (hal:al.contains k=false) (hx:cu l n T a0 k x (ax (.pointer (some ⟨b,o,none⟩)))) (hT:T k=ax (.string s)) :
  ib prog Q l n T G il al a0 k { dst:=some d,op := .load 9 x,type:=ty,pos:=pos,after:=af,guard:=gd}:=by
 intro a w hG hO hN
 exact wvz (abg a.eval w (some d) x b o _ ty pos af gd (hb w hG) (hx a w hO hN)) hG hal (by rw[hT];rfl)
end Sb

namespace Sb
end Sb

def Ten (w : Wq) : Prop := Lib.TabBelow prog w.heap.size w "internal/strconv.uint64pow10" .u64 Lib.pow10Tab
theorem Ten.below (h:Ten w) (hb:Below w.heap.size w W):Ten W:=fun w' hb'=>h w' (az hb hb')

namespace Sb
theorem Gq {p q:List UInt8} {b:Bool} (hal:al.contains k=false) (hx:cu l n T a0 k x (ax (.string (tx p)))) (hy:cu l n T a0 k y (ax (.string (tx q)))) (hb:(decide (p=q))=b) (hT:T k=ax (.bool b)) :
  ib prog Q l n T G il al a0 k { dst:=some d,op := .binOp .eql 9 x y 9,type:=ty,pos:=pos,after:=af,guard:=gd}:=by
 intro a w hG hO hN
 have h1:a.eval x = .string (tx p):=hx a w hO hN
 have h2:a.eval y = .string (tx q):=hy a w hO hN
 have e:((tx p).toList==(tx q).toList)=decide (p=q):=by
  rw[akh,akh]
  by_cases h:p=q
  ·
   rw[dm h,h];exact Yc _
  ·
   rw[dw h];exact oo.2 h
 have hr:(execOp a.eval { dst:=some d,op := .binOp .eql 9 x y 9,type:=ty,pos:=pos,after:=af,guard:=gd}).run prog w = .ok (.value (.bool b)) w:=by
  rw[← hb];simp only[execOp,h1,h2];simp[go_sem,e]
 exact wvz hr hG hal (by rw[hT];rfl)
end Sb


namespace Sb
variable {Q:Exit→Act→Wq→Prop} {l:List Oper} {n:Nat} {T:Nat→Wq→Vq→Prop} {G:Wq→Prop} {al:List Nat} {a0:Act} {k d:Nat} {ty:TypeId} {pos:String} {af:Array Edge} {gd:Option (Nat×Bool)}
def agb:Wq→Vq→Prop:=fun W v => ∃ b,v = .slice (some ⟨b,0,none⟩) 7 7∧b<W.heap.size ∧ ∀ j,j<7→W.cell? ⟨b,j,none⟩=some (.string (tx (bn j)))
theorem atf:yu il agb:=by
 rintro w w' v hb ⟨b,rfl,h1,h2⟩
 exact⟨b,rfl,zh h1 hb.size,fun j hj=>(hb.cell (p:=⟨b,j,none⟩) h1).trans (h2 j hj)⟩
theorem bqn {d:Option Tmp} (hc : ∀ v,ρ (.const v)=v) :
  (execOp ρ { dst:=d,op := .buildSlice 175 7 #[(0,.const (.string ⟨#[109]⟩)),(1,.const (.string ⟨#[107,103]⟩)),(2,.const (.string ⟨#[115]⟩)),(3,.const (.string ⟨#[65]⟩)),(4,.const (.string ⟨#[75]⟩)),(5,.const (.string ⟨#[109,111,108]⟩)),(6,.const (.string ⟨#[99,100]⟩))],type:=ty,pos:=pos,after:=af,guard:=gd}).run prog w = .ok (.value (.slice (some ⟨w.heap.size,0,none⟩) 7 7)) (w.alloc (.cells #[.string ⟨#[109]⟩,.string ⟨#[107,103]⟩,.string ⟨#[115]⟩,.string ⟨#[65]⟩,.string ⟨#[75]⟩,.string ⟨#[109,111,108]⟩,.string ⟨#[99,100]⟩] 9)):=by
 simp only[execOp]
 simp[go_sem,hc]
 try rfl
theorem ccy (hal:al.contains k=false) (Qe : ∀ W W',G W→il W W'→G W') (hT:T k=agb) :
  ib prog Q l n T G il al a0 k { dst:=some d,op := .buildSlice 175 7 #[(0,.const (.string ⟨#[109]⟩)),(1,.const (.string ⟨#[107,103]⟩)),(2,.const (.string ⟨#[115]⟩)),(3,.const (.string ⟨#[65]⟩)),(4,.const (.string ⟨#[75]⟩)),(5,.const (.string ⟨#[109,111,108]⟩)),(6,.const (.string ⟨#[99,100]⟩))],type:=ty,pos:=pos,after:=af,guard:=gd}:=by
 intro a w hG hO hN
 have hb:il w (w.alloc (.cells #[.string ⟨#[109]⟩,.string ⟨#[107,103]⟩,.string ⟨#[115]⟩,.string ⟨#[65]⟩,.string ⟨#[75]⟩,.string ⟨#[109,111,108]⟩,.string ⟨#[99,100]⟩] 9)):=ic (df _ _) _
 have hN:agb (w.alloc (.cells #[.string ⟨#[109]⟩,.string ⟨#[107,103]⟩,.string ⟨#[115]⟩,.string ⟨#[65]⟩,.string ⟨#[75]⟩,.string ⟨#[109,111,108]⟩,.string ⟨#[99,100]⟩] 9)) (.slice (some ⟨w.heap.size,0,none⟩) 7 7):=⟨w.heap.size,rfl,lt_of_block (heap_alloc_new w _),fun j hj=>by
  have h1:=ag (heap_alloc_new w (.cells #[.string ⟨#[109]⟩,.string ⟨#[107,103]⟩,.string ⟨#[115]⟩,.string ⟨#[65]⟩,.string ⟨#[75]⟩,.string ⟨#[109,111,108]⟩,.string ⟨#[99,100]⟩] 9)) j;rw[h1];have hc:j=0∨j=1∨j=2∨j=3∨j=4∨j=5∨j=6:=by omega
  rcases hc with rfl|rfl|rfl|rfl|rfl|rfl|rfl<;>rfl⟩
 exact Dp (P:=prog) (bqn (fun _=>rfl)) ⟨_,rfl,Qe _ _ hG hb,hb,by rw[hT];exact hN,fun h=>by rw[hal]at h;cases h⟩
theorem bir (hal:al.contains k=false) (hx:cu l n T a0 k x (ax (.slice (some ⟨b,0,none⟩) 7 7))) (hy:cu l n T a0 k y (ax (.int .i64 (i:Int)))) (hi:i<7) (hT:T k=ax (.pointer (some ⟨b,i,none⟩))) :
  ib prog Q l n T G il al a0 k { dst:=some d,op := .indexAddr 175 x y,type:=ty,pos:=pos,after:=af,guard:=gd}:=by
 intro a w hG hO hN
 have h1:a.eval x = .slice (some ⟨b,0,none⟩) 7 7:=hx a w hO hN
 have h2:a.eval y = .int .i64 (i:Int):=hy a w hO hN
 have hr:(execOp a.eval { dst:=some d,op := .indexAddr 175 x y,type:=ty,pos:=pos,after:=af,guard:=gd}).run prog w = .ok (.value (.pointer (some ⟨b,i,none⟩))) w:=by
  simp only[execOp,h1,h2];simp[go_sem,hi]
  try (intro h;exfalso;omega)
 exact wvz hr hG hal (by rw[hT];rfl)
theorem cmm (h:k<7):Value.int .i64 (wrap64 ((k:Int)+1))=Value.int .i64 ((k+1:Nat):Int):=He h om
end Sb


namespace Sb
theorem cmu (hal:al.contains k=false) (hx:cu l n T a0 k x (ax (.string s))) (hs:s=⟨#[]⟩) (hT:T k=ax (.bool true)) :
  ib prog Q l n T G il al a0 k { dst:=some d,op := .binOp .eql 9 x (.const (.string ⟨#[]⟩)) 9,type:=ty,pos:=pos,after:=af,guard:=gd}:=by
 intro a w hG hO hN
 have h1:a.eval x = .string s:=hx a w hO hN
 have h3:a.eval (.const (.string ⟨#[]⟩)) = .string ⟨#[]⟩:=rfl
 subst hs
 have q:((⟨#[]⟩:ByteArray).toList==[])=true:=by rw[show(⟨#[]⟩:ByteArray).toList=[]from(agl _).trans rfl];rfl
 have hr:(execOp a.eval { dst:=some d,op := .binOp .eql 9 x (.const (.string ⟨#[]⟩)) 9,type:=ty,pos:=pos,after:=af,guard:=gd}).run prog w = .ok (.value (.bool true)) w:=by
  simp only[execOp,h1,h3];simp[go_sem,q]
 exact wvz hr hG hal (by rw[hT];rfl)
theorem bnl (w:Wq) (hm:Cm w r L) (hs:s=⟨#[]⟩) (h0:findT s L=none) :
  Calls prog 121 #[.map (some r),.string s] w (gp (ko [bz zM,ax (.bool false)]) w):=by
 have HM:=ae hm
 have HS:=ae hs
 have HU:=ae (And.intro (show(findT s L).getD (Dg z7 0 0)=Dg z7 0 0 by rw[h0];rfl) (show(findT s L).isSome=false by rw[h0];rfl))
 clear hm hs h0
 go_enter func121,ntmps121
 go_upto_region 1 with fail
 have hO:=(Own.push (T:=118) (ls:=zM) (Own.nil w) (gy.vs w [.int .i64 0,.int .i64 0,.int .i64 0,.int .i64 0,.int .i64 0,.int .i64 0,.int .i64 0,.int .i64 0,.bool false,.slice none 0 0,.int .i64 0,.bool false,.slice none 0 0] rfl) (w.heap.size) rfl)
 generalize w.alloc (.cells #[.int .i64 0,.int .i64 0,.int .i64 0,.int .i64 0,.int .i64 0,.int .i64 0,.int .i64 0,.int .i64 0,.bool false,.slice none 0 0,.int .i64 0,.bool false,.slice none 0 0] 118)=W0 at *
 have HO:=ae hO
 clear hO
 refine fw 7 [_,_,_,_,_,_,_] [6] HO (dh aF (dh aF (au (Rn rfl (aT 0) (aT 1) (fun W h=>(aa HM).below h.1.bel) (aa HU).1 (aa HU).2 rfl) (dh (aT 2) (pq [bz [.k (eK z7),iv 0,iv 0],ax (.bool false)] (aT 3) (pq _ (aT 3) (Am Ng ai))))))) ?_
 intro v1 V1 hG1 hv1 hne1
 obtain⟨aeh,e6,ym,Bg⟩:=(show qw 44 zU W0.heap.size V1 (v1 6)from hv1 6 de)
 simp only[ay,Act.put,tA,exv (hv1 5 de),e6]
 have hO:=hG1.1
 replace hO:=Own.add (aa HO) hG1.2 ym Bg
 clear ym Bg
 refine kg hO 0 vv (hv1 4 de) ?_
 clear hO
 intro Ep hO hk0
 replace HO:=ae hO
 clear hO hG1 hv1 hne1 hk0
 try clear e6
 go_upto_region 2 with fail
 refine fw 1 [_] [] HO (dh aF ai) ?_
 intro v2 V2 hG2 hv2 hne2
 simp only[ay,Act.put,tA,exv (hv2 0 de)]
 replace HO:=ae hG2.1
 clear hG2 hv2 hne2
 go_upto_region 4 with fail
 refine fw 2 [_,_] [] HO (dh aF (au (cmu rfl (aT 0) (aa HS) rfl) ai)) ?_
 intro v3 V3 hG3 hv3 ji
 simp only[ay,Act.put,tA,exv (hv3 1 de)]
 replace HO:=ae hG3.1
 clear hG3 hv3 ji
 go_upto_region 5 with fail
 refine fw 1 [_] [] HO (au (Gv acs rfl rfl rfl) ai) ?_
 intro v4 V4 hG4 hv4 ma
 simp only[ay,Act.put,tA]
 have hO:=hG4.1
 refine kg hO 1 Bc (hv4 0 de) ?_
 clear hO
 intro Dy hO hk0
 replace HO:=ae hO
 clear hO hG4 hv4 ma hk0
 go_wp2_with fail
 exact vo results121 Km rfl rfl (aa HO) uq rfl rfl
theorem auq {b:UInt8} {n d:Int} {o2:Bool} (w:Wq) (hm:Cm w r L) (hs:s=⟨(b::ls).toArray⟩) (h0:findT s L=none) (hp:Eg b.toNat=(p,q,false)) (hu:(findT ⟨ls.toArray⟩ L).getD (Dg z7 0 0)=Dg f n d) (hu2:(findT ⟨ls.toArray⟩ L).isSome=o2) :
  Calls prog 121 #[.map (some r),.string s] w (gp (ko [bz zM,ax (.bool false)]) w):=by
 have HM:=ae hm
 have HS:=ae hs
 have HU:=ae (And.intro (show(findT s L).getD (Dg z7 0 0)=Dg z7 0 0 by rw[h0];rfl) (show(findT s L).isSome=false by rw[h0];rfl))
 have HV:=ae (And.intro hu hu2)
 have HP:=ae hp
 clear hm hs h0 hu hu2 hp
 go_enter func121,ntmps121
 go_upto_region 1 with fail
 have hO:=(Own.push (T:=118) (ls:=zM) (Own.nil w) (gy.vs w [.int .i64 0,.int .i64 0,.int .i64 0,.int .i64 0,.int .i64 0,.int .i64 0,.int .i64 0,.int .i64 0,.bool false,.slice none 0 0,.int .i64 0,.bool false,.slice none 0 0] rfl) (w.heap.size) rfl)
 generalize w.alloc (.cells #[.int .i64 0,.int .i64 0,.int .i64 0,.int .i64 0,.int .i64 0,.int .i64 0,.int .i64 0,.int .i64 0,.bool false,.slice none 0 0,.int .i64 0,.bool false,.slice none 0 0] 118)=W0 at *
 have HO:=ae hO
 clear hO
 refine fw 7 [_,_,_,_,_,_,_] [6] HO (dh aF (dh aF (au (Rn rfl (aT 0) (aT 1) (fun W h=>(aa HM).below h.1.bel) (aa HU).1 (aa HU).2 rfl) (dh (aT 2) (pq [bz [.k (eK z7),iv 0,iv 0],ax (.bool false)] (aT 3) (pq _ (aT 3) (Am Ng ai))))))) ?_
 intro v1 V1 hG1 hv1 hne1
 obtain⟨aeh,e6,ym,Bg⟩:=(show qw 44 zU W0.heap.size V1 (v1 6)from hv1 6 de)
 simp only[ay,Act.put,tA,exv (hv1 5 de),e6]
 have hO:=hG1.1
 replace hO:=Own.add (aa HO) hG1.2 ym Bg
 clear ym Bg
 refine kg hO 0 vv (hv1 4 de) ?_
 clear hO
 intro Ep hO hk0
 replace HO:=ae hO
 clear hO hG1 hv1 hne1 hk0
 try clear e6
 go_upto_region 2 with fail
 refine fw 1 [_] [] HO (dh aF ai) ?_
 intro v2 V2 hG2 hv2 hne2
 simp only[ay,Act.put,tA,exv (hv2 0 de)]
 replace HO:=ae hG2.1
 clear hG2 hv2 hne2
 go_upto_region 4 with fail
 refine fw 2 [_,_] [] HO (dh aF (au (bax rfl (aT 0) (aa HS) rfl) ai)) ?_
 intro v3 V3 hG3 hv3 ji
 simp only[ay,Act.put,tA,exv (hv3 1 de)]
 replace HO:=ae hG3.1
 clear hG3 hv3 ji
 go_upto_region 6 with fail
 refine fw 7 [_,_,_,_,_,_,_] [6] HO (dh aF (au (Pf rfl (aT 0) (aa HS) rfl) (au (sc1 func172 (aT 1) (fun W v0 hG h0=>by cases h0;exact adw (aa HP) W)) (dh (aT 2) (pq [bz [iv p,iv q],ax (.bool false)] (aT 3) (pq _ (aT 3) (Am Lr ai))))))) ?_
 intro v4 V4 hG4 hv4 ma
 obtain⟨alv,e6,ym,Bg⟩:=(show qw 23 zR V3.heap.size V4 (v4 6)from hv4 6 de)
 simp only[ay,Act.put,tA,exv (hv4 5 de),e6]
 have hO:=hG4.1
 replace hO:=Own.add (aa HO) hG4.2 ym Bg
 clear ym Bg
 refine kg hO 0 Gg (hv4 4 de) ?_
 clear hO
 intro Dy hO hk0
 replace HO:=ae hO
 clear hO hG4 hv4 ma hk0
 try clear e6
 go_upto_region 7 with fail
 refine fw 8 [_,_,_,_,_,_,_,_] [7] HO (dh aF (dh aF (au (Dq rfl (aT 1) (aa HS) rfl) (au (Rn rfl (aT 0) (aT 2) (fun W h=>(aa HM).below h.1.bel) (aa HV).1 (aa HV).2 rfl) (dh (aT 3) (pq [bz [.k (eK f),iv n,iv d],ax (.bool o2)] (aT 4) (pq _ (aT 4) (Am Ng ai)))))))) ?_
 intro v5 V5 mo hv5 hne5
 obtain⟨Vr,e7,Fy,Lb⟩:=(show qw 44 zU Dy.heap.size V5 (v5 7)from hv5 7 de)
 simp only[ay,Act.put,tA,show v5 6 = .bool o2 from hv5 6 de,e7]
 have hO:=mo.1
 replace hO:=Own.add (aa HO) mo.2 Fy Lb
 clear Fy Lb
 refine kg hO 0 vv (hv5 5 de) ?_
 clear hO
 intro Jv hO hk0
 replace HO:=ae hO
 clear hO mo hv5 hne5 hk0
 try clear e7
 go_upto_region 8 with fail
 refine fw 11 [_,_,_,_,_,_,_,_,_,_,_] [] HO (dh aF (au (tq rfl (aT 0) rfl rfl) (dh (aT 1) (ve (ve (au (qj rfl (aT 2) (fe _)) (dh (aT 5) (ve (ve (ve (au (qj rfl (aT 6) (fe _)) ai))))))))))) ?_
 intro v6 V6 qb hv6 vw
 simp only[ay,Act.put,tA,exv (hv6 10 de)]
 replace HO:=ae qb.1
 clear qb hv6 vw
 go_upto_region 9 with fail
 refine fw 1 [_] [] HO (au (Gv acs rfl rfl rfl) ai) ?_
 intro v7 V7 vg hv7 zw
 simp only[ay,Act.put,tA]
 have hO:=vg.1
 refine kg hO 3 Bc (hv7 0 de) ?_
 clear hO
 intro Xm hO hk0
 replace HO:=ae hO
 clear hO vg hv7 zw hk0
 go_wp2_with fail
 exact vo results121 Km rfl rfl (aa HO) Uh rfl rfl
theorem bhm {b:UInt8} {n d:Int} (w:Wq) (hm:Cm w r L) (hs:s=⟨(b::ls).toArray⟩) (h0:findT s L=none) (hp:Eg b.toNat=(p,q,true)) (hu:(findT ⟨ls.toArray⟩ L).getD (Dg z7 0 0)=Dg f n d) (hu2:(findT ⟨ls.toArray⟩ L).isSome=false) :
  Calls prog 121 #[.map (some r),.string s] w (gp (ko [bz zM,ax (.bool false)]) w):=by
 have HM:=ae hm
 have HS:=ae hs
 have HU:=ae (And.intro (show(findT s L).getD (Dg z7 0 0)=Dg z7 0 0 by rw[h0];rfl) (show(findT s L).isSome=false by rw[h0];rfl))
 have HV:=ae (And.intro hu hu2)
 have HP:=ae hp
 clear hm hs h0 hu hu2 hp
 go_enter func121,ntmps121
 go_upto_region 1 with fail
 have hO:=(Own.push (T:=118) (ls:=zM) (Own.nil w) (gy.vs w [.int .i64 0,.int .i64 0,.int .i64 0,.int .i64 0,.int .i64 0,.int .i64 0,.int .i64 0,.int .i64 0,.bool false,.slice none 0 0,.int .i64 0,.bool false,.slice none 0 0] rfl) (w.heap.size) rfl)
 generalize w.alloc (.cells #[.int .i64 0,.int .i64 0,.int .i64 0,.int .i64 0,.int .i64 0,.int .i64 0,.int .i64 0,.int .i64 0,.bool false,.slice none 0 0,.int .i64 0,.bool false,.slice none 0 0] 118)=W0 at *
 have HO:=ae hO
 clear hO
 refine fw 7 [_,_,_,_,_,_,_] [6] HO (dh aF (dh aF (au (Rn rfl (aT 0) (aT 1) (fun W h=>(aa HM).below h.1.bel) (aa HU).1 (aa HU).2 rfl) (dh (aT 2) (pq [bz [.k (eK z7),iv 0,iv 0],ax (.bool false)] (aT 3) (pq _ (aT 3) (Am Ng ai))))))) ?_
 intro v1 V1 hG1 hv1 hne1
 obtain⟨aeh,e6,ym,Bg⟩:=(show qw 44 zU W0.heap.size V1 (v1 6)from hv1 6 de)
 simp only[ay,Act.put,tA,exv (hv1 5 de),e6]
 have hO:=hG1.1
 replace hO:=Own.add (aa HO) hG1.2 ym Bg
 clear ym Bg
 refine kg hO 0 vv (hv1 4 de) ?_
 clear hO
 intro Ep hO hk0
 replace HO:=ae hO
 clear hO hG1 hv1 hne1 hk0
 try clear e6
 go_upto_region 2 with fail
 refine fw 1 [_] [] HO (dh aF ai) ?_
 intro v2 V2 hG2 hv2 hne2
 simp only[ay,Act.put,tA,exv (hv2 0 de)]
 replace HO:=ae hG2.1
 clear hG2 hv2 hne2
 go_upto_region 4 with fail
 refine fw 2 [_,_] [] HO (dh aF (au (bax rfl (aT 0) (aa HS) rfl) ai)) ?_
 intro v3 V3 hG3 hv3 ji
 simp only[ay,Act.put,tA,exv (hv3 1 de)]
 replace HO:=ae hG3.1
 clear hG3 hv3 ji
 go_upto_region 6 with fail
 refine fw 7 [_,_,_,_,_,_,_] [6] HO (dh aF (au (Pf rfl (aT 0) (aa HS) rfl) (au (sc1 func172 (aT 1) (fun W v0 hG h0=>by cases h0;exact adw (aa HP) W)) (dh (aT 2) (pq [bz [iv p,iv q],ax (.bool true)] (aT 3) (pq _ (aT 3) (Am Lr ai))))))) ?_
 intro v4 V4 hG4 hv4 ma
 obtain⟨alv,e6,ym,Bg⟩:=(show qw 23 zR V3.heap.size V4 (v4 6)from hv4 6 de)
 simp only[ay,Act.put,tA,exv (hv4 5 de),e6]
 have hO:=hG4.1
 replace hO:=Own.add (aa HO) hG4.2 ym Bg
 clear ym Bg
 refine kg hO 0 Gg (hv4 4 de) ?_
 clear hO
 intro Dy hO hk0
 replace HO:=ae hO
 clear hO hG4 hv4 ma hk0
 try clear e6
 go_upto_region 7 with fail
 refine fw 8 [_,_,_,_,_,_,_,_] [7] HO (dh aF (dh aF (au (Dq rfl (aT 1) (aa HS) rfl) (au (Rn rfl (aT 0) (aT 2) (fun W h=>(aa HM).below h.1.bel) (aa HV).1 (aa HV).2 rfl) (dh (aT 3) (pq [bz [.k (eK f),iv n,iv d],ax (.bool false)] (aT 4) (pq _ (aT 4) (Am Ng ai)))))))) ?_
 intro v5 V5 mo hv5 hne5
 obtain⟨Vr,e7,Fy,Lb⟩:=(show qw 44 zU Dy.heap.size V5 (v5 7)from hv5 7 de)
 simp only[ay,Act.put,tA,exv (hv5 6 de),e7]
 have hO:=mo.1
 replace hO:=Own.add (aa HO) mo.2 Fy Lb
 clear Fy Lb
 refine kg hO 0 vv (hv5 5 de) ?_
 clear hO
 intro Jv hO hk0
 replace HO:=ae hO
 clear hO mo hv5 hne5 hk0
 try clear e7
 go_upto_region 8 with fail
 refine fw 11 [_,_,_,_,_,_,_,_,_,_,_] [] HO (dh aF (au (tq rfl (aT 0) rfl rfl) (dh (aT 1) (ku (jh rfl aF) (ku (tq rfl (aT 3) rfl rfl) (au (mh rfl (aT 2) (aT 4)) (dh (aT 5) (ve (ve (ve (au (qj rfl (aT 6) (fe _)) ai))))))))))) ?_
 intro v6 V6 qb hv6 vw
 simp only[ay,Act.put,tA,exv (hv6 10 de)]
 replace HO:=ae qb.1
 clear qb hv6 vw
 go_upto_region 9 with fail
 refine fw 1 [_] [] HO (au (Gv acs rfl rfl rfl) ai) ?_
 intro v7 V7 vg hv7 zw
 simp only[ay,Act.put,tA]
 have hO:=vg.1
 refine kg hO 3 Bc (hv7 0 de) ?_
 clear hO
 intro Xm hO hk0
 replace HO:=ae hO
 clear hO vg hv7 zw hk0
 go_wp2_with fail
 exact vo results121 Km rfl rfl (aa HO) Uh rfl rfl
end Sb


namespace Sb
theorem cek {x:Rat} (w:Wq) (hT:yg w) (hf : ∀ W r,yg W→Cm W r Co→Calls prog 121 #[.map (some r),.string s] W (gp (ko [bz [.k (eK f),.q x],ax (.bool true)]) W)) :
  Calls prog 50 #[.string s] w (gp (Kg (xk f x)) w):=by
 have HF:=ae hf
 have HT:=ae hT
 clear hf hT
 go_enter func50,ntmps50
 go_upto_region 1 with fail
 have hO:=(Own.push (T:=44) (ls:=zU) (Own.nil w) (gy.vs w [.int .i64 0,.int .i64 0,.int .i64 0,.int .i64 0,.int .i64 0,.int .i64 0,.int .i64 0,.int .i64 0,.int .i64 0] rfl) (w.heap.size) rfl)
 generalize w.alloc (.cells #[.int .i64 0,.int .i64 0,.int .i64 0,.int .i64 0,.int .i64 0,.int .i64 0,.int .i64 0,.int .i64 0,.int .i64 0] 44)=W0 at *
 have HO:=ae hO
 clear hO
 refine yc 7 19 (ui [aeo Co,ax (.string s),ko [bz [.k (eK f),.q x],ax (.bool true)],ko [bz [.k (eK f),.q x],ax (.bool true)],bz [.k (eK f),.q x],ax (.bool true),qw 118 zM W0.heap.size]) (iw w _ W0) il [6] kr rfl (qm.pick ⟨Wx,fo _,rq ⟨(Ae _),(fo _),trivial⟩,rq ⟨(Ae _),(fo _),trivial⟩,Ae _,fo _,Nf _ _ _,trivial⟩) (iw.begin (aa HO))
  (au (Uc func120 kr rfl iw.step  (fun W  hG  => aif W))
  (au (jh rfl aF)
  (au (sc2 func121 (aT 0) (aT 1) (fun W v0 v1 hG h0 h1=>by obtain⟨r,rfl,hm⟩:=h0;cases h1;exact(aa HF) W r ((aa HT).below hG.bel) hm))
  (au (jh rfl (aT 2))
  (au (xq (ts:=[bz [.k (eK f),.q x],ax (.bool true)]) rfl (aT 3) (sw rfl) rfl)
  (au (xq (ts:=[bz [.k (eK f),.q x],ax (.bool true)]) rfl (aT 3) (sw rfl) rfl)
  (au (Ud Xv rfl iw.step iw.size rfl (Yv (by intro j hj;simp at hj;(repeat' (first|(rcases hj with rfl|hj)))<;>first|(subst hj;exact⟨_,_,_,rfl⟩)|exact⟨_,_,_,rfl⟩)))
  ai))))))) ?_
 intro v1 V1 hG1 hv1 hne1
 obtain⟨aeh,e6,ym,Bg⟩:=(show qw 118 zM W0.heap.size V1 (v1 6)from hv1 6 de)
 simp only[ay,Act.put,tA,exv (hv1 5 de),e6]
 have hO:=hG1.1
 replace hO:=Own.add (aa HO) hG1.2 ym Bg
 clear ym Bg
 refine kg hO 0 Bc (hv1 4 de) ?_
 clear hO
 intro Ep hO hk0
 replace HO:=ae hO
 clear hO hG1 hv1 hne1 hk0
 try clear e6
 go_upto_region 2 with fail
 refine fw 2 [_,_] [] HO (dh aF (au (tq rfl (aT 0) rfl rfl) ai)) ?_
 intro v2 V2 hG2 hv2 hne2
 simp only[ay,Act.put,tA,exv (hv2 1 de)]
 replace HO:=ae hG2.1
 clear hG2 hv2 hne2
 go_upto_region 4 with fail
 refine fw 4 [_,_,_,_] [] HO (xh Vk me0 aF (au (sc1 func105 (aT 0) (fun W v0 hG h0=>bjo W _ h0)) (pq [bz [.k (eK (xk f x).f),iv (xk f x).n,iv (xk f x).d],ax (.int .i64 (xk f x).e)] (aT 1) (pq _ (aT 1) ai)))) ?_
 intro v3 V3 hG3 hv3 ji
 simp only[ay,Act.put,tA,show v3 3 = .int .i64 (xk f x).e from hv3 3 de]
 have hO:=hG3.1
 refine kg hO 1 vv (hv3 2 de) ?_
 clear hO
 intro Gc hO hk0
 replace HO:=ae hO
 clear hO hG3 hv3 ji hk0
 go_wp2_with fail
 exact vo results50 Bq rfl rfl (aa HO) uq rfl rfl
def Oc (l:List Int):Nat→Int:=fun j=>l.getD j 0
def Ai:List (ByteArray×(Nat→Int)×Int×Int):=[(⟨#[109]⟩,Oc [1],1,1),(⟨#[107,103]⟩,Oc [0,1],1,1),(⟨#[115]⟩,Oc [0,0,1],1,1),(⟨#[65]⟩,Oc [0,0,0,1],1,1),(⟨#[75]⟩,Oc [0,0,0,0,1],1,1),(⟨#[109,111,108]⟩,Oc [0,0,0,0,0,1],1,1),(⟨#[99,100]⟩,Oc [0,0,0,0,0,0,1],1,1),(⟨#[103]⟩,Oc [0,1],1,1000),(⟨#[72,122]⟩,Oc [0,0,(-1)],1,1),(⟨#[78]⟩,Oc [1,1,(-2)],1,1),(⟨#[80,97]⟩,Oc [(-1),1,(-2)],1,1),(⟨#[74]⟩,Oc [2,1,(-2)],1,1),(⟨#[87]⟩,Oc [2,1,(-3)],1,1),(⟨#[67]⟩,Oc [0,0,1,1],1,1),(⟨#[86]⟩,Oc [2,1,(-3),(-1)],1,1),(⟨#[79,104,109]⟩,Oc [2,1,(-3),(-2)],1,1),(⟨#[83]⟩,Oc [(-2),(-1),3,2],1,1),(⟨#[70]⟩,Oc [(-2),(-1),4,2],1,1),(⟨#[87,98]⟩,Oc [2,1,(-2),(-1)],1,1),(⟨#[72]⟩,Oc [2,1,(-2),(-2)],1,1),(⟨#[109,105,110]⟩,Oc [0,0,1],60,1),(⟨#[104]⟩,Oc [0,0,1],3600,1),(⟨#[76]⟩,Oc [3],1,1000),(⟨#[98,97,114]⟩,Oc [(-1),1,(-2)],100000,1),(⟨#[114,97,100]⟩,Oc [],1,1)]
theorem cgq:Co=Ai.map fun e=>(e.1,Dg e.2.1 e.2.2.1 e.2.2.2):=by kernel_rfl
def zy (s:ByteArray):List (ByteArray×(Nat→Int)×Int×Int)→Option ((Nat→Int)×Int×Int)
 | []=>none
 | e::l=>if s=e.1 then some e.2 else zy s l
theorem ayv (s:ByteArray) : ∀ l:List (ByteArray×(Nat→Int)×Int×Int),findT s (l.map fun e=>(e.1,Dg e.2.1 e.2.2.1 e.2.2.2))=(zy s l).map fun e=>Dg e.1 e.2.1 e.2.2
 | []=>rfl
 | e::l=>by
  show(if s=e.1 then some (Dg e.2.1 e.2.2.1 e.2.2.2)else findT s (l.map _))=(if s=e.1 then some e.2 else zy s l).map _
  by_cases h:s=e.1
  ·
   rw[if_pos h,if_pos h];rfl
  ·
   rw[if_neg h,if_neg h];exact ayv s l
theorem adt (s:ByteArray):findT s Co=(zy s Ai).map fun e=>Dg e.1 e.2.1 e.2.2:=by rw[cgq];exact ayv s Ai
theorem Ti {e:(Nat→Int)×Int×Int} (h:zy s Ai=some e):qi e.2.1 e.2.2∧1≤e.2.1∧Li e.1:=by
 have key : ∀ l:List (ByteArray×(Nat→Int)×Int×Int),zy s l=some e → ∃ k,(k,e)∈l:=fun l=>by
  induction l with
  | nil=>intro h;cases h
  | cons x l ih =>
   intro h;have h':(if s=x.1 then some x.2 else zy s l)=some e:=h
   by_cases g:s=x.1
   ·
    rw[if_pos g]at h'
    cases h'
    exact⟨x.1,Ah⟩
   ·
    rw[if_neg g]at h';obtain⟨k,hk⟩:=ih h';exact⟨k,Fw _ hk⟩
 obtain⟨k,hk⟩:=key Ai h
 have hall : ∀ x∈Ai,qi x.2.2.1 x.2.2.2∧1≤x.2.2.1∧Li x.2.1:=by decide +kernel
 exact hall _ hk
theorem apk {b:Int} (h:Eg b=(p,q,true)):qi p q∧1≤p:=by
 unfold Eg at h
 repeat' split at h
 all_goals (cases h;try exact⟨by unfold qi;decide,by decide⟩)
def Qv (b:UInt8) (ls:List UInt8):Option ((Nat→Int)×Rat) :=
 if (Eg b.toNat).2.2=true∧Ld ⟨ls.toArray⟩=false then(zy ⟨ls.toArray⟩ Ai).map fun e=>(e.1,jw (Eg b.toNat).1 (Eg b.toNat).2.1*jw e.2.1 e.2.2)else none
def cag:List UInt8→Option ((Nat→Int)×Rat)
 | []=>none
 | b::ls=>Qv b ls
def Af (s:ByteArray):Option ((Nat→Int)×Rat):=match zy s Ai with
 | some e=>some (e.1,jw e.2.1 e.2.2)
 | none=>cag s.data.toList
theorem ahn (e:zy s Ai=none):Af s=cag s.data.toList:=by unfold Af;rw[e]
theorem bjm (s:ByteArray) (w:Wq) (r:Nat) (hm:Cm w r Co) (h:Af s=none):Calls prog 121 #[.map (some r),.string s] w (gp (ko [bz zM,ax (.bool false)]) w):=by
 have h1:=adt s
 cases e1:zy s Ai with
 | some e=>unfold Af at h;rw[e1]at h;cases h
 | none =>
  rw[e1]at h1;rw[ahn e1]at h
  cases e2:s.data.toList with
  | nil=>exact bnl w hm ((Fz s).symm.trans (by rw[e2])) h1
  | cons b ls =>
   have hs:s=⟨(b::ls).toArray⟩:=(Fz s).symm.trans (by rw[e2]);have h2:=adt ⟨ls.toArray⟩;obtain⟨p,q,o,e3⟩ : ∃ p q o,Eg b.toNat=(p,q,o):=⟨_,_,_,rfl⟩
   rw[e2]at h;have h:Qv b ls=none:=h;unfold Qv at h;rw[e3]at h
   cases o with
   | false =>
    cases e4:zy ⟨ls.toArray⟩ Ai with
    | none=>rw[e4]at h2;exact auq (f:=z7) (n:=0) (d:=0) w hm hs h1 e3 (by rw[h2];try rfl) (by rw[h2];try rfl)
    | some e=>rw[e4]at h2;exact auq (f:=e.1) (n:=e.2.1) (d:=e.2.2) w hm hs h1 e3 (by rw[h2];try rfl) (by rw[h2];try rfl)
   | true =>
    cases e4:zy ⟨ls.toArray⟩ Ai with
    | none=>rw[e4]at h2;exact bhm (f:=z7) (n:=0) (d:=0) w hm hs h1 e3 (by rw[h2];try rfl) (by rw[h2];try rfl)
    | some e =>
     rw[e4]at h2
     cases e5:Ld ⟨ls.toArray⟩with
     | true=>exact ayu w hm hs h1 e3 h2 e5
     | false=>rw[e5,e4,if_pos ⟨rfl,rfl⟩]at h;cases h
theorem find_ok {x:Rat} (s:ByteArray) (w:Wq) (r:Nat) (hT:yg w) (hm:Cm w r Co) (h:Af s=some (f,x)):Calls prog 121 #[.map (some r),.string s] w (gp (ko [bz [.k (eK f),.q x],ax (.bool true)]) w):=by
 have h1:=adt s
 cases e1:zy s Ai with
 | some e =>
  rw[e1]at h1;unfold Af at h;rw[e1]at h
  cases h
  exact aqg w hm h1 (Ti e1).1
 | none =>
  rw[e1]at h1;rw[ahn e1]at h
  cases e2:s.data.toList with
  | nil=>rw[e2]at h;cases h
  | cons b ls =>
   have hs:s=⟨(b::ls).toArray⟩:=(Fz s).symm.trans (by rw[e2]);have h2:=adt ⟨ls.toArray⟩;obtain⟨p,q,o,e3⟩ : ∃ p q o,Eg b.toNat=(p,q,o):=⟨_,_,_,rfl⟩
   rw[e2]at h;have h:Qv b ls=some (f,x):=h;unfold Qv at h;rw[e3]at h
   by_cases g:o=true∧Ld ⟨ls.toArray⟩=false
   ·
    obtain⟨rfl,e5⟩:=g;rw[if_pos ⟨rfl,e5⟩]at h
    cases e4:zy ⟨ls.toArray⟩ Ai with
    | none=>rw[e4]at h;cases h
    | some e =>
     rw[e4]at h h2
     cases h
     have ok:=Ti e4;exact bex w hm hs h1 e3 h2 e5 hT (apk e3).1 ok.1 fun j hj=>by
      have h9:=ok.2.2 j hj;show wrap64 (0+e.1 j)=e.1 j;rw[Int.zero_add];exact Cs _ om
   ·
    rw[if_neg g]at h;cases h
def aha (s:ByteArray):Xy:=match Af s with
 | some (f,x)=>xk f x
 | none=>⟨z7,0,0,4⟩
theorem bwp (s:ByteArray) (w:Wq) (hT:yg w):Calls prog 50 #[.string s] w (gp (Kg (aha s)) w):=by
 unfold aha
 cases e:Af s with
 | none=>exact ayd w fun W r hm=>bjm s W r hm e
 | some v=>exact cek w hT fun W r hT hm=>find_ok s W r hT hm e
end Sb

end Go.Proofs.YtfgeaakhlcaibaaGreatDoor
