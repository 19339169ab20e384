/- Texts beneath a law of layer 1. -/
import Derived.Test.YtfgeaakhlcaibaaGreatDoorDc3
import Derived.BigQuiet
import Derived.Deep.QuietTactic
import Derived.Laws.Bits64b
import Derived.Deep.CutBlock
import Derived.Deep.DeepCutAuto
set_option maxRecDepth 100000
set_option maxHeartbeats 16000000
namespace Go.Proofs.YtfgeaakhlcaibaaGreatDoor
open Go.RowKit
open Go.Proofs.Tryz
open Go renaming World → Wq
open Go renaming Value → Vq
variable {ty tb:TypeId} {pos:String} {af:Array Edge} {gd:Option (Nat×Bool)} {n k d b F B K q c cap i top head c1 m s next r:Nat} {w W w' Wp W':Wq} {x y x1 x2:Operand} {Q:Exit→Act→Wq→Prop} {P:Program} {T:Nat→Wq→Vq→Prop} {G:Wq→Prop} {al ul vl l1 zc:List Nat} {l:List Oper} {a0 a:Act} {z o s1 z1:Int} {ρ:Operand→Vq} {fn:Func} {ats:Array TypeId} {v a1 u0 u1:Vq} {A1 A2:Wq→Vq→Prop} {A:Option Addr} {ek:Bool} {vs:Array Vq}

theorem apx (s1:Int) (ek:Bool) (A1:Option Addr) (c1:Nat) (l1:List Nat) (z1:Int) (s2:Int) (di:Bool) (A2:Option Addr) (c2:Nat) (l2:List Nat) (z2:Int) (w:Wq)
  (h1:iy w s1 ek A1 c1 l1 z1) (h2:iy w s2 di A2 c2 l2 z2) (hl1:l1.length≤lim) (hl2:l2.length≤lim) :
  Calls prog 147 #[.agg #[.int .i64 s1,.bool ek,.slice A1 l1.length c1],.agg #[.int .i64 s2,.bool di,.slice A2 l2.length c2]] w fun e w'=>Jy w (z1*z2) e w':=by
 have zf:=ae (fun W=>Aq s1 ek A1 c1 l1.length W)
 have HS2:=ae (fun W=>Aq s2 di A2 c2 l2.length W)
 have hz:=bci z1 z2
 have LEN : ∀ (A5 A6:Option Addr) (c5 c6:Nat) (l5 l6:List Nat) (W:Wq),qf W A5 c5 l5 z1.natAbs→qf W A6 c6 l6 z2.natAbs→l5.length+l6.length≤35184372088832:=fun _ _ _ _ _ _ _ g1 g2=>by
  have e1:=g1.len h1.aik;have e2:=g2.len h2.aik;rw[Hy]at hl1 hl2;omega
 have G1 : ∀ W0,Below w.heap.size w W0→Hid (∀ W,Below W0.heap.size W0 W→Calls prog 159 #[.agg #[.int .i64 s1,.bool ek,.slice A1 l1.length c1]] W fun e w'=>e = .returned (.int .i64 (zm z1))∧Below W.heap.size W w'):=fun W0 h0 W hW=>Gt s1 ek A1 c1 l1 z1 W (iy.below h1 (az h0 hW))
 have G2 : ∀ W0,Below w.heap.size w W0→Hid (∀ W,Below W0.heap.size W0 W→Calls prog 159 #[.agg #[.int .i64 s2,.bool di,.slice A2 l2.length c2]] W fun e w'=>e = .returned (.int .i64 (zm z2))∧Below W.heap.size W w'):=fun W0 h0 W hW=>Gt s2 di A2 c2 l2 z2 W (iy.below h2 (az h0 hW))
 have B1 : ∀ W0,Below w.heap.size w W0→Hid (∀ W,Below W0.heap.size W0 W→Calls prog 191 #[.agg #[.int .i64 s1,.bool ek,.slice A1 l1.length c1]] W fun e w'=>Qn W z1.natAbs e w'):=fun W0 h0 W hW=>Oq s1 ek A1 c1 l1 z1 W (iy.below h1 (az h0 hW))
 have B2 : ∀ W0,Below w.heap.size w W0→Hid (∀ W,Below W0.heap.size W0 W→Calls prog 191 #[.agg #[.int .i64 s2,.bool di,.slice A2 l2.length c2]] W fun e w'=>Qn W z2.natAbs e w'):=fun W0 h0 W hW=>Oq s2 di A2 c2 l2 z2 W (iy.below h2 (az h0 hW))
 have ho1 : -1≤zm z1*zm z2∧zm z1*zm z2≤1:=by unfold zm;(repeat' split)<;>omega
 have ahz:=h1.bounds
 have ahy:=h2.bounds
 have hsz1:l1.length=0→s1.natAbs=z1.natAbs∧z1.natAbs<We:=fun h=>by obtain⟨e,_,e3⟩:=h1.Io h;rw[e];exact⟨rfl,e3⟩
 have hsz2:l2.length=0→s2.natAbs=z2.natAbs∧z2.natAbs<We:=fun h=>by obtain⟨e,_,e3⟩:=h2.Io h;rw[e];exact⟨rfl,e3⟩
 have Z1:=ae (fun W=>Xa s1 ahz.1 ahz.2 W)
 have Z2:=ae (fun W=>Xa s2 ahy.1 ahy.2 W)
 obtain⟨m1,hm1⟩ : ∃ o,o=z1.natAbs:=⟨_,rfl⟩
 obtain⟨m2,hm2⟩ : ∃ o,o=z2.natAbs:=⟨_,rfl⟩
 obtain⟨o1,beh⟩ : ∃ o,o=zm z1:=⟨_,rfl⟩
 obtain⟨o2,beg⟩ : ∃ o,o=zm z2:=⟨_,rfl⟩
 rw[← hm1]at B1 LEN hz hsz1
 rw[← hm2]at B2 LEN hz hsz2
 rw[← beh]at G1 hz ho1
 rw[← beg]at G2 hz ho1
 obtain⟨op,hop⟩ : ∃ o,o=o1*o2:=⟨_,rfl⟩
 have e1:IntKind.i64.wrap (o1*o2)=op:=by rw[hop];exact Es _ om
 have e1':wrap64 (o1*o2)=op:=by rw[hop];exact Cs _ om
 rw[← hop]at hz
 obtain⟨ng,hng⟩ : ∃ b,b=decide (op<0):=⟨_,rfl⟩
 rw[← hng]at hz
 obtain⟨Z,hZ⟩ : ∃ o,o=z1*z2:=⟨_,rfl⟩
 rw[← hZ]at hz ⊢
 have HZ:=bg hz.symm
 have Ki:=ae G1;have HG2:=ae G2;have HB1:=ae B1;have HB2:=ae B2;have HLEN:=ae LEN
 have ngE:=hng.symm
 clear hm1 hm2 beh beg ho1 hop hng hz hZ G1 G2 B1 B2 h1 h2 ahz ahy LEN hl1 hl2
 by_cases hs:l1.length=0∧l2.length=0
 ·
  obtain⟨a1,a2⟩:=hs;rw[dm a1]at zf;rw[dm a2]at HS2;obtain⟨y1,y2⟩:=hsz1 a1;obtain⟨y3,y4⟩:=hsz2 a2;rw[y1]at Z1;rw[y3]at Z2;have hB1:m1<eu:=by have:=y2;rw[Df]at this;rw[ja];omega
  have hB2:m2<eu:=by have:=y4;rw[Df]at this;rw[ja];omega
  obtain⟨hi',hhi⟩ : ∃ t,t=m1*m2/eu:=⟨_,rfl⟩
  obtain⟨lo,hlo⟩ : ∃ t,t=m1*m2%eu:=⟨_,rfl⟩
  have hM:=ala m1 m2 hB1 hB2;rw[← hhi,← hlo]at hM;have HM:=ae hM;have Vp:lo<eu:=by rw[hlo];exact Bf _ (Iz Uy zg)
  have HW:=ae (fun W=>agw ng lo Vp W);have Jb:hi'=0→lo=m1*m2:=fun h=>by
   have:=Fv (m1*m2) eu;rw[← hhi,← hlo,h]at this;omega
  by_cases hh:hi'=0
  ·
   have hb0:((hi':Int)==0)=true:=Iw.2 om;have hW' : ∀ W,Calls prog 185 #[.bool ng,.int .u64 ((lo:Nat):Int)] W fun e w'=>Jy W Z e w':=fun W=>by
    have:=(aa HW) W;rw[Jb hh]at this ⊢;rw[HZ.out];exact this
   have HWW:=ae hW';clear hW' HW Jb hh hlo hhi hM hB1 hB2 Vp y1 y2 y3 y4 hsz1 hsz2 a1 a2
   go_enter func147,ntmps147
   go_wp2_with fail;obtain⟨n1,n2,n3,hsz,hw0⟩:=wm w (.cells #[.int .i64 s1,.bool ek,.slice A1 l1.length c1] 77) (.cells #[.int .i64 s2,.bool di,.slice A2 l2.length c2] 77) (.cells #[.int .i64 0,.bool false,.slice none 0 0] 77);generalize (((w.alloc (.cells #[.int .i64 s1,.bool ek,.slice A1 l1.length c1] 77)).alloc (.cells #[.int .i64 s2,.bool di,.slice A2 l2.length c2] 77)).alloc (.cells #[.int .i64 0,.bool false,.slice none 0 0] 77))=W0 at *;have k1:=ag n1 0;have k2:=ag n1 1;have k3:=ag n1 2;simp only[wh,nk,ni,mq]at k1 k2 k3;have k4:=ag n2 0;have k5:=ag n2 1;have k6:=ag n2 2;simp only[wh,nk,ni,mq]at k4 k5 k6;have q0:w.heap.size<W0.heap.size:=by omega
   have q1:w.heap.size+1<W0.heap.size:=by omega
   have q2:w.heap.size+1+1<W0.heap.size:=by omega
   have k7:=ag n3 0;have k8:=ag n3 1;have k9:=ag n3 2;simp only[wh,nk,ni,mq]at k7 k8 k9;have f7:=ah n3 0;have f8:=ah n3 1;have f9:=ah n3 2;have N3:=bg n3;clear n3;clear n1 n2;have G1:=(aa Ki) W0 hw0;have G2:=(aa HG2) W0 hw0;have B1:=(aa HB1) W0 hw0;have B2:=(aa HB2) W0 hw0
   go_region_held3 (fun w'=>w'.cell? ⟨w.heap.size,0,none⟩=some (.int .i64 s1)∧w'.cell? ⟨w.heap.size,1,none⟩=some (.bool ek)∧w'.cell? ⟨w.heap.size,2,none⟩=some (.slice A1 l1.length c1)∧w'.cell? ⟨w.heap.size+1,0,none⟩=some (.int .i64 s2)∧w'.cell? ⟨w.heap.size+1,1,none⟩=some (.bool di)∧w'.cell? ⟨w.heap.size+1,2,none⟩=some (.slice A2 l2.length c2)) ((first|exact⟨(hc _ _ q0).trans k1,(hc _ _ q0).trans k2,(hc _ _ q0).trans k3,(hc _ _ q1).trans k4,(hc _ _ q1).trans k5,(hc _ _ q1).trans k6⟩|exact⟨k1,k2,k3,k4,k5,k6⟩)) (first|(go_at_call_of 159 (Value.agg #[.int .i64 s1,.bool ek,.slice A1 l1.length c1]);refine((aa G1) _ bem).mono ?_;rintro e w' ⟨rfl,hb⟩;have hbw:=cz (w:=W0) bem hb;obtain⟨hc,hfz⟩:=fq hbw)|(go_at_call_of 159 (Value.agg #[.int .i64 s2,.bool di,.slice A2 l2.length c2]);refine((aa G2) _ bem).mono ?_;rintro e w' ⟨rfl,hb⟩;have hbw:=cz (w:=W0) bem hb;obtain⟨hc,hfz⟩:=fq hbw))
   go_wp2_with fail;refine((aa zf) _).mono ?_
   rintro e w1 ⟨rfl,hw1⟩;have Br:=tu (w:=W0) bem hw1;obtain⟨hc,hfz⟩:=fq Br;clear hw1;go_wp2_with fail;refine((aa HS2) _).mono ?_
   rintro e w2 ⟨rfl,hw2⟩;have hbw2:=tu (w:=W0) bem hw2;obtain⟨hc,hfz⟩:=fq hbw2;clear hw2;go_wp2_with fail
   go_region_held3 (fun w'=>w'.cell? ⟨w.heap.size,0,none⟩=some (.int .i64 s1)∧w'.cell? ⟨w.heap.size,1,none⟩=some (.bool ek)∧w'.cell? ⟨w.heap.size,2,none⟩=some (.slice A1 l1.length c1)∧w'.cell? ⟨w.heap.size+1,0,none⟩=some (.int .i64 s2)∧w'.cell? ⟨w.heap.size+1,1,none⟩=some (.bool di)∧w'.cell? ⟨w.heap.size+1,2,none⟩=some (.slice A2 l2.length c2)) ((first|exact⟨(hc _ _ q0).trans k1,(hc _ _ q0).trans k2,(hc _ _ q0).trans k3,(hc _ _ q1).trans k4,(hc _ _ q1).trans k5,(hc _ _ q1).trans k6⟩|exact⟨k1,k2,k3,k4,k5,k6⟩)) (first|(go_at_call_of 186 (Value.int .i64 s1);refine((aa Z1) _).mono ?_;rintro e w' ⟨rfl,Uj⟩;subst Uj)|(go_at_call_of 186 (Value.int .i64 s2);refine((aa Z2) _).mono ?_;rintro e w' ⟨rfl,Uj⟩;subst Uj)|(go_at_call 189;refine((aa HM) _).mono ?_;rintro e w' ⟨rfl,Uj⟩;subst Uj))
   go_wp2_with fail;refine((aa HWW) _).mono ?_
   rintro e w' ⟨s,yh,A',cap',l',rfl,hf,hb⟩;have hbw:=cz (w:=W0) bem hb;obtain⟨hc,hfz⟩:=fq hbw;have hblk:w'.heap[w.heap.size+1+1]? = some (.cells #[.int .i64 0,.bool false,.slice none 0 0] 77 (0,0)):=(hbw.block _ q2).trans N3.out;have lu:=bg hblk;have lh:Below w.heap.size w w':=az hw0 hbw;clear hblk;go_wp2_with fail;exact bodyPost_ret (v := .agg #[.int .i64 s,.bool yh,.slice A' l'.length cap']) (by simp[results,results147,go_sem,hc,k7,k8,k9,q2]) rfl
    ⟨s,yh,A',cap',l',rfl,hf.upto lu.out (Bd _ _ _ _ _) (jq _ _ _ _ _),lh.grown (jq _ _ _ _ _) lh.size (fun k hk=>by injection hk with hk;omega)⟩
  ·
   have hb0:((hi':Int)==0)=false:=oo.2 om;clear HW Jb hh hlo hhi hM hB1 hB2 Vp y1 y2 y3 y4 hsz1 hsz2 a1 a2
   go_enter func147,ntmps147
   go_wp2_with fail;obtain⟨n1,n2,n3,hsz,hw0⟩:=wm w (.cells #[.int .i64 s1,.bool ek,.slice A1 l1.length c1] 77) (.cells #[.int .i64 s2,.bool di,.slice A2 l2.length c2] 77) (.cells #[.int .i64 0,.bool false,.slice none 0 0] 77);generalize (((w.alloc (.cells #[.int .i64 s1,.bool ek,.slice A1 l1.length c1] 77)).alloc (.cells #[.int .i64 s2,.bool di,.slice A2 l2.length c2] 77)).alloc (.cells #[.int .i64 0,.bool false,.slice none 0 0] 77))=W0 at *;have k1:=ag n1 0;have k2:=ag n1 1;have k3:=ag n1 2;simp only[wh,nk,ni,mq]at k1 k2 k3;have k4:=ag n2 0;have k5:=ag n2 1;have k6:=ag n2 2;simp only[wh,nk,ni,mq]at k4 k5 k6;have q0:w.heap.size<W0.heap.size:=by omega
   have q1:w.heap.size+1<W0.heap.size:=by omega
   have q2:w.heap.size+1+1<W0.heap.size:=by omega
   have k7:=ag n3 0;have k8:=ag n3 1;have k9:=ag n3 2;simp only[wh,nk,ni,mq]at k7 k8 k9;have f7:=ah n3 0;have f8:=ah n3 1;have f9:=ah n3 2;have N3:=bg n3;clear n3;clear n1 n2;have G1:=(aa Ki) W0 hw0;have G2:=(aa HG2) W0 hw0;have B1:=(aa HB1) W0 hw0;have B2:=(aa HB2) W0 hw0
   go_region_held3 (fun w'=>w'.cell? ⟨w.heap.size,0,none⟩=some (.int .i64 s1)∧w'.cell? ⟨w.heap.size,1,none⟩=some (.bool ek)∧w'.cell? ⟨w.heap.size,2,none⟩=some (.slice A1 l1.length c1)∧w'.cell? ⟨w.heap.size+1,0,none⟩=some (.int .i64 s2)∧w'.cell? ⟨w.heap.size+1,1,none⟩=some (.bool di)∧w'.cell? ⟨w.heap.size+1,2,none⟩=some (.slice A2 l2.length c2)) ((first|exact⟨(hc _ _ q0).trans k1,(hc _ _ q0).trans k2,(hc _ _ q0).trans k3,(hc _ _ q1).trans k4,(hc _ _ q1).trans k5,(hc _ _ q1).trans k6⟩|exact⟨k1,k2,k3,k4,k5,k6⟩)) (first|(go_at_call_of 159 (Value.agg #[.int .i64 s1,.bool ek,.slice A1 l1.length c1]);refine((aa G1) _ bem).mono ?_;rintro e w' ⟨rfl,hb⟩;have hbw:=cz (w:=W0) bem hb;obtain⟨hc,hfz⟩:=fq hbw)|(go_at_call_of 159 (Value.agg #[.int .i64 s2,.bool di,.slice A2 l2.length c2]);refine((aa G2) _ bem).mono ?_;rintro e w' ⟨rfl,hb⟩;have hbw:=cz (w:=W0) bem hb;obtain⟨hc,hfz⟩:=fq hbw))
   go_wp2_with fail;refine((aa zf) _).mono ?_
   rintro e w1 ⟨rfl,hw1⟩;have Br:=tu (w:=W0) bem hw1;obtain⟨hc,hfz⟩:=fq Br;clear hw1;go_wp2_with fail;refine((aa HS2) _).mono ?_
   rintro e w2 ⟨rfl,hw2⟩;have hbw2:=tu (w:=W0) bem hw2;obtain⟨hc,hfz⟩:=fq hbw2;clear hw2;go_wp2_with fail
   go_region_held3 (fun w'=>w'.cell? ⟨w.heap.size,0,none⟩=some (.int .i64 s1)∧w'.cell? ⟨w.heap.size,1,none⟩=some (.bool ek)∧w'.cell? ⟨w.heap.size,2,none⟩=some (.slice A1 l1.length c1)∧w'.cell? ⟨w.heap.size+1,0,none⟩=some (.int .i64 s2)∧w'.cell? ⟨w.heap.size+1,1,none⟩=some (.bool di)∧w'.cell? ⟨w.heap.size+1,2,none⟩=some (.slice A2 l2.length c2)) ((first|exact⟨(hc _ _ q0).trans k1,(hc _ _ q0).trans k2,(hc _ _ q0).trans k3,(hc _ _ q1).trans k4,(hc _ _ q1).trans k5,(hc _ _ q1).trans k6⟩|exact⟨k1,k2,k3,k4,k5,k6⟩)) (first|(go_at_call_of 186 (Value.int .i64 s1);refine((aa Z1) _).mono ?_;rintro e w' ⟨rfl,Uj⟩;subst Uj)|(go_at_call_of 186 (Value.int .i64 s2);refine((aa Z2) _).mono ?_;rintro e w' ⟨rfl,Uj⟩;subst Uj)|(go_at_call 189;refine((aa HM) _).mono ?_;rintro e w' ⟨rfl,Uj⟩;subst Uj))
   go_wp2_with fail
   go_region_with (first|(go_at_call_of 191 (Value.agg #[.int .i64 s1,.bool ek,.slice A1 l1.length c1]);refine((aa B1) _ bem).mono ?_;rintro e w' ⟨A5,cap5,l5,rfl,Dv,hb⟩;have hbw:=cz (w:=W0) bem hb;obtain⟨hc,hfz⟩:=fq hbw)|(go_at_call_of 191 (Value.agg #[.int .i64 s2,.bool di,.slice A2 l2.length c2]);refine((aa B2) _ bem).mono ?_;rintro e w' ⟨A6,cap6,l6,rfl,uu,hb⟩;have oz:=Dv.below hb;have hbw:=cz (w:=W0) bem hb;obtain⟨hc,hfz⟩:=fq hbw)|(go_at_call 192;refine(awk A5 A6 cap5 cap6 l5 l6 m1 m2 _ (by exact oz) (by exact uu) ((aa HLEN) _ _ _ _ _ _ _ oz uu)).mono ?_;rintro e w' ⟨A7,Dw,l7,rfl,Du,hb⟩;have hbw:=cz (w:=W0) bem hb;obtain⟨hc,hfz⟩:=fq hbw)|(go_at_call 190;refine(Et ng A7 Dw l7 (m1*m2) _ (by exact Du)).mono ?_;rw[← HZ.out];rintro e w' ⟨s,yh,A',cap',l',rfl,hf,hb⟩;have hbw:=cz (w:=W0) bem hb;obtain⟨hc,hfz⟩:=fq hbw))
   all_goals
    have hblk:w'.heap[w.heap.size+1+1]? = some (.cells #[.int .i64 0,.bool false,.slice none 0 0] 77 (0,0)):=(hbw.block _ q2).trans N3.out;have lu:=bg hblk;have lh:Below w.heap.size w w':=az hw0 hbw;clear hblk;go_wp2_with fail;exact bodyPost_ret (v := .agg #[.int .i64 s,.bool yh,.slice A' l'.length cap']) (by simp[results,results147,go_sem,hc,k7,k8,k9,q2]) rfl
     ⟨s,yh,A',cap',l',rfl,hf.upto lu.out (Bd _ _ _ _ _) (jq _ _ _ _ _),lh.grown (jq _ _ _ _ _) lh.size (fun k hk=>by injection hk with hk;omega)⟩
 ·
  by_cases a1:l1.length=0
  ·
   have a2 : ¬ l2.length=0:=fun h=>hs ⟨a1,h⟩
   rw[dm a1]at zf;rw[dw a2]at HS2;clear hsz1 hsz2 hs a1 a2
   go_enter func147,ntmps147
   go_wp2_with fail;obtain⟨n1,n2,n3,hsz,hw0⟩:=wm w (.cells #[.int .i64 s1,.bool ek,.slice A1 l1.length c1] 77) (.cells #[.int .i64 s2,.bool di,.slice A2 l2.length c2] 77) (.cells #[.int .i64 0,.bool false,.slice none 0 0] 77);generalize (((w.alloc (.cells #[.int .i64 s1,.bool ek,.slice A1 l1.length c1] 77)).alloc (.cells #[.int .i64 s2,.bool di,.slice A2 l2.length c2] 77)).alloc (.cells #[.int .i64 0,.bool false,.slice none 0 0] 77))=W0 at *;have k1:=ag n1 0;have k2:=ag n1 1;have k3:=ag n1 2;simp only[wh,nk,ni,mq]at k1 k2 k3;have k4:=ag n2 0;have k5:=ag n2 1;have k6:=ag n2 2;simp only[wh,nk,ni,mq]at k4 k5 k6;have q0:w.heap.size<W0.heap.size:=by omega
   have q1:w.heap.size+1<W0.heap.size:=by omega
   have q2:w.heap.size+1+1<W0.heap.size:=by omega
   have k7:=ag n3 0;have k8:=ag n3 1;have k9:=ag n3 2;simp only[wh,nk,ni,mq]at k7 k8 k9;have f7:=ah n3 0;have f8:=ah n3 1;have f9:=ah n3 2;have N3:=bg n3;clear n3;clear n1 n2;have G1:=(aa Ki) W0 hw0;have G2:=(aa HG2) W0 hw0;have B1:=(aa HB1) W0 hw0;have B2:=(aa HB2) W0 hw0
   go_region_held3 (fun w'=>w'.cell? ⟨w.heap.size,0,none⟩=some (.int .i64 s1)∧w'.cell? ⟨w.heap.size,1,none⟩=some (.bool ek)∧w'.cell? ⟨w.heap.size,2,none⟩=some (.slice A1 l1.length c1)∧w'.cell? ⟨w.heap.size+1,0,none⟩=some (.int .i64 s2)∧w'.cell? ⟨w.heap.size+1,1,none⟩=some (.bool di)∧w'.cell? ⟨w.heap.size+1,2,none⟩=some (.slice A2 l2.length c2)) ((first|exact⟨(hc _ _ q0).trans k1,(hc _ _ q0).trans k2,(hc _ _ q0).trans k3,(hc _ _ q1).trans k4,(hc _ _ q1).trans k5,(hc _ _ q1).trans k6⟩|exact⟨k1,k2,k3,k4,k5,k6⟩)) (first|(go_at_call_of 159 (Value.agg #[.int .i64 s1,.bool ek,.slice A1 l1.length c1]);refine((aa G1) _ bem).mono ?_;rintro e w' ⟨rfl,hb⟩;have hbw:=cz (w:=W0) bem hb;obtain⟨hc,hfz⟩:=fq hbw)|(go_at_call_of 159 (Value.agg #[.int .i64 s2,.bool di,.slice A2 l2.length c2]);refine((aa G2) _ bem).mono ?_;rintro e w' ⟨rfl,hb⟩;have hbw:=cz (w:=W0) bem hb;obtain⟨hc,hfz⟩:=fq hbw))
   go_wp2_with fail;refine((aa zf) _).mono ?_
   rintro e w1 ⟨rfl,hw1⟩;have Br:=tu (w:=W0) bem hw1;obtain⟨hc,hfz⟩:=fq Br;clear hw1;go_wp2_with fail;refine((aa HS2) _).mono ?_
   rintro e w2 ⟨rfl,hw2⟩;have hbw2:=tu (w:=W0) bem hw2;obtain⟨hc,hfz⟩:=fq hbw2;clear hw2;go_wp2_with fail
   go_region_with (first|(go_at_call_of 191 (Value.agg #[.int .i64 s1,.bool ek,.slice A1 l1.length c1]);refine((aa B1) _ bem).mono ?_;rintro e w' ⟨A5,cap5,l5,rfl,Dv,hb⟩;have hbw:=cz (w:=W0) bem hb;obtain⟨hc,hfz⟩:=fq hbw)|(go_at_call_of 191 (Value.agg #[.int .i64 s2,.bool di,.slice A2 l2.length c2]);refine((aa B2) _ bem).mono ?_;rintro e w' ⟨A6,cap6,l6,rfl,uu,hb⟩;have oz:=Dv.below hb;have hbw:=cz (w:=W0) bem hb;obtain⟨hc,hfz⟩:=fq hbw)|(go_at_call 192;refine(awk A5 A6 cap5 cap6 l5 l6 m1 m2 _ (by exact oz) (by exact uu) ((aa HLEN) _ _ _ _ _ _ _ oz uu)).mono ?_;rintro e w' ⟨A7,Dw,l7,rfl,Du,hb⟩;have hbw:=cz (w:=W0) bem hb;obtain⟨hc,hfz⟩:=fq hbw)|(go_at_call 190;refine(Et ng A7 Dw l7 (m1*m2) _ (by exact Du)).mono ?_;rw[← HZ.out];rintro e w' ⟨s,yh,A',cap',l',rfl,hf,hb⟩;have hbw:=cz (w:=W0) bem hb;obtain⟨hc,hfz⟩:=fq hbw))
   all_goals
    have hblk:w'.heap[w.heap.size+1+1]? = some (.cells #[.int .i64 0,.bool false,.slice none 0 0] 77 (0,0)):=(hbw.block _ q2).trans N3.out;have lu:=bg hblk;have lh:Below w.heap.size w w':=az hw0 hbw;clear hblk;go_wp2_with fail;exact bodyPost_ret (v := .agg #[.int .i64 s,.bool yh,.slice A' l'.length cap']) (by simp[results,results147,go_sem,hc,k7,k8,k9,q2]) rfl
     ⟨s,yh,A',cap',l',rfl,hf.upto lu.out (Bd _ _ _ _ _) (jq _ _ _ _ _),lh.grown (jq _ _ _ _ _) lh.size (fun k hk=>by injection hk with hk;omega)⟩
  ·
   skip
   rw[dw a1]at zf;clear hsz1 hsz2 hs a1
   go_enter func147,ntmps147
   go_wp2_with fail;obtain⟨n1,n2,n3,hsz,hw0⟩:=wm w (.cells #[.int .i64 s1,.bool ek,.slice A1 l1.length c1] 77) (.cells #[.int .i64 s2,.bool di,.slice A2 l2.length c2] 77) (.cells #[.int .i64 0,.bool false,.slice none 0 0] 77);generalize (((w.alloc (.cells #[.int .i64 s1,.bool ek,.slice A1 l1.length c1] 77)).alloc (.cells #[.int .i64 s2,.bool di,.slice A2 l2.length c2] 77)).alloc (.cells #[.int .i64 0,.bool false,.slice none 0 0] 77))=W0 at *;have k1:=ag n1 0;have k2:=ag n1 1;have k3:=ag n1 2;simp only[wh,nk,ni,mq]at k1 k2 k3;have k4:=ag n2 0;have k5:=ag n2 1;have k6:=ag n2 2;simp only[wh,nk,ni,mq]at k4 k5 k6;have q0:w.heap.size<W0.heap.size:=by omega
   have q1:w.heap.size+1<W0.heap.size:=by omega
   have q2:w.heap.size+1+1<W0.heap.size:=by omega
   have k7:=ag n3 0;have k8:=ag n3 1;have k9:=ag n3 2;simp only[wh,nk,ni,mq]at k7 k8 k9;have f7:=ah n3 0;have f8:=ah n3 1;have f9:=ah n3 2;have N3:=bg n3;clear n3;clear n1 n2;have G1:=(aa Ki) W0 hw0;have G2:=(aa HG2) W0 hw0;have B1:=(aa HB1) W0 hw0;have B2:=(aa HB2) W0 hw0
   go_region_held3 (fun w'=>w'.cell? ⟨w.heap.size,0,none⟩=some (.int .i64 s1)∧w'.cell? ⟨w.heap.size,1,none⟩=some (.bool ek)∧w'.cell? ⟨w.heap.size,2,none⟩=some (.slice A1 l1.length c1)∧w'.cell? ⟨w.heap.size+1,0,none⟩=some (.int .i64 s2)∧w'.cell? ⟨w.heap.size+1,1,none⟩=some (.bool di)∧w'.cell? ⟨w.heap.size+1,2,none⟩=some (.slice A2 l2.length c2)) ((first|exact⟨(hc _ _ q0).trans k1,(hc _ _ q0).trans k2,(hc _ _ q0).trans k3,(hc _ _ q1).trans k4,(hc _ _ q1).trans k5,(hc _ _ q1).trans k6⟩|exact⟨k1,k2,k3,k4,k5,k6⟩)) (first|(go_at_call_of 159 (Value.agg #[.int .i64 s1,.bool ek,.slice A1 l1.length c1]);refine((aa G1) _ bem).mono ?_;rintro e w' ⟨rfl,hb⟩;have hbw:=cz (w:=W0) bem hb;obtain⟨hc,hfz⟩:=fq hbw)|(go_at_call_of 159 (Value.agg #[.int .i64 s2,.bool di,.slice A2 l2.length c2]);refine((aa G2) _ bem).mono ?_;rintro e w' ⟨rfl,hb⟩;have hbw:=cz (w:=W0) bem hb;obtain⟨hc,hfz⟩:=fq hbw))
   go_wp2_with fail;refine((aa zf) _).mono ?_
   rintro e w1 ⟨rfl,hw1⟩;have Br:=tu (w:=W0) bem hw1;obtain⟨hc,hfz⟩:=fq Br;clear hw1;go_wp2_with fail
   go_region_with (first|(go_at_call_of 191 (Value.agg #[.int .i64 s1,.bool ek,.slice A1 l1.length c1]);refine((aa B1) _ bem).mono ?_;rintro e w' ⟨A5,cap5,l5,rfl,Dv,hb⟩;have hbw:=cz (w:=W0) bem hb;obtain⟨hc,hfz⟩:=fq hbw)|(go_at_call_of 191 (Value.agg #[.int .i64 s2,.bool di,.slice A2 l2.length c2]);refine((aa B2) _ bem).mono ?_;rintro e w' ⟨A6,cap6,l6,rfl,uu,hb⟩;have oz:=Dv.below hb;have hbw:=cz (w:=W0) bem hb;obtain⟨hc,hfz⟩:=fq hbw)|(go_at_call 192;refine(awk A5 A6 cap5 cap6 l5 l6 m1 m2 _ (by exact oz) (by exact uu) ((aa HLEN) _ _ _ _ _ _ _ oz uu)).mono ?_;rintro e w' ⟨A7,Dw,l7,rfl,Du,hb⟩;have hbw:=cz (w:=W0) bem hb;obtain⟨hc,hfz⟩:=fq hbw)|(go_at_call 190;refine(Et ng A7 Dw l7 (m1*m2) _ (by exact Du)).mono ?_;rw[← HZ.out];rintro e w' ⟨s,yh,A',cap',l',rfl,hf,hb⟩;have hbw:=cz (w:=W0) bem hb;obtain⟨hc,hfz⟩:=fq hbw))
   all_goals
    have hblk:w'.heap[w.heap.size+1+1]? = some (.cells #[.int .i64 0,.bool false,.slice none 0 0] 77 (0,0)):=(hbw.block _ q2).trans N3.out;have lu:=bg hblk;have lh:Below w.heap.size w w':=az hw0 hbw;clear hblk;go_wp2_with fail;exact bodyPost_ret (v := .agg #[.int .i64 s,.bool yh,.slice A' l'.length cap']) (by simp[results,results147,go_sem,hc,k7,k8,k9,q2]) rfl
     ⟨s,yh,A',cap',l',rfl,hf.upto lu.out (Bd _ _ _ _ _) (jq _ _ _ _ _),lh.grown (jq _ _ _ _ _) lh.size (fun k hk=>by injection hk with hk;omega)⟩


structure Fr (Wp W:Wq) (b:Nat):Prop where
 old:Wp.heap.size≤b
 zero:W.heap[b]? = some (.cells #[.int .i64 0,.bool false,.slice none 0 0] 77 (0,0))
theorem lt_of_block {o:Obj} (h:W.heap[b]? = some o):b<W.heap.size:=by
 rcases Fa b W.heap.size with hlt|hge
 ·
  exact hlt
 ·
  rw[bus hge]at h;cases h
theorem Fr.lt (h:Fr Wp W b):b<W.heap.size:=lt_of_block h.zero
theorem Fr.drew {Wp W:Wq} {b:Nat} (h:Fr Wp W b):Fr Wp W.drew b:=⟨h.old,h.zero⟩
theorem Fr.drewN (h:Fr Wp W b):Fr Wp (W.drewN n) b:=⟨h.old,h.zero⟩
theorem Fr.below (h:Fr Wp W b) (hb:Below W.heap.size W w'):Fr Wp w' b:=⟨h.old,(hb.block _ h.lt).trans h.zero⟩
theorem Fr.new (hb:Below Wp.heap.size Wp W) (e:b=W.heap.size):Fr Wp (W.alloc (.cells #[.int .i64 0,.bool false,.slice none 0 0] 77 (0,0))) b:=by
 subst e;exact⟨hb.size,heap_alloc_new W _⟩
structure Fr2 (Wp W:Wq) (b c:Nat):Prop where
 one:Fr Wp W b
 two:Fr Wp W c
 ne:b≠c
theorem Fr2.drew {Wp W:Wq} {b c:Nat} (h:Fr2 Wp W b c):Fr2 Wp W.drew b c:=⟨h.one.drew,h.two.drew,h.ne⟩
theorem Fr2.drewN (h:Fr2 Wp W b c):Fr2 Wp (W.drewN n) b c:=⟨h.one.drewN,h.two.drewN,h.ne⟩
theorem Fr2.below (h:Fr2 Wp W b c) (hb:Below W.heap.size W w'):Fr2 Wp w' b c:=⟨h.one.below hb,h.two.below hb,h.ne⟩
def Mj (w:Wq) (b:Nat) (z:Int):Prop := ∃ s neg A cap l,w.heap[b]? = some (.cells #[.int .i64 s,.bool neg,.slice A (List.length l) cap] 77 (0,0))∧iy w s neg A cap l z
theorem Mj.below (h:Mj w b z) (hb:Below w.heap.size w w'):Mj w' b z:=by
 obtain⟨s,neg,A,cap,l,h1,h2⟩:=h
 exact⟨s,neg,A,cap,l,(hb.block _ (lt_of_block h1)).trans h1,h2.below hb⟩
theorem ahe {a0:Vq} {T:TypeId} (h:W.heap[b]? = some (.cells #[a0,a1] T (0,0))):((W.setCell ⟨b,0,none⟩ u0).setCell ⟨b,1,none⟩ u1).heap[b]? = some (.cells #[u0,u1] T (0,0)):=by
 simp[World.setCell,avs,h]
theorem ati {a0 a2 u2:Vq} {T:TypeId} (h:W.heap[b]? = some (.cells #[a0,a1,a2] T (0,0))):(((W.setCell ⟨b,0,none⟩ u0).setCell ⟨b,1,none⟩ u1).setCell ⟨b,2,none⟩ u2).heap[b]? = some (.cells #[u0,u1,u2] T (0,0)):=by
 simp[World.setCell,avs,h]
theorem Mj.new {A1:Option Addr} (h1:iy W s1 ek A1 c1 l1 z1) (e:b=W.heap.size):Mj (W.alloc (.cells #[.int .i64 s1,.bool ek,.slice A1 l1.length c1] 77)) b z1:=by
 subst e;exact⟨s1,ek,A1,c1,l1,heap_alloc_new W _,h1.below ((df _ _).alloc (gu _) _)⟩
theorem Mj.alloc {W:Wq} {b:Nat} {z:Int} {o:Obj} (h:Mj W b z):Mj (W.alloc o) b z:=h.below ((df _ _).alloc (gu _) _)
theorem iy.alloc {W:Wq} {o:Obj} {s1:Int} {ek:Bool} {A1:Option Addr} {c1:Nat} {l1:List Nat} {z1:Int} (h1:iy W s1 ek A1 c1 l1 z1):iy (W.alloc o) s1 ek A1 c1 l1 z1:=h1.below ((df _ _).alloc (gu _) _)
theorem Fr.alloc {Wp W:Wq} {b:Nat} {o:Obj} (h:Fr Wp W b):Fr Wp (W.alloc o) b:=⟨h.old,(ags W _ b h.lt).trans h.zero⟩
theorem caa {A1:Option Addr} (h1:iy W s1 ek A1 c1 l1 z1) (hb:Below Wp.heap.size Wp W) (e:b=W.heap.size) :
  Mj (W.alloc (.cells #[.int .i64 s1,.bool ek,.slice A1 l1.length c1] 77)) b z1∧Below Wp.heap.size Wp (W.alloc (.cells #[.int .i64 s1,.bool ek,.slice A1 l1.length c1] 77))∧Wp.heap.size≤b :=
 ⟨Mj.new h1 e,hb.alloc hb.size _,by have:=hb.size;omega⟩
theorem ic (h:Below W.heap.size W W') (o:Obj):Below W.heap.size W (W'.alloc o):=h.alloc h.size o
theorem bel {P:Prop} (h:P:=by(repeat (first|with_reducible exact df _ _|with_reducible assumption|with_reducible refine ny ?_|with_reducible refine ic ?_ _))):P:=h
theorem jb {o:Nat} (hB:Below W.heap.size W W') (q:b<W.heap.size) (k:W.cell? ⟨b,o,none⟩=some v):W'.cell? ⟨b,o,none⟩=some v:=(hB.cell (p:=⟨b,o,none⟩) q).trans k
theorem als {g:Nat} (hB:Below W.heap.size W W') (hg:W.heap.size≤g) (o:Nat) (u:Vq):Below W.heap.size W (W'.setCell ⟨g,o,none⟩ u) :=
 hB.grown (qy (wy _ (some g)) o u) hB.size (fun k hk=>by injection hk with hk;omega)
def Kh (w:Wq) (F:Nat) (a b c:Int):Prop := ∀ (s1:Int) (ek:Bool) (A1:Option Addr) (c1:Nat) (l1:List Nat) (s2:Int) (di:Bool) (A2:Option Addr) (c2:Nat) (l2:List Nat) (W:Wq),Below w.heap.size w W→iy W s1 ek A1 c1 l1 a→iy W s2 di A2 c2 l2 b→Calls prog F #[(Value.agg #[.int .i64 s1,.bool ek,.slice A1 l1.length c1]),(Value.agg #[.int .i64 s2,.bool di,.slice A2 l2.length c2])] W fun e w'=>Jy W c e w'
theorem afm {a b c:Int} (hT:yg w) (ha:je eu K a) (hb:je eu K b) (hK:K≤lim) (e:c=((a.natAbs.gcd b.natAbs:Nat):Int)):Kh w 164 a b c:=by
 subst e
 exact fun s1 ek A1 c1 l1 s2 di A2 c2 l2 W hW f1 f2=>bxg s1 ek A1 c1 l1 a s2 di A2 c2 l2 b W f1 f2 (f1.fit ha hK) (f2.fit hb hK) (hT.below hW)
theorem Ob {a b c:Int} (ha:je eu K a) (hb:je eu K b) (hK:K≤lim) (h0:b≠0) (e:c=a.tdiv b):Kh w 165 a b c:=by
 subst e
 exact fun s1 ek A1 c1 l1 s2 di A2 c2 l2 W hW f1 f2=>bxd s1 ek A1 c1 l1 a s2 di A2 c2 l2 b W f1 f2 (f1.fit ha hK) (f2.fit hb hK) h0
theorem afl {a b c:Int} (ha:je eu K a) (hb:je eu K b) (hK:K≤lim) (e:c=a*b):Kh w 147 a b c:=by
 subst e
 exact fun s1 ek A1 c1 l1 s2 di A2 c2 l2 W hW f1 f2=>apx s1 ek A1 c1 l1 a s2 di A2 c2 l2 b W f1 f2 (f1.fit ha hK) (f2.fit hb hK)
theorem cho {a b c:Int} (ha:je eu K a) (hb:je eu K b) (hK:K≤lim) (e:c=a+b):Kh w 166 a b c:=by
 subst e
 exact fun s1 ek A1 c1 l1 s2 di A2 c2 l2 W hW f1 f2=>bdw s1 ek A1 c1 l1 a s2 di A2 c2 l2 b W f1 f2 (f1.fit ha hK) (f2.fit hb hK)


theorem bcq (s1:Int) (ek:Bool) (A1:Option Addr) (c1:Nat) (l1:List Nat) (z1:Int) (s2:Int) (di:Bool) (A2:Option Addr) (c2:Nat) (l2:List Nat) (z2:Int) (w:Wq) (h1:iy w s1 ek A1 c1 l1 z1) (h2:iy w s2 di A2 c2 l2 z2) :
  Calls prog 88 #[(Value.agg #[.int .i64 s1,.bool ek,.slice A1 l1.length c1,.int .i64 s2,.bool di,.slice A2 l2.length c2])] w fun e w'=>Sy w (-z1) z2 e w':=by
 have H1:=ae h1
 have H2:=ae h2
 clear h1 h2
 go_enter func88,ntmps88
 go_wp2_with fail
 obtain⟨n0,n1,hsz,hw0⟩:=Ci w (.cells #[.int .i64 s1,.bool ek,.slice A1 l1.length c1,.int .i64 s2,.bool di,.slice A2 l2.length c2] 79) (.cells #[.int .i64 0,.bool false,.slice none 0 0,.int .i64 0,.bool false,.slice none 0 0] 79)
 generalize ((w.alloc (.cells #[.int .i64 s1,.bool ek,.slice A1 l1.length c1,.int .i64 s2,.bool di,.slice A2 l2.length c2] 79)).alloc (.cells #[.int .i64 0,.bool false,.slice none 0 0,.int .i64 0,.bool false,.slice none 0 0] 79))=W0 at *
 have Dk:W0.cell? ⟨w.heap.size,0,none⟩=some (.int .i64 s1):=ag n0 0
 have Dj:W0.cell? ⟨w.heap.size,1,none⟩=some (.bool ek):=ag n0 1
 have Fx:W0.cell? ⟨w.heap.size,2,none⟩=some (.slice A1 l1.length c1):=ag n0 2
 have Jt:W0.cell? ⟨w.heap.size,3,none⟩=some (.int .i64 s2):=ag n0 3
 have Me:W0.cell? ⟨w.heap.size,4,none⟩=some (.bool di):=ag n0 4
 have Md:W0.cell? ⟨w.heap.size,5,none⟩=some (.slice A2 l2.length c2):=ag n0 5
 have q0:w.heap.size<W0.heap.size:=by omega
 have Ev:W0.cell? ⟨w.heap.size+1,0,none⟩=some (.int .i64 0):=ag n1 0
 have Eu:W0.cell? ⟨w.heap.size+1,1,none⟩=some (.bool false):=ag n1 1
 have Qc:W0.cell? ⟨w.heap.size+1,2,none⟩=some (.slice none 0 0):=ag n1 2
 have ahs:W0.cell? ⟨w.heap.size+1,3,none⟩=some (.int .i64 0):=ag n1 3
 have apw:W0.cell? ⟨w.heap.size+1,4,none⟩=some (.bool false):=ag n1 4
 have apv:W0.cell? ⟨w.heap.size+1,5,none⟩=some (.slice none 0 0):=ag n1 5
 have q1:w.heap.size+1<W0.heap.size:=by omega
 have acr:=ah n1 0
 have acp:=ah n1 1
 have bnn:=ah n1 2
 have bnm:=ah n1 3
 have byg:=ah n1 4
 have byf:=ah n1 5
 have NR:=bg n1
 clear n0 n1
 go_region_held3 (fun w'=>w'.cell? ⟨w.heap.size,0,none⟩=some (.int .i64 s1)∧w'.cell? ⟨w.heap.size,1,none⟩=some (.bool ek)∧w'.cell? ⟨w.heap.size,2,none⟩=some (.slice A1 l1.length c1)∧w'.cell? ⟨w.heap.size,3,none⟩=some (.int .i64 s2)∧w'.cell? ⟨w.heap.size,4,none⟩=some (.bool di)∧w'.cell? ⟨w.heap.size,5,none⟩=some (.slice A2 l2.length c2)) ((first|with_reducible exact⟨(hc _ _ q0).trans Dk,(hc _ _ q0).trans Dj,(hc _ _ q0).trans Fx,(hc _ _ q0).trans Jt,(hc _ _ q0).trans Me,(hc _ _ q0).trans Md⟩|with_reducible exact⟨Dk,Dj,Fx,Jt,Me,Md⟩|with_reducible exact⟨(mg _ _ _ _ _ _ _ _ om).trans ((hc _ _ q0).trans Dk),(mg _ _ _ _ _ _ _ _ om).trans ((hc _ _ q0).trans Dj),(mg _ _ _ _ _ _ _ _ om).trans ((hc _ _ q0).trans Fx),(mg _ _ _ _ _ _ _ _ om).trans ((hc _ _ q0).trans Jt),(mg _ _ _ _ _ _ _ _ om).trans ((hc _ _ q0).trans Me),(mg _ _ _ _ _ _ _ _ om).trans ((hc _ _ q0).trans Md)⟩|exact⟨(hc _ _ q0).trans Dk,(hc _ _ q0).trans Dj,(hc _ _ q0).trans Fx,(hc _ _ q0).trans Jt,(hc _ _ q0).trans Me,(hc _ _ q0).trans Md⟩|exact⟨Dk,Dj,Fx,Jt,Me,Md⟩|exact⟨(mg _ _ _ _ _ _ _ _ om).trans ((hc _ _ q0).trans Dk),(mg _ _ _ _ _ _ _ _ om).trans ((hc _ _ q0).trans Dj),(mg _ _ _ _ _ _ _ _ om).trans ((hc _ _ q0).trans Fx),(mg _ _ _ _ _ _ _ _ om).trans ((hc _ _ q0).trans Jt),(mg _ _ _ _ _ _ _ _ om).trans ((hc _ _ q0).trans Me),(mg _ _ _ _ _ _ _ _ om).trans ((hc _ _ q0).trans Md)⟩)) (first|(go_at_call_of 160 (Value.agg #[.int .i64 s1,.bool ek,.slice A1 l1.length c1]);refine(ano s1 ek A1 c1 l1 z1 _ (by exact(aa H1).below (az hw0 bem))).mono ?_;rintro e w' ⟨s5,Ap,A5,c5,l5,rfl,Ff,hb⟩;have hbw:=cz (w:=W0) bem hb;obtain⟨hc,hfz⟩:=fq hbw))
 have hblk:w'.heap[w.heap.size+1]? = some (.cells #[.int .i64 0,.bool false,.slice none 0 0,.int .i64 0,.bool false,.slice none 0 0] 79 (0,0)):=(hbw.block _ q1).trans NR.out
 have lu:=bg hblk
 have lh:Below w.heap.size w w':=az hw0 hbw
 clear hblk
 go_wp2_with fail
 exact bodyPost_ret (v:=(Value.agg #[.int .i64 s5,.bool Ap,.slice A5 l5.length c5,.int .i64 s2,.bool di,.slice A2 l2.length c2])) (by simp[results,results88,go_sem,hc,Ev,Eu,Qc,ahs,apw,apv,q1]) rfl
  ⟨s5,Ap,A5,c5,l5,s2,di,A2,c2,l2,rfl,(Ff).upto lu.out (Dl _ _ _ _ _ _ _ _ _ _) (qg _ _ _ _ _ _ _ _),((aa H2).below (az hw0 hbw)).upto lu.out (Dl _ _ _ _ _ _ _ _ _ _) (qg _ _ _ _ _ _ _ _),lh.grown (qg _ _ _ _ _ _ _ _) lh.size (fun k hk=>by injection hk with hk;omega)⟩


theorem bvw (s1:Int) (ek:Bool) (A1:Option Addr) (c1:Nat) (l1:List Nat) (z1:Int) (s2:Int) (di:Bool) (A2:Option Addr) (c2:Nat) (l2:List Nat) (z2:Int) (w:Wq) (h1:iy w s1 ek A1 c1 l1 z1) (h2:iy w s2 di A2 c2 l2 z2) (hz:z1<0) :
  Calls prog 94 #[(Value.agg #[.int .i64 s1,.bool ek,.slice A1 l1.length c1,.int .i64 s2,.bool di,.slice A2 l2.length c2])] w fun e w'=>Sy w (-z2) (-z1) e w':=by
 have hs:decide (zm z1<0)=true:=dm (by rw[Ub];exact hz)
 obtain⟨o1,ho1⟩ : ∃ o,o=zm z1:=⟨_,rfl⟩
 have HS:Hid (∀ W,Below w.heap.size w W→Calls prog 159 #[(Value.agg #[.int .i64 s1,.bool ek,.slice A1 l1.length c1])] W fun e w'=>e = .returned (.int .i64 o1)∧Below W.heap.size W w'):=by rw[ho1];exact fun W hW=>Gt s1 ek A1 c1 l1 z1 W (h1.below hW)
 rw[← ho1]at hs
 clear ho1 hz
 have H1:=ae h1
 have H2:=ae h2
 clear h1 h2
 go_enter func94,ntmps94
 go_wp2_with fail
 obtain⟨n0,n1,hsz,hw0⟩:=Ci w (.cells #[.int .i64 s1,.bool ek,.slice A1 l1.length c1,.int .i64 s2,.bool di,.slice A2 l2.length c2] 79) (.cells #[.int .i64 0,.bool false,.slice none 0 0,.int .i64 0,.bool false,.slice none 0 0] 79)
 generalize ((w.alloc (.cells #[.int .i64 s1,.bool ek,.slice A1 l1.length c1,.int .i64 s2,.bool di,.slice A2 l2.length c2] 79)).alloc (.cells #[.int .i64 0,.bool false,.slice none 0 0,.int .i64 0,.bool false,.slice none 0 0] 79))=W0 at *
 have Dk:W0.cell? ⟨w.heap.size,0,none⟩=some (.int .i64 s1):=ag n0 0
 have Dj:W0.cell? ⟨w.heap.size,1,none⟩=some (.bool ek):=ag n0 1
 have Fx:W0.cell? ⟨w.heap.size,2,none⟩=some (.slice A1 l1.length c1):=ag n0 2
 have Jt:W0.cell? ⟨w.heap.size,3,none⟩=some (.int .i64 s2):=ag n0 3
 have Me:W0.cell? ⟨w.heap.size,4,none⟩=some (.bool di):=ag n0 4
 have Md:W0.cell? ⟨w.heap.size,5,none⟩=some (.slice A2 l2.length c2):=ag n0 5
 have q0:w.heap.size<W0.heap.size:=by omega
 have Ev:W0.cell? ⟨w.heap.size+1,0,none⟩=some (.int .i64 0):=ag n1 0
 have Eu:W0.cell? ⟨w.heap.size+1,1,none⟩=some (.bool false):=ag n1 1
 have Qc:W0.cell? ⟨w.heap.size+1,2,none⟩=some (.slice none 0 0):=ag n1 2
 have ahs:W0.cell? ⟨w.heap.size+1,3,none⟩=some (.int .i64 0):=ag n1 3
 have apw:W0.cell? ⟨w.heap.size+1,4,none⟩=some (.bool false):=ag n1 4
 have apv:W0.cell? ⟨w.heap.size+1,5,none⟩=some (.slice none 0 0):=ag n1 5
 have q1:w.heap.size+1<W0.heap.size:=by omega
 have acr:=ah n1 0
 have acp:=ah n1 1
 have bnn:=ah n1 2
 have bnm:=ah n1 3
 have byg:=ah n1 4
 have byf:=ah n1 5
 have NR:=bg n1
 clear n0 n1
 refine((aa HS) _ (az hw0 bem)).mono ?_
 rintro e w' ⟨rfl,hb⟩
 have hbw:=cz (w:=W0) bem hb;obtain⟨hc,hfz⟩:=fq hbw
 go_wp2_with fail
 go_region_held3 (fun w'=>w'.cell? ⟨w.heap.size,0,none⟩=some (.int .i64 s1)∧w'.cell? ⟨w.heap.size,1,none⟩=some (.bool ek)∧w'.cell? ⟨w.heap.size,2,none⟩=some (.slice A1 l1.length c1)∧w'.cell? ⟨w.heap.size,3,none⟩=some (.int .i64 s2)∧w'.cell? ⟨w.heap.size,4,none⟩=some (.bool di)∧w'.cell? ⟨w.heap.size,5,none⟩=some (.slice A2 l2.length c2)) ((first|with_reducible exact⟨(hc _ _ q0).trans Dk,(hc _ _ q0).trans Dj,(hc _ _ q0).trans Fx,(hc _ _ q0).trans Jt,(hc _ _ q0).trans Me,(hc _ _ q0).trans Md⟩|with_reducible exact⟨Dk,Dj,Fx,Jt,Me,Md⟩|with_reducible exact⟨(mg _ _ _ _ _ _ _ _ om).trans ((hc _ _ q0).trans Dk),(mg _ _ _ _ _ _ _ _ om).trans ((hc _ _ q0).trans Dj),(mg _ _ _ _ _ _ _ _ om).trans ((hc _ _ q0).trans Fx),(mg _ _ _ _ _ _ _ _ om).trans ((hc _ _ q0).trans Jt),(mg _ _ _ _ _ _ _ _ om).trans ((hc _ _ q0).trans Me),(mg _ _ _ _ _ _ _ _ om).trans ((hc _ _ q0).trans Md)⟩|exact⟨(hc _ _ q0).trans Dk,(hc _ _ q0).trans Dj,(hc _ _ q0).trans Fx,(hc _ _ q0).trans Jt,(hc _ _ q0).trans Me,(hc _ _ q0).trans Md⟩|exact⟨Dk,Dj,Fx,Jt,Me,Md⟩|exact⟨(mg _ _ _ _ _ _ _ _ om).trans ((hc _ _ q0).trans Dk),(mg _ _ _ _ _ _ _ _ om).trans ((hc _ _ q0).trans Dj),(mg _ _ _ _ _ _ _ _ om).trans ((hc _ _ q0).trans Fx),(mg _ _ _ _ _ _ _ _ om).trans ((hc _ _ q0).trans Jt),(mg _ _ _ _ _ _ _ _ om).trans ((hc _ _ q0).trans Me),(mg _ _ _ _ _ _ _ _ om).trans ((hc _ _ q0).trans Md)⟩)) (first|(go_at_call_of 160 (Value.agg #[.int .i64 s2,.bool di,.slice A2 l2.length c2]);refine(ano s2 di A2 c2 l2 z2 _ (by exact(aa H2).below (az hw0 bem))).mono ?_;rintro e w' ⟨s5,Ap,A5,c5,l5,rfl,Ff,hb⟩;have hbw:=cz (w:=W0) bem hb;obtain⟨hc,hfz⟩:=fq hbw)|(go_at_call_of 160 (Value.agg #[.int .i64 s1,.bool ek,.slice A1 l1.length c1]);refine(ano s1 ek A1 c1 l1 z1 _ (by exact(aa H1).below (az hw0 bem))).mono ?_;rintro e w' ⟨s6,Di,A6,c6,l6,rfl,Lc,hb⟩;have Ff:=Ff.below hb;have hbw:=cz (w:=W0) bem hb;obtain⟨hc,hfz⟩:=fq hbw))
 have hblk:w'.heap[w.heap.size+1]? = some (.cells #[.int .i64 0,.bool false,.slice none 0 0,.int .i64 0,.bool false,.slice none 0 0] 79 (0,0)):=(hbw.block _ q1).trans NR.out
 have lu:=bg hblk
 have lh:Below w.heap.size w w':=az hw0 hbw
 clear hblk
 go_wp2_with fail
 exact bodyPost_ret (v:=(Value.agg #[.int .i64 s5,.bool Ap,.slice A5 l5.length c5,.int .i64 s6,.bool Di,.slice A6 l6.length c6])) (by simp[results,results94,go_sem,hc,Ev,Eu,Qc,ahs,apw,apv,q1]) rfl
  ⟨s5,Ap,A5,c5,l5,s6,Di,A6,c6,l6,rfl,(Ff).upto lu.out (Dl _ _ _ _ _ _ _ _ _ _) (qg _ _ _ _ _ _ _ _),(Lc).upto lu.out (Dl _ _ _ _ _ _ _ _ _ _) (qg _ _ _ _ _ _ _ _),lh.grown (qg _ _ _ _ _ _ _ _) lh.size (fun k hk=>by injection hk with hk;omega)⟩
theorem bvv (s1:Int) (ek:Bool) (A1:Option Addr) (c1:Nat) (l1:List Nat) (z1:Int) (s2:Int) (di:Bool) (A2:Option Addr) (c2:Nat) (l2:List Nat) (z2:Int) (w:Wq) (h1:iy w s1 ek A1 c1 l1 z1) (h2:iy w s2 di A2 c2 l2 z2) (hz : ¬ z1<0) :
  Calls prog 94 #[(Value.agg #[.int .i64 s1,.bool ek,.slice A1 l1.length c1,.int .i64 s2,.bool di,.slice A2 l2.length c2])] w fun e w'=>Sy w z2 z1 e w':=by
 have hs:decide (zm z1<0)=false:=dw (by rw[Ub];exact hz)
 obtain⟨o1,ho1⟩ : ∃ o,o=zm z1:=⟨_,rfl⟩
 have HS:Hid (∀ W,Below w.heap.size w W→Calls prog 159 #[(Value.agg #[.int .i64 s1,.bool ek,.slice A1 l1.length c1])] W fun e w'=>e = .returned (.int .i64 o1)∧Below W.heap.size W w'):=by rw[ho1];exact fun W hW=>Gt s1 ek A1 c1 l1 z1 W (h1.below hW)
 rw[← ho1]at hs
 clear ho1 hz
 have H1:=ae h1
 have H2:=ae h2
 clear h1 h2
 go_enter func94,ntmps94
 go_wp2_with fail
 obtain⟨n0,n1,hsz,hw0⟩:=Ci w (.cells #[.int .i64 s1,.bool ek,.slice A1 l1.length c1,.int .i64 s2,.bool di,.slice A2 l2.length c2] 79) (.cells #[.int .i64 0,.bool false,.slice none 0 0,.int .i64 0,.bool false,.slice none 0 0] 79)
 generalize ((w.alloc (.cells #[.int .i64 s1,.bool ek,.slice A1 l1.length c1,.int .i64 s2,.bool di,.slice A2 l2.length c2] 79)).alloc (.cells #[.int .i64 0,.bool false,.slice none 0 0,.int .i64 0,.bool false,.slice none 0 0] 79))=W0 at *
 have Dk:W0.cell? ⟨w.heap.size,0,none⟩=some (.int .i64 s1):=ag n0 0
 have Dj:W0.cell? ⟨w.heap.size,1,none⟩=some (.bool ek):=ag n0 1
 have Fx:W0.cell? ⟨w.heap.size,2,none⟩=some (.slice A1 l1.length c1):=ag n0 2
 have Jt:W0.cell? ⟨w.heap.size,3,none⟩=some (.int .i64 s2):=ag n0 3
 have Me:W0.cell? ⟨w.heap.size,4,none⟩=some (.bool di):=ag n0 4
 have Md:W0.cell? ⟨w.heap.size,5,none⟩=some (.slice A2 l2.length c2):=ag n0 5
 have q0:w.heap.size<W0.heap.size:=by omega
 have Ev:W0.cell? ⟨w.heap.size+1,0,none⟩=some (.int .i64 0):=ag n1 0
 have Eu:W0.cell? ⟨w.heap.size+1,1,none⟩=some (.bool false):=ag n1 1
 have Qc:W0.cell? ⟨w.heap.size+1,2,none⟩=some (.slice none 0 0):=ag n1 2
 have ahs:W0.cell? ⟨w.heap.size+1,3,none⟩=some (.int .i64 0):=ag n1 3
 have apw:W0.cell? ⟨w.heap.size+1,4,none⟩=some (.bool false):=ag n1 4
 have apv:W0.cell? ⟨w.heap.size+1,5,none⟩=some (.slice none 0 0):=ag n1 5
 have q1:w.heap.size+1<W0.heap.size:=by omega
 have acr:=ah n1 0
 have acp:=ah n1 1
 have bnn:=ah n1 2
 have bnm:=ah n1 3
 have byg:=ah n1 4
 have byf:=ah n1 5
 have NR:=bg n1
 clear n0 n1
 refine((aa HS) _ (az hw0 bem)).mono ?_
 rintro e w' ⟨rfl,hb⟩
 have hbw:=cz (w:=W0) bem hb;obtain⟨hc,hfz⟩:=fq hbw
 have hblk:w'.heap[w.heap.size+1]? = some (.cells #[.int .i64 0,.bool false,.slice none 0 0,.int .i64 0,.bool false,.slice none 0 0] 79 (0,0)):=(hbw.block _ q1).trans NR.out
 have lu:=bg hblk
 have lh:Below w.heap.size w w':=az hw0 hbw
 clear hblk
 go_wp2_with fail
 exact bodyPost_ret (v:=(Value.agg #[.int .i64 s2,.bool di,.slice A2 l2.length c2,.int .i64 s1,.bool ek,.slice A1 l1.length c1])) (by simp[results,results94,go_sem,hc,Ev,Eu,Qc,ahs,apw,apv,q1]) rfl
  ⟨s2,di,A2,c2,l2,s1,ek,A1,c1,l1,rfl,((aa H2).below (az hw0 hbw)).upto lu.out (Dl _ _ _ _ _ _ _ _ _ _) (qg _ _ _ _ _ _ _ _),((aa H1).below (az hw0 hbw)).upto lu.out (Dl _ _ _ _ _ _ _ _ _ _) (qg _ _ _ _ _ _ _ _),lh.grown (qg _ _ _ _ _ _ _ _) lh.size (fun k hk=>by injection hk with hk;omega)⟩


def adf (w:Wq) (F:Nat) (x q:Rat):Prop := ∀ (s1:Int) (ek:Bool) (A1:Option Addr) (c1:Nat) (l1:List Nat) (s2:Int) (di:Bool) (A2:Option Addr) (c2:Nat) (l2:List Nat) (W:Wq),Below w.heap.size w W→iy W s1 ek A1 c1 l1 x.num→iy W s2 di A2 c2 l2 (x.den:Int)→Calls prog F #[(Value.agg #[.int .i64 s1,.bool ek,.slice A1 l1.length c1,.int .i64 s2,.bool di,.slice A2 l2.length c2])] W fun e w'=>Sy W q.num (q.den:Int) e w'
def Qm (w:Wq) (F:Nat) (x y q:Rat):Prop := ∀ (s1:Int) (ek:Bool) (A1:Option Addr) (c1:Nat) (l1:List Nat) (s2:Int) (di:Bool) (A2:Option Addr) (c2:Nat) (l2:List Nat) (s3:Int) (Ck:Bool) (A3:Option Addr) (c3:Nat) (l3:List Nat) (s4:Int) (Nh:Bool) (A4:Option Addr) (c4:Nat) (l4:List Nat) (W:Wq),Below w.heap.size w W→iy W s1 ek A1 c1 l1 x.num→iy W s2 di A2 c2 l2 (x.den:Int)→iy W s3 Ck A3 c3 l3 y.num→iy W s4 Nh A4 c4 l4 (y.den:Int)→Calls prog F #[(Value.agg #[.int .i64 s1,.bool ek,.slice A1 l1.length c1,.int .i64 s2,.bool di,.slice A2 l2.length c2]),(Value.agg #[.int .i64 s3,.bool Ck,.slice A3 l3.length c3,.int .i64 s4,.bool Nh,.slice A4 l4.length c4])] W fun e w'=>Sy W q.num (q.den:Int) e w'
theorem adf.mono {x q:Rat} (h:adf w F x q) (hb:Below w.heap.size w w'):adf w' F x q:=fun _ _ _ _ _ _ _ _ _ _ W hW=>h _ _ _ _ _ _ _ _ _ _ W (az hb hW)
theorem Qm.mono {x y q:Rat} (h:Qm w F x y q) (hb:Below w.heap.size w w'):Qm w' F x y q:=fun _ _ _ _ _ _ _ _ _ _ _ _ _ _ _ _ _ _ _ _ W hW=>h _ _ _ _ _ _ _ _ _ _ _ _ _ _ _ _ _ _ _ _ W (az hb hW)

def Qk (K:Nat) (q:Rat):Prop:=je eu K q.num∧je eu K (q.den:Int)
theorem Qk.mono {L:Nat} {q:Rat} (h:Qk K q) (hk:K≤L):Qk L q:=⟨h.1.mono zg hk,h.2.mono zg hk⟩
theorem Qk.neg {q:Rat} (h:Qk K q):Qk K (-q):=⟨by rw[ajm];exact h.1.neg,by rw[ajn];exact h.2⟩

theorem ceg (w:Wq) (x:Rat):adf w 88 x (-x):=fun s1 ek A1 c1 l1 s2 di A2 c2 l2 W _ f1 f2=>by
 rw[ajm,ajn]
 exact bcq s1 ek A1 c1 l1 _ s2 di A2 c2 l2 _ W f1 f2
theorem biw (w:Wq) (x:Rat) (h:x.num≠0):adf w 94 x (x⁻¹):=fun s1 ek A1 c1 l1 s2 di A2 c2 l2 W _ f1 f2=>by
 have hp:=acy x h
 by_cases hn:x.num<0
 ·
  rw[(hp.1 hn).1,(hp.1 hn).2];exact bvw s1 ek A1 c1 l1 _ s2 di A2 c2 l2 _ W f1 f2 hn
 ·
  rw[(hp.2 hn).1,(hp.2 hn).2];exact bvv s1 ek A1 c1 l1 _ s2 di A2 c2 l2 _ W f1 f2 hn
theorem Qk.inv {q:Rat} (h:Qk K q) (h0:q.num≠0):Qk K (q⁻¹):=by
 have hp:=acy q h0
 by_cases hn:q.num<0
 ·
  exact⟨by rw[(hp.1 hn).1];exact h.2.neg,by rw[(hp.1 hn).2];exact h.1.neg⟩
 ·
  exact⟨by rw[(hp.2 hn).1];exact h.2,by rw[(hp.2 hn).2];exact h.1⟩

def il:Wq→Wq→Prop:=fun w w'=>Below w.heap.size w w'
theorem il.drew (w:Wq):il w w.drew:=(df _ _).drew
theorem Oo (h : P.funcs[F]? = some fn) (hn : (!(fn.name == "runtime.NumGoroutine") && fn.body.isSome) = true) (vs : Array Vq) (w : Wq) : (callFunc F vs).run P w = .ok (.enter F vs) w := by
 simp only[Bz,agq,oo]at hn
 have h2 : ¬ fn.body=none:=by intro e;rw[e]at hn;exact absurd hn.2 mi
 unfold callFunc
 simp[go_sem,h]
 rw[if_neg hn.1,if_neg h2]
theorem ahf (hF : ∀ (vs:Array Vq) (w:Wq),(callFunc F vs).run P w = .ok (.enter F vs) w) {d:Option Tmp} {xs:Array Operand} :
  (execOp a.eval { dst:=d,op := .call { callee := .value (.func F),args:=xs,argTypes:=ats},type:=ty,pos:=pos,after:=af,guard:=gd}).run P w = .ok (.enter F (xs.map a.eval)) w:=by
 have h:=hF (#[]++xs.map a.eval++#[]) w
 rw[avt,bkw]at h
 rw[← h]
 simp only[execOp,resolve,Act.eval,Deferred.ofValue,invoke]
 simp only[pure_bind,avt,bkw]
theorem cdk {d:Option Tmp} {u:Vq} (h:a.eval x = .tuple vs) (hu:vs[i]? = some u) :
  (execOp a.eval { dst:=d,op := .extract x i,type:=ty,pos:=pos,after:=af,guard:=gd}).run P w = .ok (.value u) w:=by
 simp only[execOp,h]
 simp[go_sem,hu]
theorem Dp {o:Oper} {K:Act→Wq→Prop} (h:(execOp a.eval o).run P w = .ok (.value v) w') (hK:K (a.put o.dst v) w'):o.wp P a w K Q:=by
 unfold Oper.wp;rw[h];exact hK
theorem Wv {o:Oper} {K:Act→Wq→Prop} (h:(execOp a.eval o).run P w = .ok (.enter F vs) w') (hK:Calls P F vs w' (fun e w'' => ∃ v,e = .returned v∧K (a.put o.dst v) w'')):o.wp P a w K Q:=by
 unfold Oper.wp;rw[h]
 refine hK.mono ?_
 rintro e w'' ⟨v,rfl,h⟩;exact h
theorem Uc 
  (hF : P.funcs[F]? = some fn) (hn : (!(fn.name == "runtime.NumGoroutine") && fn.body.isSome) = true) (hal : al.contains k = false) (Qe : ∀ W W', G W → il W W' → G W') 
  (hc : ∀ (W:Wq) , G W→Calls P F #[] W fun e w' => ∃ u,e = .returned u∧il W w'∧T k w' u) :
  ib P Q l n T G il al a0 k { dst:=some d,op := .call { callee := .value (.func F),args:=#[],argTypes:=ats},type:=ty,pos:=pos,after:=af,guard:=gd}:=by
 intro a w hG hO hN
 refine Wv (ahf (Oo hF hn)) ?_
 simp only[Rk,Gr,Rl]
 refine(hc w  hG).mono ?_
 rintro e w' ⟨u,rfl,hb,ht⟩
 exact⟨u,rfl,u,rfl,Qe _ _ hG hb,hb,ht,fun h=>by rw[hal]at h;cases h⟩
theorem Ei
  (hF : P.funcs[F]? = some fn) (hn : (!(fn.name == "runtime.NumGoroutine") && fn.body.isSome) = true) (hal : al.contains k = false) (Qe : ∀ W W', G W → il W W' → G W') (h1 : cu l n T a0 k x1 A1)
  (hc : ∀ (W:Wq) (v1:Vq),G W→A1 W v1→Calls P F #[v1] W fun e w' => ∃ u,e = .returned u∧il W w'∧T k w' u) :
  ib P Q l n T G il al a0 k { dst:=some d,op := .call { callee := .value (.func F),args:=#[x1],argTypes:=ats},type:=ty,pos:=pos,after:=af,guard:=gd}:=by
 intro a w hG hO hN
 refine Wv (ahf (Oo hF hn)) ?_
 simp only[Rk,Gr,Rl]
 refine(hc w (a.eval x1) hG (h1 a w hO hN)).mono ?_
 rintro e w' ⟨u,rfl,hb,ht⟩
 exact⟨u,rfl,u,rfl,Qe _ _ hG hb,hb,ht,fun h=>by rw[hal]at h;cases h⟩
theorem Ol
  (hF : P.funcs[F]? = some fn) (hn : (!(fn.name == "runtime.NumGoroutine") && fn.body.isSome) = true) (hal : al.contains k = false) (Qe : ∀ W W', G W → il W W' → G W') (h1 : cu l n T a0 k x1 A1) (h2 : cu l n T a0 k x2 A2)
  (hc : ∀ (W:Wq) (v1 v2:Vq),G W→A1 W v1→A2 W v2→Calls P F #[v1,v2] W fun e w' => ∃ u,e = .returned u∧il W w'∧T k w' u) :
  ib P Q l n T G il al a0 k { dst:=some d,op := .call { callee := .value (.func F),args:=#[x1,x2],argTypes:=ats},type:=ty,pos:=pos,after:=af,guard:=gd}:=by
 intro a w hG hO hN
 refine Wv (ahf (Oo hF hn)) ?_
 simp only[Rk,Gr,Rl]
 refine(hc w (a.eval x1) (a.eval x2) hG (h1 a w hO hN) (h2 a w hO hN)).mono ?_
 rintro e w' ⟨u,rfl,hb,ht⟩
 exact⟨u,rfl,u,rfl,Qe _ _ hG hb,hb,ht,fun h=>by rw[hal]at h;cases h⟩
theorem afg {x3:Operand} {A3:Wq→Vq→Prop}
  (hF : P.funcs[F]? = some fn) (hn : (!(fn.name == "runtime.NumGoroutine") && fn.body.isSome) = true) (hal : al.contains k = false) (Qe : ∀ W W', G W → il W W' → G W') (h1 : cu l n T a0 k x1 A1) (h2 : cu l n T a0 k x2 A2) (h3 : cu l n T a0 k x3 A3)
  (hc : ∀ (W:Wq) (v1 v2 v3:Vq),G W→A1 W v1→A2 W v2→A3 W v3→Calls P F #[v1,v2,v3] W fun e w' => ∃ u,e = .returned u∧il W w'∧T k w' u) :
  ib P Q l n T G il al a0 k { dst:=some d,op := .call { callee := .value (.func F),args:=#[x1,x2,x3],argTypes:=ats},type:=ty,pos:=pos,after:=af,guard:=gd}:=by
 intro a w hG hO hN
 refine Wv (ahf (Oo hF hn)) ?_
 simp only[Rk,Gr,Rl]
 refine(hc w (a.eval x1) (a.eval x2) (a.eval x3) hG (h1 a w hO hN) (h2 a w hO hN) (h3 a w hO hN)).mono ?_
 rintro e w' ⟨u,rfl,hb,ht⟩
 exact⟨u,rfl,u,rfl,Qe _ _ hG hb,hb,ht,fun h=>by rw[hal]at h;cases h⟩
theorem jh
  (hal:al.contains k=false) (hx:cu l n T a0 k x (T k)):ib P Q l n T G il al a0 k { dst:=some d,op := .move x,type:=ty,pos:=pos,after:=af,guard:=gd}:=by
 intro a w hG hO hN
 exact Dp (v:=a.eval x) (w':=w) rfl ⟨_,rfl,hG,df _ _,hx a w hO hN,fun h=>by rw[hal]at h;cases h⟩
theorem zu
  (hal:al.contains k=false) (hx:cu l n T a0 k x (T k)):ib P Q l n T G il al a0 k { dst:=some d,op := .assign x,type:=ty,pos:=pos,after:=af,guard:=gd}:=by
 intro a w hG hO hN
 exact Dp (v:=a.eval x) (w':=w) rfl ⟨_,rfl,hG,df _ _,hx a w hO hN,fun h=>by rw[hal]at h;cases h⟩
theorem cmt {A:Wq→Vq→Prop}
  (hal:al.contains k=false) (hx:cu l n T a0 k x A) (hi : ∀ W v,A W v → ∃ vs,v = .tuple vs ∧ ∃ u,vs[i]? = some u∧T k W u):ib P Q l n T G il al a0 k { dst:=some d,op := .extract x i,type:=ty,pos:=pos,after:=af,guard:=gd}:=by
 intro a w hG hO hN
 obtain⟨vs,h1,u,h2,h3⟩:=hi _ _ (hx a w hO hN)
 exact Dp (cdk h1 h2) ⟨_,rfl,hG,df _ _,h3,fun h=>by rw[hal]at h;cases h⟩
theorem bcp {d:Option Tmp} {c:Operand} {b:Bool} (h:a.eval c = .bool b) :
  (execOp a.eval { dst:=d,op := .pick c x y,type:=ty,pos:=pos,after:=af,guard:=gd}).run P w = .ok (.value (if b then a.eval x else a.eval y)) w:=by
 simp only[execOp,h]
 cases b<;>simp[go_sem]
theorem qj {c:Operand}
  (hal:al.contains k=false) (hc:cu l n T a0 k c (ax (.bool true))) (hx:cu l n T a0 k x (T k)):ib P Q l n T G il al a0 k { dst:=some d,op := .pick c x y,type:=ty,pos:=pos,after:=af,guard:=gd}:=by
 intro a w hG hO hN
 exact Dp (bcp (hc a w hO hN)) ⟨_,rfl,hG,df _ _,hx a w hO hN,fun h=>by rw[hal]at h;cases h⟩
theorem mh {c:Operand}
  (hal:al.contains k=false) (hc:cu l n T a0 k c (ax (.bool false))) (hy:cu l n T a0 k y (T k)):ib P Q l n T G il al a0 k { dst:=some d,op := .pick c x y,type:=ty,pos:=pos,after:=af,guard:=gd}:=by
 intro a w hG hO hN
 exact Dp (bcp (hc a w hO hN)) ⟨_,rfl,hG,df _ _,hy a w hO hN,fun h=>by rw[hal]at h;cases h⟩
theorem cdd {d:Option Tmp} {b:Bool} (h:a.eval x = .bool b) :
  (execOp a.eval { dst:=d,op := .unOp .not tb x,type:=ty,pos:=pos,after:=af,guard:=gd}).run P w = .ok (.value (.bool (!b))) w:=by
 simp only[execOp,h]
 simp[go_sem]
theorem tq {b c:Bool}
  (hal:al.contains k=false) (hx:cu l n T a0 k x (ax (.bool b))) (hT:T k=ax (.bool c)) (hb:(!b)=c):ib P Q l n T G il al a0 k { dst:=some d,op := .unOp .not tb x,type:=ty,pos:=pos,after:=af,guard:=gd}:=by
 intro a w hG hO hN
 exact Dp (cdd (hx a w hO hN)) ⟨_,rfl,hG,df _ _,by rw[hT,← hb];rfl,fun h=>by rw[hal]at h;cases h⟩
theorem cdg {d:Option Tmp} (h:ρ x = .int .i64 o) (h':ρ y = .int .i64 z) :
  (execOp ρ { dst:=d,op := .binOp .leq 3 x y 3,type:=ty,pos:=pos,after:=af,guard:=gd}).run prog w = .ok (.value (.bool (decide (o≤z)))) w:=by
 simp only[execOp,h,h']
 simp[go_sem,underlying3]
theorem _root_.Go.Proofs.YtfgeaakhlcaibaaGreatDoor.wvz {o:Oper} (hr:(execOp a.eval o).run P w = .ok (.value v) w) (hG:G w) (hal:al.contains k=false) (h:T k w v):o.wp P a w (fun a' w' => ∃ v,a'=a.put o.dst v∧G w'∧il w w'∧T k w' v∧(al.contains k=true → ∀ j u,al.contains j=true→T j w u→u≠v)) Q:=Dp hr ⟨_,rfl,hG,df _ _,h,fun h=>by rw[hal]at h;cases h⟩
theorem atl {b:Bool}
  (hal:al.contains k=false) (hx:cu l n T a0 k x (ax (.int .i64 o))) (hy:cu l n T a0 k y (ax (.int .i64 z))) (hT:T k=ax (.bool b)) (hb:(decide (o≤z))=b):ib prog Q l n T G il al a0 k { dst:=some d,op := .binOp .leq 3 x y 3,type:=ty,pos:=pos,after:=af,guard:=gd}:=by
 intro a w hG hO hN
 exact wvz (cdg (hx a w hO hN) (hy a w hO hN)) hG hal (by rw[hT,hb];rfl)
theorem cdf {d:Option Tmp} (h:ρ x = .int .i64 o) (h':ρ y = .int .i64 z) :
  (execOp ρ { dst:=d,op := .binOp .lss 3 x y 3,type:=ty,pos:=pos,after:=af,guard:=gd}).run prog w = .ok (.value (.bool (decide (o<z)))) w:=by
 simp only[execOp,h,h']
 simp[go_sem,underlying3]
theorem wu {b:Bool}
  (hal:al.contains k=false) (hx:cu l n T a0 k x (ax (.int .i64 o))) (hy:cu l n T a0 k y (ax (.int .i64 z))) (hT:T k=ax (.bool b)) (hb:(decide (o<z))=b):ib prog Q l n T G il al a0 k { dst:=some d,op := .binOp .lss 3 x y 3,type:=ty,pos:=pos,after:=af,guard:=gd}:=by
 intro a w hG hO hN
 exact wvz (cdf (hx a w hO hN) (hy a w hO hN)) hG hal (by rw[hT,hb];rfl)
theorem cdi {d:Option Tmp} (h:ρ x = .int .i64 o) (h':ρ y = .int .i64 z) :
  (execOp ρ { dst:=d,op := .binOp .gtr 3 x y 3,type:=ty,pos:=pos,after:=af,guard:=gd}).run prog w = .ok (.value (.bool (decide (z<o)))) w:=by
 simp only[execOp,h,h']
 simp[go_sem,underlying3]
theorem Lp {b:Bool}
  (hal:al.contains k=false) (hx:cu l n T a0 k x (ax (.int .i64 o))) (hy:cu l n T a0 k y (ax (.int .i64 z))) (hT:T k=ax (.bool b)) (hb:(decide (z<o))=b):ib prog Q l n T G il al a0 k { dst:=some d,op := .binOp .gtr 3 x y 3,type:=ty,pos:=pos,after:=af,guard:=gd}:=by
 intro a w hG hO hN
 exact wvz (cdi (hx a w hO hN) (hy a w hO hN)) hG hal (by rw[hT,hb];rfl)
theorem cdl {d:Option Tmp} (h:ρ x = .int .i64 o) (h':ρ y = .int .i64 z) :
  (execOp ρ { dst:=d,op := .binOp .eql 3 x y 3,type:=ty,pos:=pos,after:=af,guard:=gd}).run prog w = .ok (.value (.bool ((o==z)))) w:=by
 simp only[execOp,h,h']
 simp[go_sem,underlying3]
theorem blq {b:Bool}
  (hal:al.contains k=false) (hx:cu l n T a0 k x (ax (.int .i64 o))) (hy:cu l n T a0 k y (ax (.int .i64 z))) (hT:T k=ax (.bool b)) (hb:((o==z))=b):ib prog Q l n T G il al a0 k { dst:=some d,op := .binOp .eql 3 x y 3,type:=ty,pos:=pos,after:=af,guard:=gd}:=by
 intro a w hG hO hN
 exact wvz (cdl (hx a w hO hN) (hy a w hO hN)) hG hal (by rw[hT,hb];rfl)
theorem cde {d:Option Tmp} (h:ρ x = .int .i64 o) (h':ρ y = .int .i64 z) :
  (execOp ρ { dst:=d,op := .binOp .neq 3 x y 3,type:=ty,pos:=pos,after:=af,guard:=gd}).run prog w = .ok (.value (.bool ((o != z)))) w:=by
 simp only[execOp,h,h']
 simp[go_sem,underlying3]
theorem bav {b:Bool}
  (hal:al.contains k=false) (hx:cu l n T a0 k x (ax (.int .i64 o))) (hy:cu l n T a0 k y (ax (.int .i64 z))) (hT:T k=ax (.bool b)) (hb:((o != z))=b):ib prog Q l n T G il al a0 k { dst:=some d,op := .binOp .neq 3 x y 3,type:=ty,pos:=pos,after:=af,guard:=gd}:=by
 intro a w hG hO hN
 exact wvz (cde (hx a w hO hN) (hy a w hO hN)) hG hal (by rw[hT,hb];rfl)
theorem cdj {d:Option Tmp} (h:ρ x = .int .i64 o) (h':ρ y = .int .i64 z) :
  (execOp ρ { dst:=d,op := .binOp .geq 3 x y 3,type:=ty,pos:=pos,after:=af,guard:=gd}).run prog w = .ok (.value (.bool (decide (z≤o)))) w:=by
 simp only[execOp,h,h']
 simp[go_sem,underlying3]
theorem cms {b:Bool}
  (hal:al.contains k=false) (hx:cu l n T a0 k x (ax (.int .i64 o))) (hy:cu l n T a0 k y (ax (.int .i64 z))) (hT:T k=ax (.bool b)) (hb:(decide (z≤o))=b):ib prog Q l n T G il al a0 k { dst:=some d,op := .binOp .geq 3 x y 3,type:=ty,pos:=pos,after:=af,guard:=gd}:=by
 intro a w hG hO hN
 exact wvz (cdj (hx a w hO hN) (hy a w hO hN)) hG hal (by rw[hT,hb];rfl)
theorem bzv {o:Oper} {N:Nat→Wq→Vq→Prop} (hnew : ∀ (a:Act) (w:Wq),∃ X:Wq,il w X∧(B≤w.heap.size→N B X (.pointer (some ⟨w.heap.size,0,none⟩)))∧(execOp a.eval o).run P w = .ok (.value (.pointer (some ⟨w.heap.size,0,none⟩))) X)
  (Qe : ∀ W W',G W→il W W'→G W') (hB : ∀ W,G W→B≤W.heap.size) (hT:T k=N B) (hlt : ∀ j W u,al.contains j=true→T j W u → ∃ b,u = .pointer (some ⟨b,0,none⟩)∧b<W.heap.size) :
  ib P Q l n T G il al a0 k o:=by
 intro a w hG hO hN
 obtain⟨X,hb,hbx,hr⟩:=hnew a w
 have hT2:T k X (.pointer (some ⟨w.heap.size,0,none⟩)):=by rw[hT];exact hbx (hB w hG)
 have hG2:=Qe _ _ hG hb
 have hne:al.contains k=true → ∀ j u,al.contains j=true→T j w u→u ≠ .pointer (some ⟨w.heap.size,0,none⟩):=fun _ j u hj ht he=>by
  obtain⟨b,h1,h2⟩:=hlt j w u hj ht;rw[h1]at he;have h3:b=w.heap.size:=by first|(simp at he;done)|(simp at he;exact he)
  omega
 exact Dp hr ⟨_,rfl,hG2,hb,hT2,hne⟩
def gp (T:Wq→Vq→Prop) (w:Wq) (e:Ending) (w':Wq):Prop := ∃ u,e = .returned u∧il w w'∧T w' u

theorem bqv (s1:Int) (ek:Bool) (A1:Option Addr) (c1:Nat) (l1:List Nat) (z1:Int) (s2:Int) (di:Bool) (A2:Option Addr) (c2:Nat) (l2:List Nat) (z2:Int) (w:Wq) (h1:iy w s1 ek A1 c1 l1 z1) (h2:iy w s2 di A2 c2 l2 z2) (a1 : ¬ l1.length=0) :
  Calls prog 69 #[(Value.agg #[.int .i64 s1,.bool ek,.slice A1 l1.length c1,.int .i64 s2,.bool di,.slice A2 l2.length c2])] w fun e w'=>e = .returned (.tuple #[.agg #[.int .i64 0,.int .i64 0],.int .i64 3])∧Below w.heap.size w w':=by
 have zf:=ae (fun W=>Gi s1 ek A1 c1 l1.length W)
 have HS2:=ae (fun W=>Gi s2 di A2 c2 l2.length W)
 rw[dw a1]at zf
 obtain⟨B2,hB2⟩ : ∃ b,b=decide (l2.length=0):=⟨_,rfl⟩
 rw[← hB2]at HS2
 clear hB2
 clear a1 h1 h2
 go_enter func69,ntmps69
 go_wp2_with fail
 obtain⟨n0,n1,hsz,hw0⟩:=Ci w (.cells #[.int .i64 s1,.bool ek,.slice A1 l1.length c1,.int .i64 s2,.bool di,.slice A2 l2.length c2] 79) (.cells #[.int .i64 0,.int .i64 0] 23)
 generalize ((w.alloc (.cells #[.int .i64 s1,.bool ek,.slice A1 l1.length c1,.int .i64 s2,.bool di,.slice A2 l2.length c2] 79)).alloc (.cells #[.int .i64 0,.int .i64 0] 23))=W0 at *
 have Dk:W0.cell? ⟨w.heap.size,0,none⟩=some (.int .i64 s1):=ag n0 0
 have Dj:W0.cell? ⟨w.heap.size,1,none⟩=some (.bool ek):=ag n0 1
 have Fx:W0.cell? ⟨w.heap.size,2,none⟩=some (.slice A1 l1.length c1):=ag n0 2
 have Jt:W0.cell? ⟨w.heap.size,3,none⟩=some (.int .i64 s2):=ag n0 3
 have Me:W0.cell? ⟨w.heap.size,4,none⟩=some (.bool di):=ag n0 4
 have Md:W0.cell? ⟨w.heap.size,5,none⟩=some (.slice A2 l2.length c2):=ag n0 5
 have q0:w.heap.size<W0.heap.size:=by omega
 have Ev:W0.cell? ⟨w.heap.size+1,0,none⟩=some (.int .i64 0):=ag n1 0
 have Eu:W0.cell? ⟨w.heap.size+1,1,none⟩=some (.int .i64 0):=ag n1 1
 have q1:w.heap.size+1<W0.heap.size:=by omega
 have acr:=ah n1 0
 have acp:=ah n1 1
 have NR:=bg n1
 clear n0 n1
 refine((aa zf) _).mono ?_
 rintro e w3 ⟨rfl,hb⟩
 have hbw:=cz (w:=W0) bem hb
 obtain⟨hc,hfz⟩:=fq hbw
 go_wp2_with fail
 refine((aa HS2) _).mono ?_
 rintro e w4 ⟨rfl,hb⟩
 have hbw:=cz (w:=W0) bem hb
 obtain⟨hc,hfz⟩:=fq hbw
 have lh:Below w.heap.size w w4:=az hw0 hbw
 go_wp2_with fail
 exact bodyPost_ret (v := .tuple #[.agg #[.int .i64 0,.int .i64 0],.int .i64 3]) (by simp[results,results69,go_sem,hc,Ev,Eu,q1]) rfl
  ⟨rfl,lh.grown (qa _ _ _ _) lh.size (fun k hk=>by injection hk with hk;omega)⟩
theorem bqu (s1:Int) (ek:Bool) (A1:Option Addr) (c1:Nat) (l1:List Nat) (z1:Int) (s2:Int) (di:Bool) (A2:Option Addr) (c2:Nat) (l2:List Nat) (z2:Int) (w:Wq) (h1:iy w s1 ek A1 c1 l1 z1) (h2:iy w s2 di A2 c2 l2 z2) (a1:l1.length=0) (a2 : ¬ l2.length=0) :
  Calls prog 69 #[(Value.agg #[.int .i64 s1,.bool ek,.slice A1 l1.length c1,.int .i64 s2,.bool di,.slice A2 l2.length c2])] w fun e w'=>e = .returned (.tuple #[.agg #[.int .i64 0,.int .i64 0],.int .i64 3])∧Below w.heap.size w w':=by
 have zf:=ae (fun W=>Gi s1 ek A1 c1 l1.length W)
 have HS2:=ae (fun W=>Gi s2 di A2 c2 l2.length W)
 rw[dm a1]at zf
 rw[dw a2]at HS2
 clear a1 a2 h1 h2
 go_enter func69,ntmps69
 go_wp2_with fail
 obtain⟨n0,n1,hsz,hw0⟩:=Ci w (.cells #[.int .i64 s1,.bool ek,.slice A1 l1.length c1,.int .i64 s2,.bool di,.slice A2 l2.length c2] 79) (.cells #[.int .i64 0,.int .i64 0] 23)
 generalize ((w.alloc (.cells #[.int .i64 s1,.bool ek,.slice A1 l1.length c1,.int .i64 s2,.bool di,.slice A2 l2.length c2] 79)).alloc (.cells #[.int .i64 0,.int .i64 0] 23))=W0 at *
 have Dk:W0.cell? ⟨w.heap.size,0,none⟩=some (.int .i64 s1):=ag n0 0
 have Dj:W0.cell? ⟨w.heap.size,1,none⟩=some (.bool ek):=ag n0 1
 have Fx:W0.cell? ⟨w.heap.size,2,none⟩=some (.slice A1 l1.length c1):=ag n0 2
 have Jt:W0.cell? ⟨w.heap.size,3,none⟩=some (.int .i64 s2):=ag n0 3
 have Me:W0.cell? ⟨w.heap.size,4,none⟩=some (.bool di):=ag n0 4
 have Md:W0.cell? ⟨w.heap.size,5,none⟩=some (.slice A2 l2.length c2):=ag n0 5
 have q0:w.heap.size<W0.heap.size:=by omega
 have Ev:W0.cell? ⟨w.heap.size+1,0,none⟩=some (.int .i64 0):=ag n1 0
 have Eu:W0.cell? ⟨w.heap.size+1,1,none⟩=some (.int .i64 0):=ag n1 1
 have q1:w.heap.size+1<W0.heap.size:=by omega
 have acr:=ah n1 0
 have acp:=ah n1 1
 have NR:=bg n1
 clear n0 n1
 refine((aa zf) _).mono ?_
 rintro e w3 ⟨rfl,hb⟩
 have hbw:=cz (w:=W0) bem hb
 obtain⟨hc,hfz⟩:=fq hbw
 go_wp2_with fail
 refine((aa HS2) _).mono ?_
 rintro e w4 ⟨rfl,hb⟩
 have hbw:=cz (w:=W0) bem hb
 obtain⟨hc,hfz⟩:=fq hbw
 have lh:Below w.heap.size w w4:=az hw0 hbw
 go_wp2_with fail
 exact bodyPost_ret (v := .tuple #[.agg #[.int .i64 0,.int .i64 0],.int .i64 3]) (by simp[results,results69,go_sem,hc,Ev,Eu,q1]) rfl
  ⟨rfl,lh.grown (qa _ _ _ _) lh.size (fun k hk=>by injection hk with hk;omega)⟩
theorem cdn (s1:Int) (ek:Bool) (A1:Option Addr) (c1:Nat) (l1:List Nat) (z1:Int) (s2:Int) (di:Bool) (A2:Option Addr) (c2:Nat) (l2:List Nat) (z2:Int) (w:Wq) (h1:iy w s1 ek A1 c1 l1 z1) (h2:iy w s2 di A2 c2 l2 z2) (a1:l1.length=0) (a2:l2.length=0) (g1:s1 < -1000000000000) :
  Calls prog 69 #[(Value.agg #[.int .i64 s1,.bool ek,.slice A1 l1.length c1,.int .i64 s2,.bool di,.slice A2 l2.length c2])] w fun e w'=>e = .returned (.tuple #[.agg #[.int .i64 0,.int .i64 0],.int .i64 3])∧Below w.heap.size w w':=by
 have zf:=ae (fun W=>Gi s1 ek A1 c1 l1.length W)
 have HS2:=ae (fun W=>Gi s2 di A2 c2 l2.length W)
 rw[dm a1]at zf
 rw[dm a2]at HS2
 have d1:decide (s1 < -1000000000000)=true:=dm om
 clear a1 a2 h1 h2 g1
 go_enter func69,ntmps69
 go_wp2_with fail
 obtain⟨n0,n1,hsz,hw0⟩:=Ci w (.cells #[.int .i64 s1,.bool ek,.slice A1 l1.length c1,.int .i64 s2,.bool di,.slice A2 l2.length c2] 79) (.cells #[.int .i64 0,.int .i64 0] 23)
 generalize ((w.alloc (.cells #[.int .i64 s1,.bool ek,.slice A1 l1.length c1,.int .i64 s2,.bool di,.slice A2 l2.length c2] 79)).alloc (.cells #[.int .i64 0,.int .i64 0] 23))=W0 at *
 have Dk:W0.cell? ⟨w.heap.size,0,none⟩=some (.int .i64 s1):=ag n0 0
 have Dj:W0.cell? ⟨w.heap.size,1,none⟩=some (.bool ek):=ag n0 1
 have Fx:W0.cell? ⟨w.heap.size,2,none⟩=some (.slice A1 l1.length c1):=ag n0 2
 have Jt:W0.cell? ⟨w.heap.size,3,none⟩=some (.int .i64 s2):=ag n0 3
 have Me:W0.cell? ⟨w.heap.size,4,none⟩=some (.bool di):=ag n0 4
 have Md:W0.cell? ⟨w.heap.size,5,none⟩=some (.slice A2 l2.length c2):=ag n0 5
 have q0:w.heap.size<W0.heap.size:=by omega
 have Ev:W0.cell? ⟨w.heap.size+1,0,none⟩=some (.int .i64 0):=ag n1 0
 have Eu:W0.cell? ⟨w.heap.size+1,1,none⟩=some (.int .i64 0):=ag n1 1
 have q1:w.heap.size+1<W0.heap.size:=by omega
 have acr:=ah n1 0
 have acp:=ah n1 1
 have NR:=bg n1
 clear n0 n1
 refine((aa zf) _).mono ?_
 rintro e w3 ⟨rfl,hb⟩
 have hbw:=cz (w:=W0) bem hb
 obtain⟨hc,hfz⟩:=fq hbw
 go_wp2_with fail
 refine((aa HS2) _).mono ?_
 rintro e w4 ⟨rfl,hb⟩
 have hbw:=cz (w:=W0) bem hb
 obtain⟨hc,hfz⟩:=fq hbw
 have lh:Below w.heap.size w w4:=az hw0 hbw
 go_wp2_with fail
 exact bodyPost_ret (v := .tuple #[.agg #[.int .i64 0,.int .i64 0],.int .i64 3]) (by simp[results,results69,go_sem,hc,Ev,Eu,q1]) rfl
  ⟨rfl,lh.grown (qa _ _ _ _) lh.size (fun k hk=>by injection hk with hk;omega)⟩
theorem cdo (s1:Int) (ek:Bool) (A1:Option Addr) (c1:Nat) (l1:List Nat) (z1:Int) (s2:Int) (di:Bool) (A2:Option Addr) (c2:Nat) (l2:List Nat) (z2:Int) (w:Wq) (h1:iy w s1 ek A1 c1 l1 z1) (h2:iy w s2 di A2 c2 l2 z2) (a1:l1.length=0) (a2:l2.length=0) (g1:1000000000000<s1) :
  Calls prog 69 #[(Value.agg #[.int .i64 s1,.bool ek,.slice A1 l1.length c1,.int .i64 s2,.bool di,.slice A2 l2.length c2])] w fun e w'=>e = .returned (.tuple #[.agg #[.int .i64 0,.int .i64 0],.int .i64 3])∧Below w.heap.size w w':=by
 have zf:=ae (fun W=>Gi s1 ek A1 c1 l1.length W)
 have HS2:=ae (fun W=>Gi s2 di A2 c2 l2.length W)
 rw[dm a1]at zf
 rw[dm a2]at HS2
 have d1:decide (s1 < -1000000000000)=false:=dw om
 have d2:decide (1000000000000<s1)=true:=dm om
 clear a1 a2 h1 h2 g1
 go_enter func69,ntmps69
 go_wp2_with fail
 obtain⟨n0,n1,hsz,hw0⟩:=Ci w (.cells #[.int .i64 s1,.bool ek,.slice A1 l1.length c1,.int .i64 s2,.bool di,.slice A2 l2.length c2] 79) (.cells #[.int .i64 0,.int .i64 0] 23)
 generalize ((w.alloc (.cells #[.int .i64 s1,.bool ek,.slice A1 l1.length c1,.int .i64 s2,.bool di,.slice A2 l2.length c2] 79)).alloc (.cells #[.int .i64 0,.int .i64 0] 23))=W0 at *
 have Dk:W0.cell? ⟨w.heap.size,0,none⟩=some (.int .i64 s1):=ag n0 0
 have Dj:W0.cell? ⟨w.heap.size,1,none⟩=some (.bool ek):=ag n0 1
 have Fx:W0.cell? ⟨w.heap.size,2,none⟩=some (.slice A1 l1.length c1):=ag n0 2
 have Jt:W0.cell? ⟨w.heap.size,3,none⟩=some (.int .i64 s2):=ag n0 3
 have Me:W0.cell? ⟨w.heap.size,4,none⟩=some (.bool di):=ag n0 4
 have Md:W0.cell? ⟨w.heap.size,5,none⟩=some (.slice A2 l2.length c2):=ag n0 5
 have q0:w.heap.size<W0.heap.size:=by omega
 have Ev:W0.cell? ⟨w.heap.size+1,0,none⟩=some (.int .i64 0):=ag n1 0
 have Eu:W0.cell? ⟨w.heap.size+1,1,none⟩=some (.int .i64 0):=ag n1 1
 have q1:w.heap.size+1<W0.heap.size:=by omega
 have acr:=ah n1 0
 have acp:=ah n1 1
 have NR:=bg n1
 clear n0 n1
 refine((aa zf) _).mono ?_
 rintro e w3 ⟨rfl,hb⟩
 have hbw:=cz (w:=W0) bem hb
 obtain⟨hc,hfz⟩:=fq hbw
 go_wp2_with fail
 refine((aa HS2) _).mono ?_
 rintro e w4 ⟨rfl,hb⟩
 have hbw:=cz (w:=W0) bem hb
 obtain⟨hc,hfz⟩:=fq hbw
 have lh:Below w.heap.size w w4:=az hw0 hbw
 go_wp2_with fail
 exact bodyPost_ret (v := .tuple #[.agg #[.int .i64 0,.int .i64 0],.int .i64 3]) (by simp[results,results69,go_sem,hc,Ev,Eu,q1]) rfl
  ⟨rfl,lh.grown (qa _ _ _ _) lh.size (fun k hk=>by injection hk with hk;omega)⟩
theorem bvu (s1:Int) (ek:Bool) (A1:Option Addr) (c1:Nat) (l1:List Nat) (z1:Int) (s2:Int) (di:Bool) (A2:Option Addr) (c2:Nat) (l2:List Nat) (z2:Int) (w:Wq) (h1:iy w s1 ek A1 c1 l1 z1) (h2:iy w s2 di A2 c2 l2 z2) (a1:l1.length=0) (a2:l2.length=0) (g1 : ¬ s1 < -1000000000000) (g2 : ¬ 1000000000000<s1) (g3:1000000000000<s2) :
  Calls prog 69 #[(Value.agg #[.int .i64 s1,.bool ek,.slice A1 l1.length c1,.int .i64 s2,.bool di,.slice A2 l2.length c2])] w fun e w'=>e = .returned (.tuple #[.agg #[.int .i64 0,.int .i64 0],.int .i64 3])∧Below w.heap.size w w':=by
 have zf:=ae (fun W=>Gi s1 ek A1 c1 l1.length W)
 have HS2:=ae (fun W=>Gi s2 di A2 c2 l2.length W)
 rw[dm a1]at zf
 rw[dm a2]at HS2
 have d1:decide (s1 < -1000000000000)=false:=dw om
 have d2:decide (1000000000000<s1)=false:=dw om
 have d3:decide (1000000000000<s2)=true:=dm om
 clear a1 a2 h1 h2 g1 g2 g3
 go_enter func69,ntmps69
 go_wp2_with fail
 obtain⟨n0,n1,hsz,hw0⟩:=Ci w (.cells #[.int .i64 s1,.bool ek,.slice A1 l1.length c1,.int .i64 s2,.bool di,.slice A2 l2.length c2] 79) (.cells #[.int .i64 0,.int .i64 0] 23)
 generalize ((w.alloc (.cells #[.int .i64 s1,.bool ek,.slice A1 l1.length c1,.int .i64 s2,.bool di,.slice A2 l2.length c2] 79)).alloc (.cells #[.int .i64 0,.int .i64 0] 23))=W0 at *
 have Dk:W0.cell? ⟨w.heap.size,0,none⟩=some (.int .i64 s1):=ag n0 0
 have Dj:W0.cell? ⟨w.heap.size,1,none⟩=some (.bool ek):=ag n0 1
 have Fx:W0.cell? ⟨w.heap.size,2,none⟩=some (.slice A1 l1.length c1):=ag n0 2
 have Jt:W0.cell? ⟨w.heap.size,3,none⟩=some (.int .i64 s2):=ag n0 3
 have Me:W0.cell? ⟨w.heap.size,4,none⟩=some (.bool di):=ag n0 4
 have Md:W0.cell? ⟨w.heap.size,5,none⟩=some (.slice A2 l2.length c2):=ag n0 5
 have q0:w.heap.size<W0.heap.size:=by omega
 have Ev:W0.cell? ⟨w.heap.size+1,0,none⟩=some (.int .i64 0):=ag n1 0
 have Eu:W0.cell? ⟨w.heap.size+1,1,none⟩=some (.int .i64 0):=ag n1 1
 have q1:w.heap.size+1<W0.heap.size:=by omega
 have acr:=ah n1 0
 have acp:=ah n1 1
 have NR:=bg n1
 clear n0 n1
 refine((aa zf) _).mono ?_
 rintro e w3 ⟨rfl,hb⟩
 have hbw:=cz (w:=W0) bem hb
 obtain⟨hc,hfz⟩:=fq hbw
 go_wp2_with fail
 refine((aa HS2) _).mono ?_
 rintro e w4 ⟨rfl,hb⟩
 have hbw:=cz (w:=W0) bem hb
 obtain⟨hc,hfz⟩:=fq hbw
 have lh:Below w.heap.size w w4:=az hw0 hbw
 go_wp2_with fail
 exact bodyPost_ret (v := .tuple #[.agg #[.int .i64 0,.int .i64 0],.int .i64 3]) (by simp[results,results69,go_sem,hc,Ev,Eu,q1]) rfl
  ⟨rfl,lh.grown (qa _ _ _ _) lh.size (fun k hk=>by injection hk with hk;omega)⟩
theorem cdm (s1:Int) (ek:Bool) (A1:Option Addr) (c1:Nat) (l1:List Nat) (z1:Int) (s2:Int) (di:Bool) (A2:Option Addr) (c2:Nat) (l2:List Nat) (z2:Int) (w:Wq) (h1:iy w s1 ek A1 c1 l1 z1) (h2:iy w s2 di A2 c2 l2 z2) (a1:l1.length=0) (a2:l2.length=0) (g1 : ¬ s1 < -1000000000000) (g2 : ¬ 1000000000000<s1) (g3 : ¬ 1000000000000<s2) :
  Calls prog 69 #[(Value.agg #[.int .i64 s1,.bool ek,.slice A1 l1.length c1,.int .i64 s2,.bool di,.slice A2 l2.length c2])] w fun e w'=>e = .returned (.tuple #[.agg #[.int .i64 s1,.int .i64 s2],.int .i64 0])∧Below w.heap.size w w':=by
 have zf:=ae (fun W=>Gi s1 ek A1 c1 l1.length W)
 have HS2:=ae (fun W=>Gi s2 di A2 c2 l2.length W)
 rw[dm a1]at zf
 rw[dm a2]at HS2
 have d1:decide (s1 < -1000000000000)=false:=dw om
 have d2:decide (1000000000000<s1)=false:=dw om
 have d3:decide (1000000000000<s2)=false:=dw om
 clear a1 a2 h1 h2 g1 g2 g3
 go_enter func69,ntmps69
 go_wp2_with fail
 obtain⟨n0,n1,hsz,hw0⟩:=Ci w (.cells #[.int .i64 s1,.bool ek,.slice A1 l1.length c1,.int .i64 s2,.bool di,.slice A2 l2.length c2] 79) (.cells #[.int .i64 0,.int .i64 0] 23)
 generalize ((w.alloc (.cells #[.int .i64 s1,.bool ek,.slice A1 l1.length c1,.int .i64 s2,.bool di,.slice A2 l2.length c2] 79)).alloc (.cells #[.int .i64 0,.int .i64 0] 23))=W0 at *
 have Dk:W0.cell? ⟨w.heap.size,0,none⟩=some (.int .i64 s1):=ag n0 0
 have Dj:W0.cell? ⟨w.heap.size,1,none⟩=some (.bool ek):=ag n0 1
 have Fx:W0.cell? ⟨w.heap.size,2,none⟩=some (.slice A1 l1.length c1):=ag n0 2
 have Jt:W0.cell? ⟨w.heap.size,3,none⟩=some (.int .i64 s2):=ag n0 3
 have Me:W0.cell? ⟨w.heap.size,4,none⟩=some (.bool di):=ag n0 4
 have Md:W0.cell? ⟨w.heap.size,5,none⟩=some (.slice A2 l2.length c2):=ag n0 5
 have q0:w.heap.size<W0.heap.size:=by omega
 have Ev:W0.cell? ⟨w.heap.size+1,0,none⟩=some (.int .i64 0):=ag n1 0
 have Eu:W0.cell? ⟨w.heap.size+1,1,none⟩=some (.int .i64 0):=ag n1 1
 have q1:w.heap.size+1<W0.heap.size:=by omega
 have acr:=ah n1 0
 have acp:=ah n1 1
 have NR:=bg n1
 clear n0 n1
 refine((aa zf) _).mono ?_
 rintro e w3 ⟨rfl,hb⟩
 have hbw:=cz (w:=W0) bem hb
 obtain⟨hc,hfz⟩:=fq hbw
 go_wp2_with fail
 refine((aa HS2) _).mono ?_
 rintro e w4 ⟨rfl,hb⟩
 have hbw:=cz (w:=W0) bem hb
 obtain⟨hc,hfz⟩:=fq hbw
 have lh:Below w.heap.size w w4:=az hw0 hbw
 go_wp2_with fail
 exact bodyPost_ret (v := .tuple #[.agg #[.int .i64 s1,.int .i64 s2],.int .i64 0]) (by simp[results,results69,go_sem,hc,Ev,Eu,q1]) rfl
  ⟨rfl,lh.grown (qa _ _ _ _) lh.size (fun k hk=>by injection hk with hk;omega)⟩

theorem aph (s1:Int) (ek:Bool) (A1:Option Addr) (c1:Nat) (l1:List Nat) (z1:Int) (s2:Int) (di:Bool) (A2:Option Addr) (c2:Nat) (l2:List Nat) (z2:Int) (w:Wq) (h1:iy w s1 ek A1 c1 l1 z1) (h2:iy w s2 di A2 c2 l2 z2) (q:Rat) (e1:z1=q.num) (e2:z2=(q.den:Int)) :
  Calls prog 69 #[(Value.agg #[.int .i64 s1,.bool ek,.slice A1 l1.length c1,.int .i64 s2,.bool di,.slice A2 l2.length c2])] w fun e w'=>e = .returned (.tuple #[.agg #[.int .i64 (jf q).n,.int .i64 (jf q).d],.int .i64 (jf q).e])∧Below w.heap.size w w':=by
 have hden:=q.den_pos
 have big : ∀ (l:List Nat) (s:Int) (neg:Bool) (A:Option Addr) (c:Nat) (z:Int),iy w s neg A c l z → ¬ l.length=0→9223372036854775808≤z.natAbs:=fun l s neg A c z h a=>by
  rcases h.form with⟨x,_⟩|⟨_,_,_,_,x⟩
  ·
   exact absurd x a
  ·
   rwa[Df]at x
 have large : ∀ P:Prop,¬ uw q→(jf q)=⟨0,0,3⟩:=fun _ h=>by unfold jf;rw[if_neg h]
 by_cases a1:l1.length=0
 ·
  obtain⟨x1,_,_⟩:=h1.Io a1
  by_cases a2:l2.length=0
  ·
   obtain⟨x2,_,_⟩:=h2.Io a2
   by_cases g1:s1 < -1000000000000
   ·
    rw[large True (fun hf=>by have:=hf.1;rw[Qj]at this;omega)];exact cdn s1 ek A1 c1 l1 z1 s2 di A2 c2 l2 z2 w h1 h2 a1 a2 g1
   by_cases g2:1000000000000<s1
   ·
    rw[large True (fun hf=>by have:=hf.1;rw[Qj]at this;omega)];exact cdo s1 ek A1 c1 l1 z1 s2 di A2 c2 l2 z2 w h1 h2 a1 a2 g2
   by_cases g3:1000000000000<s2
   ·
    rw[large True (fun hf=>by have:=hf.2;rw[Qj]at this;omega)];exact bvu s1 ek A1 c1 l1 z1 s2 di A2 c2 l2 z2 w h1 h2 a1 a2 g1 g2 g3
   have hf:uw q:=by unfold uw;rw[Qj];omega
   have ht:jf q=⟨s1,s2,0⟩:=by unfold jf;rw[if_pos hf,x1,x2,e1,e2]
   rw[ht];exact cdm s1 ek A1 c1 l1 z1 s2 di A2 c2 l2 z2 w h1 h2 a1 a2 g1 g2 g3
  ·
   have:=big _ _ _ _ _ _ h2 a2;rw[large True (fun hf=>by have:=hf.2;rw[Qj]at this;omega)];exact bqu s1 ek A1 c1 l1 z1 s2 di A2 c2 l2 z2 w h1 h2 a1 a2
 ·
  have:=big _ _ _ _ _ _ h1 a1;rw[large True (fun hf=>by have:=hf.1;rw[Qj]at this;omega)];exact bqv s1 ek A1 c1 l1 z1 s2 di A2 c2 l2 z2 w h1 h2 a1


theorem bwn (s1:Int) (ek:Bool) (A1:Option Addr) (c1:Nat) (l1:List Nat) (s2:Int) (di:Bool) (A2:Option Addr) (c2:Nat) (l2:List Nat) (z1 z2 g r1 r2:Int) (w:Wq) (f1:iy w s1 ek A1 c1 l1 z1) (f2:iy w s2 di A2 c2 l2 z2) (hs : ¬ z2<0)
  (hg:Kh w 164 z1 z2 g) (hq1:Kh w 165 z1 g r1) (hq2:Kh w 165 z2 g r2) :
  Calls prog 136 #[(Value.agg #[.int .i64 s1,.bool ek,.slice A1 l1.length c1]),(Value.agg #[.int .i64 s2,.bool di,.slice A2 l2.length c2])] w fun e w'=>Sy w r1 r2 e w':=by

 have H1:=ae f1
 have H2:=ae f2
 have HG:=ae hg
 have HQ1:=ae hq1
 have HQ2:=ae hq2
 have hs':decide (zm z2<0)=false:=dw (by rw[Ub];exact hs)
 obtain⟨o,ho⟩ : ∃ o,o=zm z2:=⟨_,rfl⟩
 have HS:=ae (fun W (f:iy W s2 di A2 c2 l2 z2)=>(show Calls prog 159 #[(Value.agg #[.int .i64 s2,.bool di,.slice A2 l2.length c2])] W fun e w'=>e = .returned (.int .i64 o)∧Below W.heap.size W w' by rw[ho];exact Gt s2 di A2 c2 l2 z2 W f))
 rw[← ho]at hs'
 clear f1 f2 hg hq1 hq2 hs ho
 go_enter func136,ntmps136
 go_upto_region 1 with fail
 obtain⟨n0,n1,n2,hsz,hw0⟩:=wm w (.cells #[.int .i64 s1,.bool ek,.slice A1 l1.length c1] 77) (.cells #[.int .i64 s2,.bool di,.slice A2 l2.length c2] 77) (.cells #[.int .i64 0,.bool false,.slice none 0 0,.int .i64 0,.bool false,.slice none 0 0] 79)
 generalize (((w.alloc (.cells #[.int .i64 s1,.bool ek,.slice A1 l1.length c1] 77)).alloc (.cells #[.int .i64 s2,.bool di,.slice A2 l2.length c2] 77)).alloc (.cells #[.int .i64 0,.bool false,.slice none 0 0,.int .i64 0,.bool false,.slice none 0 0] 79))=W0 at *
 have Dk:W0.cell? ⟨w.heap.size,0,none⟩=some (.int .i64 s1):=ag n0 0
 have Dj:W0.cell? ⟨w.heap.size,1,none⟩=some (.bool ek):=ag n0 1
 have Fx:W0.cell? ⟨w.heap.size,2,none⟩=some (.slice A1 l1.length c1):=ag n0 2
 have q0:w.heap.size<W0.heap.size:=by omega
 have Ev:W0.cell? ⟨w.heap.size+1,0,none⟩=some (.int .i64 s2):=ag n1 0
 have Eu:W0.cell? ⟨w.heap.size+1,1,none⟩=some (.bool di):=ag n1 1
 have Qc:W0.cell? ⟨w.heap.size+1,2,none⟩=some (.slice A2 l2.length c2):=ag n1 2
 have q1:w.heap.size+1<W0.heap.size:=by omega
 have bdt:W0.cell? ⟨w.heap.size+1+1,0,none⟩=some (.int .i64 0):=ag n2 0
 have bds:W0.cell? ⟨w.heap.size+1+1,1,none⟩=some (.bool false):=ag n2 1
 have bdr:W0.cell? ⟨w.heap.size+1+1,2,none⟩=some (.slice none 0 0):=ag n2 2
 have bdq:W0.cell? ⟨w.heap.size+1+1,3,none⟩=some (.int .i64 0):=ag n2 3
 have bdp:W0.cell? ⟨w.heap.size+1+1,4,none⟩=some (.bool false):=ag n2 4
 have bdo:W0.cell? ⟨w.heap.size+1+1,5,none⟩=some (.slice none 0 0):=ag n2 5
 have q2:w.heap.size+1+1<W0.heap.size:=by omega
 have bfe:=ah n2 0
 have bfd:=ah n2 1
 have bfc:=ah n2 2
 have bfb:=ah n2 3
 have bfa:=ah n2 4
 have bez:=ah n2 5
 have NR:=bg n2
 clear hsz n0 n1 n2
 replace H1:=ae ((aa H1).below hw0)
 replace H2:=ae ((aa H2).below hw0)
 go_cut [5] (fun s5_ wx => ∃ b5:Nat,s5_ = .pointer (some ⟨b5,0,none⟩)∧Mj wx b5 g∧Below W0.heap.size W0 wx∧W0.heap.size≤b5)
 case first =>
  go_wp2_with fail;refine((aa HG) s1 ek A1 c1 l1 s2 di A2 c2 l2 _ hw0 (aa H1) (aa H2)).mono ?_
  rintro e w' ⟨s5,Ap,A5,c5,l5,rfl,Ff,hb5⟩;go_wp2_with fail
  go_meet
  exact⟨_,rfl,caa Ff hb5 rfl⟩
 case rest =>
  revert hcut
  generalize wc=W1;intro hcut;obtain⟨b5,rfl,⟨s5,Ap,A5,c5,l5,n5,f5⟩,hB1,ob5⟩:=hcut;have apu:W1.cell? ⟨b5,0,none⟩=some (.int .i64 s5):=ag n5 0;have apt:W1.cell? ⟨b5,1,none⟩=some (.bool Ap):=ag n5 1;have aps:W1.cell? ⟨b5,2,none⟩=some (.slice A5 l5.length c5):=ag n5 2;have y0:W1.cell? ⟨w.heap.size+1,0,none⟩=some (.int .i64 s2):=jb hB1 q1 Ev;have y1:W1.cell? ⟨w.heap.size+1,1,none⟩=some (.bool di):=jb hB1 q1 Eu;have y2:W1.cell? ⟨w.heap.size+1,2,none⟩=some (.slice A2 l2.length c2):=jb hB1 q1 Qc;go_wp2_with fail;refine((aa HS) W1 ((aa H2).below hB1)).mono ?_
  rintro e W2 ⟨rfl,hb⟩;have q5:=lt_of_block n5;have n5':=(hb.block _ q5).trans n5;have f5':=f5.below hb;have hB:=az hB1 hb;clear apu apt aps y0 y1 y2 f5 n5 hB1;have ng:=n5';have fg:=f5';clear n5' f5' hb;have FG:=ae fg;clear fg;have auh:W2.cell? ⟨w.heap.size,0,none⟩=some (.int .i64 s1):=jb hB q0 Dk;have aug:W2.cell? ⟨w.heap.size,1,none⟩=some (.bool ek):=jb hB q0 Dj;have auf:W2.cell? ⟨w.heap.size,2,none⟩=some (.slice A1 l1.length c1):=jb hB q0 Fx;have q0':w.heap.size<W2.heap.size:=zh q0 hB.size;have aue:W2.cell? ⟨w.heap.size+1,0,none⟩=some (.int .i64 s2):=jb hB q1 Ev;have aud:W2.cell? ⟨w.heap.size+1,1,none⟩=some (.bool di):=jb hB q1 Eu;have auc:W2.cell? ⟨w.heap.size+1,2,none⟩=some (.slice A2 l2.length c2):=jb hB q1 Qc;have q1':w.heap.size+1<W2.heap.size:=zh q1 hB.size;have ahr:=ag ng 0;have ahq:=ag ng 1;have ahp:=ag ng 2;have q5':=lt_of_block ng;simp only[wh,nk,ni,mq]at ahr ahq ahp;have bxa:W2.cell? ⟨w.heap.size+1+1,0,none⟩=some (.int .i64 0):=jb hB q2 bdt;have csn:W2.frozen? ⟨w.heap.size+1+1,0,none⟩=false:=(hB.frozen (p:=⟨w.heap.size+1+1,0,none⟩) q2).trans bfe;have bwz:W2.cell? ⟨w.heap.size+1+1,1,none⟩=some (.bool false):=jb hB q2 bds;have csm:W2.frozen? ⟨w.heap.size+1+1,1,none⟩=false:=(hB.frozen (p:=⟨w.heap.size+1+1,1,none⟩) q2).trans bfd;have bwy:W2.cell? ⟨w.heap.size+1+1,2,none⟩=some (.slice none 0 0):=jb hB q2 bdr;have csl:W2.frozen? ⟨w.heap.size+1+1,2,none⟩=false:=(hB.frozen (p:=⟨w.heap.size+1+1,2,none⟩) q2).trans bfc;have bwx:W2.cell? ⟨w.heap.size+1+1,3,none⟩=some (.int .i64 0):=jb hB q2 bdq;have csk:W2.frozen? ⟨w.heap.size+1+1,3,none⟩=false:=(hB.frozen (p:=⟨w.heap.size+1+1,3,none⟩) q2).trans bfb;have bww:W2.cell? ⟨w.heap.size+1+1,4,none⟩=some (.bool false):=jb hB q2 bdp;have csj:W2.frozen? ⟨w.heap.size+1+1,4,none⟩=false:=(hB.frozen (p:=⟨w.heap.size+1+1,4,none⟩) q2).trans bfa;have bwv:W2.cell? ⟨w.heap.size+1+1,5,none⟩=some (.slice none 0 0):=jb hB q2 bdo;have csi:W2.frozen? ⟨w.heap.size+1+1,5,none⟩=false:=(hB.frozen (p:=⟨w.heap.size+1+1,5,none⟩) q2).trans bez;have qr:w.heap.size+1+1<W2.heap.size:=zh q2 hB.size;have or5:w.heap.size+1+1<b5:=zh q2 ob5;clear Dk Dj Fx Ev Eu Qc bdt bds bdr bdq bdp bdo bfe bfd bfc bfb bfa bez ng;have KEEP:=ae (show ∀ X,Below W2.heap.size W2 X→X.cell? ⟨w.heap.size,0,none⟩=some (.int .i64 s1)∧X.cell? ⟨w.heap.size,1,none⟩=some (.bool ek)∧X.cell? ⟨w.heap.size,2,none⟩=some (.slice A1 l1.length c1)∧X.cell? ⟨w.heap.size+1,0,none⟩=some (.int .i64 s2)∧X.cell? ⟨w.heap.size+1,1,none⟩=some (.bool di)∧X.cell? ⟨w.heap.size+1,2,none⟩=some (.slice A2 l2.length c2)∧X.cell? ⟨b5,0,none⟩=some (.int .i64 s5)∧X.cell? ⟨b5,1,none⟩=some (.bool Ap)∧X.cell? ⟨b5,2,none⟩=some (.slice A5 l5.length c5)from fun X hX=>⟨jb hX q0' auh,jb hX q0' aug,jb hX q0' auf,jb hX q1' aue,jb hX q1' aud,jb hX q1' auc,jb hX q5' ahr,jb hX q5' ahq,jb hX q5' ahp⟩);go_wp2_with fail
  go_region_held3 (fun w'=>w'.cell? ⟨w.heap.size,0,none⟩=some (.int .i64 s1)∧w'.cell? ⟨w.heap.size,1,none⟩=some (.bool ek)∧w'.cell? ⟨w.heap.size,2,none⟩=some (.slice A1 l1.length c1)∧w'.cell? ⟨w.heap.size+1,0,none⟩=some (.int .i64 s2)∧w'.cell? ⟨w.heap.size+1,1,none⟩=some (.bool di)∧w'.cell? ⟨w.heap.size+1,2,none⟩=some (.slice A2 l2.length c2)∧w'.cell? ⟨b5,0,none⟩=some (.int .i64 s5)∧w'.cell? ⟨b5,1,none⟩=some (.bool Ap)∧w'.cell? ⟨b5,2,none⟩=some (.slice A5 l5.length c5)) (first|with_reducible exact⟨(mg _ _ _ _ _ _ _ _ om).trans (jb hbw q0' auh),(mg _ _ _ _ _ _ _ _ om).trans (jb hbw q0' aug),(mg _ _ _ _ _ _ _ _ om).trans (jb hbw q0' auf),(mg _ _ _ _ _ _ _ _ om).trans (jb hbw q1' aue),(mg _ _ _ _ _ _ _ _ om).trans (jb hbw q1' aud),(mg _ _ _ _ _ _ _ _ om).trans (jb hbw q1' auc),(mg _ _ _ _ _ _ _ _ om).trans (jb hbw q5' ahr),(mg _ _ _ _ _ _ _ _ om).trans (jb hbw q5' ahq),(mg _ _ _ _ _ _ _ _ om).trans (jb hbw q5' ahp)⟩|with_reducible exact(aa KEEP) _ bel) (first|(go_at_call_of 165 (Value.agg #[.int .i64 s1,.bool ek,.slice A1 l1.length c1]);refine((aa HQ1) s1 ek A1 c1 l1 s5 Ap A5 c5 l5 _ (az hw0 (az hB bel)) (iy.below (aa H1) (az hB bel)) (iy.below (aa FG) bel)).mono ?_;rintro e w' ⟨s8,bdf,A8,c8,l8,rfl,hf8,hb8⟩;have hbw:=cz (w:=W2) bel hb8;have hsw:=hbw.size;obtain⟨hc,hfz⟩:=fq hbw)|(go_at_call_of 165 (Value.agg #[.int .i64 s2,.bool di,.slice A2 l2.length c2]);refine((aa HQ2) s2 di A2 c2 l2 s5 Ap A5 c5 l5 _ (az hw0 (az hB bel)) (iy.below (aa H2) (az hB bel)) (iy.below (aa FG) bel)).mono ?_;rintro e w' ⟨s9,bde,A9,c9,l9,rfl,hf9,lh⟩;have hf8:=iy.below (iy.below hf8 bel) lh;have hbw:=cz (w:=W2) bel lh;have hsw:=hbw.size;obtain⟨hc,hfz⟩:=fq hbw))
  have hBB:Below W0.heap.size W0 w':=az hB hbw;have hblk:w'.heap[w.heap.size+1+1]? = some (.cells #[.int .i64 0,.bool false,.slice none 0 0,.int .i64 0,.bool false,.slice none 0 0] 79 (0,0)):=(hBB.block _ q2).trans NR.out;have lu:=bg hblk;have lh:Below w.heap.size w w':=az hw0 hBB;clear hblk;go_wp2_with fail;exact bodyPost_ret (v:=(Value.agg #[.int .i64 s8,.bool bdf,.slice A8 l8.length c8,.int .i64 s9,.bool bde,.slice A9 l9.length c9])) (by simp[results,results136,go_sem,hc,bxa,bwz,bwy,bwx,bww,bwv,qr]) rfl
   ⟨s8,bdf,A8,c8,l8,s9,bde,A9,c9,l9,rfl,(hf8).upto lu.out (Dl _ _ _ _ _ _ _ _ _ _) (qg _ _ _ _ _ _ _ _),(hf9).upto lu.out (Dl _ _ _ _ _ _ _ _ _ _) (qg _ _ _ _ _ _ _ _),lh.grown (qg _ _ _ _ _ _ _ _) lh.size (fun k hk=>by injection hk with hk;omega)⟩
theorem bwo (s1:Int) (ek:Bool) (A1:Option Addr) (c1:Nat) (l1:List Nat) (s2:Int) (di:Bool) (A2:Option Addr) (c2:Nat) (l2:List Nat) (z1 z2 g gn r1 r2:Int) (w:Wq) (f1:iy w s1 ek A1 c1 l1 z1) (f2:iy w s2 di A2 c2 l2 z2) (hs:z2<0) (hgn:gn = -g)
  (hg:Kh w 164 z1 z2 g) (hq1:Kh w 165 z1 gn r1) (hq2:Kh w 165 z2 gn r2) :
  Calls prog 136 #[(Value.agg #[.int .i64 s1,.bool ek,.slice A1 l1.length c1]),(Value.agg #[.int .i64 s2,.bool di,.slice A2 l2.length c2])] w fun e w'=>Sy w r1 r2 e w':=by
 subst hgn
 have H1:=ae f1
 have H2:=ae f2
 have HG:=ae hg
 have HQ1:=ae hq1
 have HQ2:=ae hq2
 have hs':decide (zm z2<0)=true:=dm (by rw[Ub];exact hs)
 obtain⟨o,ho⟩ : ∃ o,o=zm z2:=⟨_,rfl⟩
 have HS:=ae (fun W (f:iy W s2 di A2 c2 l2 z2)=>(show Calls prog 159 #[(Value.agg #[.int .i64 s2,.bool di,.slice A2 l2.length c2])] W fun e w'=>e = .returned (.int .i64 o)∧Below W.heap.size W w' by rw[ho];exact Gt s2 di A2 c2 l2 z2 W f))
 rw[← ho]at hs'
 clear f1 f2 hg hq1 hq2 hs ho
 go_enter func136,ntmps136
 go_upto_region 1 with fail
 obtain⟨n0,n1,n2,hsz,hw0⟩:=wm w (.cells #[.int .i64 s1,.bool ek,.slice A1 l1.length c1] 77) (.cells #[.int .i64 s2,.bool di,.slice A2 l2.length c2] 77) (.cells #[.int .i64 0,.bool false,.slice none 0 0,.int .i64 0,.bool false,.slice none 0 0] 79)
 generalize (((w.alloc (.cells #[.int .i64 s1,.bool ek,.slice A1 l1.length c1] 77)).alloc (.cells #[.int .i64 s2,.bool di,.slice A2 l2.length c2] 77)).alloc (.cells #[.int .i64 0,.bool false,.slice none 0 0,.int .i64 0,.bool false,.slice none 0 0] 79))=W0 at *
 have Dk:W0.cell? ⟨w.heap.size,0,none⟩=some (.int .i64 s1):=ag n0 0
 have Dj:W0.cell? ⟨w.heap.size,1,none⟩=some (.bool ek):=ag n0 1
 have Fx:W0.cell? ⟨w.heap.size,2,none⟩=some (.slice A1 l1.length c1):=ag n0 2
 have q0:w.heap.size<W0.heap.size:=by omega
 have Ev:W0.cell? ⟨w.heap.size+1,0,none⟩=some (.int .i64 s2):=ag n1 0
 have Eu:W0.cell? ⟨w.heap.size+1,1,none⟩=some (.bool di):=ag n1 1
 have Qc:W0.cell? ⟨w.heap.size+1,2,none⟩=some (.slice A2 l2.length c2):=ag n1 2
 have q1:w.heap.size+1<W0.heap.size:=by omega
 have bdt:W0.cell? ⟨w.heap.size+1+1,0,none⟩=some (.int .i64 0):=ag n2 0
 have bds:W0.cell? ⟨w.heap.size+1+1,1,none⟩=some (.bool false):=ag n2 1
 have bdr:W0.cell? ⟨w.heap.size+1+1,2,none⟩=some (.slice none 0 0):=ag n2 2
 have bdq:W0.cell? ⟨w.heap.size+1+1,3,none⟩=some (.int .i64 0):=ag n2 3
 have bdp:W0.cell? ⟨w.heap.size+1+1,4,none⟩=some (.bool false):=ag n2 4
 have bdo:W0.cell? ⟨w.heap.size+1+1,5,none⟩=some (.slice none 0 0):=ag n2 5
 have q2:w.heap.size+1+1<W0.heap.size:=by omega
 have bfe:=ah n2 0
 have bfd:=ah n2 1
 have bfc:=ah n2 2
 have bfb:=ah n2 3
 have bfa:=ah n2 4
 have bez:=ah n2 5
 have NR:=bg n2
 clear hsz n0 n1 n2
 replace H1:=ae ((aa H1).below hw0)
 replace H2:=ae ((aa H2).below hw0)
 go_cut [5] (fun s5_ wx => ∃ b5:Nat,s5_ = .pointer (some ⟨b5,0,none⟩)∧Mj wx b5 g∧Below W0.heap.size W0 wx∧W0.heap.size≤b5)
 case first =>
  go_wp2_with fail;refine((aa HG) s1 ek A1 c1 l1 s2 di A2 c2 l2 _ hw0 (aa H1) (aa H2)).mono ?_
  rintro e w' ⟨s5,Ap,A5,c5,l5,rfl,Ff,hb5⟩;go_wp2_with fail
  go_meet
  exact⟨_,rfl,caa Ff hb5 rfl⟩
 case rest =>
  revert hcut
  generalize wc=W1;intro hcut;obtain⟨b5,rfl,⟨s5,Ap,A5,c5,l5,n5,f5⟩,hB1,ob5⟩:=hcut;have apu:W1.cell? ⟨b5,0,none⟩=some (.int .i64 s5):=ag n5 0;have apt:W1.cell? ⟨b5,1,none⟩=some (.bool Ap):=ag n5 1;have aps:W1.cell? ⟨b5,2,none⟩=some (.slice A5 l5.length c5):=ag n5 2;have y0:W1.cell? ⟨w.heap.size+1,0,none⟩=some (.int .i64 s2):=jb hB1 q1 Ev;have y1:W1.cell? ⟨w.heap.size+1,1,none⟩=some (.bool di):=jb hB1 q1 Eu;have y2:W1.cell? ⟨w.heap.size+1,2,none⟩=some (.slice A2 l2.length c2):=jb hB1 q1 Qc;go_wp2_with fail;refine((aa HS) W1 ((aa H2).below hB1)).mono ?_
  rintro e W2 ⟨rfl,hb⟩;have q5:=lt_of_block n5;have n5':=(hb.block _ q5).trans n5;have f5':=f5.below hb;have hB:=az hB1 hb;clear apu apt aps y0 y1 y2 f5 n5 hB1;have apu:W2.cell? ⟨b5,0,none⟩=some (.int .i64 s5):=ag n5' 0;have apt:W2.cell? ⟨b5,1,none⟩=some (.bool Ap):=ag n5' 1;have aps:W2.cell? ⟨b5,2,none⟩=some (.slice A5 l5.length c5):=ag n5' 2;have F5:=ae f5';clear f5' hb;go_wp2_with fail;refine(ano s5 Ap A5 c5 l5 g _ (aa F5)).mono ?_
  rintro e W3 ⟨s7,akw,A7,c7,l7,rfl,hf7,hb⟩;have n5:=(hb.block _ (lt_of_block n5')).trans n5';replace hB:=az hB hb;clear apu apt aps n5' hb;have apu:W3.cell? ⟨b5,0,none⟩=some (.int .i64 s5):=ag n5 0;have apt:W3.cell? ⟨b5,1,none⟩=some (.bool Ap):=ag n5 1;have aps:W3.cell? ⟨b5,2,none⟩=some (.slice A5 l5.length c5):=ag n5 2;have cqq:=ah n5 0;have cqp:=ah n5 1;have cqo:=ah n5 2;have HF7:=ae hf7;have N5:=ae n5;clear hf7 n5;go_upto_region 4 with fail;have pb:=ati (u0 := .int .i64 s7) (u1 := .bool akw) (u2 := .slice A7 l7.length c7) (aa N5);have g3:=jq W3 b5 (.int .i64 s7) (.bool akw) (.slice A7 l7.length c7);have fg:=(aa HF7).upto (aa N5) (Bd _ _ _ _ _) g3;replace hB:=hB.grown g3 hB.size (fun k hk=>by injection hk with hk;omega);have ng:=pb;clear pb g3 apu apt aps cqq cqp cqo;generalize (((W3.setCell ⟨b5,0,none⟩ (.int .i64 s7)).setCell ⟨b5,1,none⟩ (.bool akw)).setCell ⟨b5,2,none⟩ (.slice A7 l7.length c7))=W4 at *;have FG:=ae fg;clear fg;have auh:W4.cell? ⟨w.heap.size,0,none⟩=some (.int .i64 s1):=jb hB q0 Dk;have aug:W4.cell? ⟨w.heap.size,1,none⟩=some (.bool ek):=jb hB q0 Dj;have auf:W4.cell? ⟨w.heap.size,2,none⟩=some (.slice A1 l1.length c1):=jb hB q0 Fx;have q0':w.heap.size<W4.heap.size:=zh q0 hB.size;have aue:W4.cell? ⟨w.heap.size+1,0,none⟩=some (.int .i64 s2):=jb hB q1 Ev;have aud:W4.cell? ⟨w.heap.size+1,1,none⟩=some (.bool di):=jb hB q1 Eu;have auc:W4.cell? ⟨w.heap.size+1,2,none⟩=some (.slice A2 l2.length c2):=jb hB q1 Qc;have q1':w.heap.size+1<W4.heap.size:=zh q1 hB.size;have ahr:=ag ng 0;have ahq:=ag ng 1;have ahp:=ag ng 2;have q5':=lt_of_block ng;simp only[wh,nk,ni,mq]at ahr ahq ahp;have bxa:W4.cell? ⟨w.heap.size+1+1,0,none⟩=some (.int .i64 0):=jb hB q2 bdt;have csn:W4.frozen? ⟨w.heap.size+1+1,0,none⟩=false:=(hB.frozen (p:=⟨w.heap.size+1+1,0,none⟩) q2).trans bfe;have bwz:W4.cell? ⟨w.heap.size+1+1,1,none⟩=some (.bool false):=jb hB q2 bds;have csm:W4.frozen? ⟨w.heap.size+1+1,1,none⟩=false:=(hB.frozen (p:=⟨w.heap.size+1+1,1,none⟩) q2).trans bfd;have bwy:W4.cell? ⟨w.heap.size+1+1,2,none⟩=some (.slice none 0 0):=jb hB q2 bdr;have csl:W4.frozen? ⟨w.heap.size+1+1,2,none⟩=false:=(hB.frozen (p:=⟨w.heap.size+1+1,2,none⟩) q2).trans bfc;have bwx:W4.cell? ⟨w.heap.size+1+1,3,none⟩=some (.int .i64 0):=jb hB q2 bdq;have csk:W4.frozen? ⟨w.heap.size+1+1,3,none⟩=false:=(hB.frozen (p:=⟨w.heap.size+1+1,3,none⟩) q2).trans bfb;have bww:W4.cell? ⟨w.heap.size+1+1,4,none⟩=some (.bool false):=jb hB q2 bdp;have csj:W4.frozen? ⟨w.heap.size+1+1,4,none⟩=false:=(hB.frozen (p:=⟨w.heap.size+1+1,4,none⟩) q2).trans bfa;have bwv:W4.cell? ⟨w.heap.size+1+1,5,none⟩=some (.slice none 0 0):=jb hB q2 bdo;have csi:W4.frozen? ⟨w.heap.size+1+1,5,none⟩=false:=(hB.frozen (p:=⟨w.heap.size+1+1,5,none⟩) q2).trans bez;have qr:w.heap.size+1+1<W4.heap.size:=zh q2 hB.size;have or5:w.heap.size+1+1<b5:=zh q2 ob5;clear Dk Dj Fx Ev Eu Qc bdt bds bdr bdq bdp bdo bfe bfd bfc bfb bfa bez ng;have KEEP:=ae (show ∀ X,Below W4.heap.size W4 X→X.cell? ⟨w.heap.size,0,none⟩=some (.int .i64 s1)∧X.cell? ⟨w.heap.size,1,none⟩=some (.bool ek)∧X.cell? ⟨w.heap.size,2,none⟩=some (.slice A1 l1.length c1)∧X.cell? ⟨w.heap.size+1,0,none⟩=some (.int .i64 s2)∧X.cell? ⟨w.heap.size+1,1,none⟩=some (.bool di)∧X.cell? ⟨w.heap.size+1,2,none⟩=some (.slice A2 l2.length c2)∧X.cell? ⟨b5,0,none⟩=some (.int .i64 s7)∧X.cell? ⟨b5,1,none⟩=some (.bool akw)∧X.cell? ⟨b5,2,none⟩=some (.slice A7 l7.length c7)from fun X hX=>⟨jb hX q0' auh,jb hX q0' aug,jb hX q0' auf,jb hX q1' aue,jb hX q1' aud,jb hX q1' auc,jb hX q5' ahr,jb hX q5' ahq,jb hX q5' ahp⟩);go_wp2_with fail
  go_region_held3 (fun w'=>w'.cell? ⟨w.heap.size,0,none⟩=some (.int .i64 s1)∧w'.cell? ⟨w.heap.size,1,none⟩=some (.bool ek)∧w'.cell? ⟨w.heap.size,2,none⟩=some (.slice A1 l1.length c1)∧w'.cell? ⟨w.heap.size+1,0,none⟩=some (.int .i64 s2)∧w'.cell? ⟨w.heap.size+1,1,none⟩=some (.bool di)∧w'.cell? ⟨w.heap.size+1,2,none⟩=some (.slice A2 l2.length c2)∧w'.cell? ⟨b5,0,none⟩=some (.int .i64 s7)∧w'.cell? ⟨b5,1,none⟩=some (.bool akw)∧w'.cell? ⟨b5,2,none⟩=some (.slice A7 l7.length c7)) (first|with_reducible exact⟨(mg _ _ _ _ _ _ _ _ om).trans (jb hbw q0' auh),(mg _ _ _ _ _ _ _ _ om).trans (jb hbw q0' aug),(mg _ _ _ _ _ _ _ _ om).trans (jb hbw q0' auf),(mg _ _ _ _ _ _ _ _ om).trans (jb hbw q1' aue),(mg _ _ _ _ _ _ _ _ om).trans (jb hbw q1' aud),(mg _ _ _ _ _ _ _ _ om).trans (jb hbw q1' auc),(mg _ _ _ _ _ _ _ _ om).trans (jb hbw q5' ahr),(mg _ _ _ _ _ _ _ _ om).trans (jb hbw q5' ahq),(mg _ _ _ _ _ _ _ _ om).trans (jb hbw q5' ahp)⟩|with_reducible exact(aa KEEP) _ bel) (first|(go_at_call_of 165 (Value.agg #[.int .i64 s1,.bool ek,.slice A1 l1.length c1]);refine((aa HQ1) s1 ek A1 c1 l1 s7 akw A7 c7 l7 _ (az hw0 (az hB bel)) (iy.below (aa H1) (az hB bel)) (iy.below (aa FG) bel)).mono ?_;rintro e w' ⟨s8,bdf,A8,c8,l8,rfl,hf8,hb8⟩;have hbw:=cz (w:=W4) bel hb8;have hsw:=hbw.size;obtain⟨hc,hfz⟩:=fq hbw)|(go_at_call_of 165 (Value.agg #[.int .i64 s2,.bool di,.slice A2 l2.length c2]);refine((aa HQ2) s2 di A2 c2 l2 s7 akw A7 c7 l7 _ (az hw0 (az hB bel)) (iy.below (aa H2) (az hB bel)) (iy.below (aa FG) bel)).mono ?_;rintro e w' ⟨s9,bde,A9,c9,l9,rfl,hf9,lh⟩;have hf8:=iy.below (iy.below hf8 bel) lh;have hbw:=cz (w:=W4) bel lh;have hsw:=hbw.size;obtain⟨hc,hfz⟩:=fq hbw))
  have hBB:Below W0.heap.size W0 w':=az hB hbw;have hblk:w'.heap[w.heap.size+1+1]? = some (.cells #[.int .i64 0,.bool false,.slice none 0 0,.int .i64 0,.bool false,.slice none 0 0] 79 (0,0)):=(hBB.block _ q2).trans NR.out;have lu:=bg hblk;have lh:Below w.heap.size w w':=az hw0 hBB;clear hblk;go_wp2_with fail;exact bodyPost_ret (v:=(Value.agg #[.int .i64 s8,.bool bdf,.slice A8 l8.length c8,.int .i64 s9,.bool bde,.slice A9 l9.length c9])) (by simp[results,results136,go_sem,hc,bxa,bwz,bwy,bwx,bww,bwv,qr]) rfl
   ⟨s8,bdf,A8,c8,l8,s9,bde,A9,c9,l9,rfl,(hf8).upto lu.out (Dl _ _ _ _ _ _ _ _ _ _) (qg _ _ _ _ _ _ _ _),(hf9).upto lu.out (Dl _ _ _ _ _ _ _ _ _ _) (qg _ _ _ _ _ _ _ _),lh.grown (qg _ _ _ _ _ _ _ _) lh.size (fun k hk=>by injection hk with hk;omega)⟩
theorem apo (s1:Int) (ek:Bool) (A1:Option Addr) (c1:Nat) (l1:List Nat) (s2:Int) (di:Bool) (A2:Option Addr) (c2:Nat) (l2:List Nat) (z1 z2:Int) (w:Wq) (hT:yg w) (f1:iy w s1 ek A1 c1 l1 z1) (f2:iy w s2 di A2 c2 l2 z2) (h0:z2≠0) (hx:je eu K z1) (hy:je eu K z2) (hK:K≤lim) :
  Calls prog 136 #[(Value.agg #[.int .i64 s1,.bool ek,.slice A1 l1.length c1]),(Value.agg #[.int .i64 s2,.bool di,.slice A2 l2.length c2])] w fun e w'=>Sy w (Rat.divInt z1 z2).num ((Rat.divInt z1 z2).den:Int) e w':=by
 have hp:=Lg z1 z2 h0
 have g0:0<z1.natAbs.gcd z2.natAbs:=abp _ om
 have sg:je eu K ((z1.natAbs.gcd z2.natAbs:Nat):Int):=hy.gcd_right h0
 rw[hp.1,hp.2]
 by_cases hs:z2<0
 ·
  have e:z2.sign*((z1.natAbs.gcd z2.natAbs:Nat):Int) = -((z1.natAbs.gcd z2.natAbs:Nat):Int):=by rw[baj hs];omega
  rw[e];exact bwo s1 ek A1 c1 l1 s2 di A2 c2 l2 z1 z2 _ _ _ _ w f1 f2 hs rfl (afm hT hx hy hK rfl) (Ob hx sg.neg hK om rfl) (Ob hy sg.neg hK om rfl)
 ·
  have e:z2.sign*((z1.natAbs.gcd z2.natAbs:Nat):Int)=((z1.natAbs.gcd z2.natAbs:Nat):Int):=by rw[amv om];omega
  rw[e];exact bwn s1 ek A1 c1 l1 s2 di A2 c2 l2 z1 z2 _ _ _ w f1 f2 hs (afm hT hx hy hK rfl) (Ob hx sg hK om rfl) (Ob hy sg hK om rfl)


structure xx (w:Wq) (A:Option Addr) (cap:Nat) (l:List Nat) (n:Nat):Prop where
 ws:Ws .u32 w w.heap.size A l
 Aj:l.length≤cap
 cap2:cap≤9223372036854775807
 lt : ∀ x∈l,x<dz
 norm:Ur l
 val:bf dz l=n

theorem xx.below {l:List Nat} (h:xx w A cap l n) (hb:Below w.heap.size w w'):xx w' A cap l n :=
 ⟨(h.ws.below hb).more hb.size,h.Aj,h.cap2,h.lt,h.norm,h.val⟩
theorem xx.len {l:List Nat} (h:xx w A cap l n) (hn:n<dz^k):l.length≤k :=
 ael Bw l h.norm k (by rw[h.val];exact hn)
theorem xx.aeg (w:Wq) (cap:Nat) (hc:cap≤9223372036854775807):xx w none cap [] 0:=⟨Ws.aeg,by simp,hc,by simp,.inl rfl,rfl⟩
theorem xx.Za {l:List Nat} (h:xx w A cap l n):n<dz^l.length:=by
 rw[← h.val];exact Bi l h.lt

def boi (w:Wq) (n:Nat) (e:Ending) (w':Wq):Prop := ∃ A cap l,e = .returned (.slice A l.length cap)∧xx w' A cap l n∧Below w.heap.size w w'

theorem xx.Ij {T:TypeId} {zs:List Nat} (hz:ZB .u32 w b T zs) (hlt : ∀ x∈zs,x<dz) (ht:Ib zs (zs.take k)) (hk:k≤zs.length) (hc:zs.length≤cap) (hc2:cap≤9223372036854775807) :
  xx w (some ⟨b,0,none⟩) cap (zs.take k) (bf dz zs) :=
 ⟨(hz.Mk _ hz.lt).adk k,by simp;omega,hc2,fun x hx=>hlt x (Dn hx),ht.norm,ht.val _⟩

theorem Hw (A:Option Addr) (cap:Nat) (l:List Nat) (B:Nat) (w:Wq) (hr:Ws .u32 w B A l) (hcap:l.length≤cap) (hm:cap≤9223372036854775807) :
  Calls prog 180 #[.slice A l.length cap] w fun e w'=>(∃ k,e = .returned (.slice A k cap)∧Ib l (l.take k)∧k≤l.length)∧w'=w:=by
 go_enter func180,ntmps180
 go_wp2
 go_loop [0] (fun v => ∃ k:Nat,k≤l.length∧v = .slice A k cap ∧ ∀ i,k≤i→i<l.length→l.getD i 0=0) (fun v=>slen v)
 case atStart=>exact⟨l.length,gu _,rfl,fun i h1 h2=>by omega⟩
 case round =>
  obtain⟨k,hk,rfl,hz⟩:=hrel;have HZ:=bg hz;clear hz
  by_cases h0:k=0
  ·
   subst h0
   go_wp2
   go_ret
   exact⟨⟨0,rfl,⟨0,ug _,rfl,HZ.out,.inl rfl⟩,ug _⟩,rfl⟩
  ·
   obtain⟨b,off,rfl,hb,hc⟩:=hr om;have hck:=hc (k-1) om;clear hc
   go_wp2
   ·
    have ht:(((ik l (k-1):Nat):Int)==0)=true:=by assumption
    go_round
    case rel =>
     refine⟨k-1,by omega,rfl,fun i h1 h2 => ?_⟩
     by_cases hi:i=k-1
     ·
      subst hi;have:=Iw.1 ht;rw[pg]at this;omega
     ·
      exact HZ.out i om h2
    case measure=>simp[slen];omega
   ·
    have ht:(((ik l (k-1):Nat):Int)==0)=false:=by assumption
    go_ret
    refine⟨⟨k,rfl,⟨k,hk,rfl,HZ.out,.inr ?_⟩,hk⟩,rfl⟩
    have:=oo.1 ht;rw[pg]at this;omega

theorem aan {w1:Wq} (h : ∃ t,w1=w.drewN t) (k:Nat) : ∃ t,w1.drewN k=w.drewN t:=by
 obtain⟨t,rfl⟩:=h
 exact⟨t+k,by simp[World.drewN,Yh]⟩
theorem World.drewN_drewN (w:Wq) (a b:Nat):(w.drewN a).drewN b=w.drewN (a+b):=by
 simp[World.drewN,Yh]
theorem Va (Ax Ay:Option Addr) (cx cy:Nat) (xl yl:List Nat) (n m:Nat) (w:Wq) (hx:xx w Ax cx xl n) (hy:xx w Ay cy yl m) :
  Calls prog 182 #[.slice Ax xl.length cx,.slice Ay yl.length cy] w fun e w'=>e = .returned (.int .i64 (Dh n m)) ∧ ∃ k,w'=w.drewN k:=by
 have hx1:=hx.Aj;have hx2:=hx.cap2;have hy1:=hy.Aj;have hy2:=hy.cap2
 by_cases hl:xl.length=yl.length
 ·
  have hb:(((xl.length:Nat):Int) != ((yl.length:Nat):Int))=false:=by simp;omega
  go_enter func182,ntmps182
  go_wp2
  go_loopw [5] (fun iv wr => ∃ i:Int,-1≤i∧i<xl.length∧iv = .int .i64 i∧Hid (∀ j:Nat,i<j→j<xl.length→xl.getD j 0=yl.getD j 0)∧Hid (∃ t,wr=w.drewN t)) (fun iv _=>(intOf iv+1).toNat)
  case atStart=>exact⟨(xl.length:Int)-1,by omega,by omega,by go_num,fun j h1 h2=>by omega,⟨0,rfl⟩⟩
  case round =>
   obtain⟨i,hi1,hi2,rfl,hall,ht⟩:=hrel
   by_cases h0:i<0
   ·
    have hv:Dh n m=0:=by
     have:xl=yl:=Tv xl yl hl (fun j hj=>hall.out j om hj);rw[← hx.val,← hy.val,this];unfold Dh;rw[if_neg om,if_neg om]
    have HV:=bg hv;clear hv hl
    go_wp2
    go_ret
    exact⟨Ej HV.out.symm,ht.out⟩
   ·
    obtain⟨j,rfl⟩:=amz (show 0≤i by omega);have hjx:j<xl.length:=by omega
    have hjy:j<yl.length:=by omega
    obtain⟨bx,ox,rfl,hbx,hcx⟩:=hx.ws om;obtain⟨by',oy,rfl,hby,hcy⟩:=hy.ws om;have hsame : ∀ p,wr.cell? p=w.cell? p:=fun p=>by obtain⟨t,rfl⟩:=ht.out;rfl
    have Lj:=(hsame _).trans (hcx j hjx);have hyc:=(hsame _).trans (hcy j hjy);clear hcx hcy hsame;obtain⟨xj,hxj⟩ : ∃ xj,xj=ik xl j:=⟨_,rfl⟩
    obtain⟨yj,hyj⟩ : ∃ yj,yj=ik yl j:=⟨_,rfl⟩
    rw[← hxj]at Lj;rw[← hyj]at hyc
    by_cases hlt:xj<yj
    ·
     have d1:decide ((xj:Int)<(yj:Int))=true:=dm om;have d1':decide (xj<yj)=true:=dm hlt;have hv:Dh n m = -1:=by
      rw[← hx.val,← hy.val];unfold Dh;rw[if_pos (Ls xl yl hx.lt hl j hjx (fun t h1 h2=>hall.out t om h2) (by show ik xl j<ik yl j;omega))]
     have HV:=bg hv;clear hv hxj hyj hl hlt;go_wp2_with fail
     go_quiet (fail)
     go_wp2_with fail
     go_ret
     exact⟨Ej HV.out.symm,by first|exact aan (aan ht.out _) _|exact aan ht.out _⟩
    ·
     have d1:decide ((xj:Int)<(yj:Int))=false:=dw om;have d1':decide (xj<yj)=false:=dw hlt
     by_cases hgt:yj<xj
     ·
      have d2:decide ((yj:Int)<(xj:Int))=true:=dm om;have d2':decide (yj<xj)=true:=dm hgt;have hv:Dh n m=1:=by
       rw[← hx.val,← hy.val];unfold Dh;have:=Ls yl xl hy.lt hl.symm j hjy (fun t h1 h2=>(hall.out t om om).symm) (by show ik yl j<ik xl j;omega);rw[if_neg om,if_pos this]
      have HV:=bg hv;clear hv hxj hyj hl hlt hgt;go_wp2_with fail
      go_quiet (fail)
      go_wp2_with fail
      go_quiet (fail)
      go_wp2_with fail
      go_ret
      exact⟨Ej HV.out.symm,by first|exact aan (aan ht.out _) _|exact aan ht.out _⟩
     ·
      have d2:decide ((yj:Int)<(xj:Int))=false:=dw om;have d2':decide (yj<xj)=false:=dw hgt;have hnext : ∀ t:Nat,((j:Int)-1<t)→t<xl.length→xl.getD t 0=yl.getD t 0:=fun t h1 h2=>by
       by_cases ht:t=j
       ·
        subst ht;exact hxj.symm.trans ((show xj=yj by omega).trans hyj)
       ·
        exact hall.out t om h2
      have HN:=ae hnext;clear hnext hxj hyj hl hlt hgt;go_wp2_with fail
      go_quiet (fail)
      go_wp2_with fail
      go_quiet (fail)
      go_wp2_with fail
      go_roundw
      case rel=>exact⟨(j:Int)-1,by omega,by omega,by go_num,HN,by first|exact aan (aan ht.out _) _|exact aan ht.out _⟩
      case measure=>simp[intOf]<;>omega
 ·
  have hb:(((xl.length:Nat):Int) != ((yl.length:Nat):Int))=true:=by simp;omega
  have ho:Dh n m=if xl.length<yl.length then -1 else 1:=by
   unfold Dh;rw[← hx.val,← hy.val]
   by_cases h:xl.length<yl.length
   ·
    rw[if_pos h,if_pos (Bh Bw xl yl hx.lt hy.norm h)]
   ·
    have:=Bh Bw yl xl hy.lt hx.norm om;rw[if_neg h,if_neg om,if_pos this]
  have HO:=bg ho;clear ho
  go_enter func182,ntmps182
  go_wp2
  all_goals
   go_ret
   refine⟨Ej ?_,⟨0,rfl⟩⟩
   rw[HO.out]
  ·
   rw[if_pos om]
  ·
   rw[if_neg om]

theorem aui:(prog.info? 187).map (fun i=>(i.zero,i.size,i.bytes))=some (some (.int .u32 0),1,4):=by kernel_rfl
theorem aua (n:Nat) (h:n≤35184372088832) (w:Wq):(Instr.makeSlice 64 (.int .i64 (n:Int)) (.int .i64 (n:Int))).run prog w =
  .ok (.slice (some ⟨w.heap.size,0,none⟩) n n) (w.alloc (.cells (Ba .u32 (List.replicate n 0)) 187)):=by
 obtain⟨i0,hi,hz0,hz1,hz2⟩:=info_parts aui
 have hr:=run_make (P:=prog) w 64 187 i0 (.int .u32 0) underlying64 hi hz0 .i64 .i64 n n om (Int.le_refl _) (by rw[hz2];omega) om
 simp only[agm]at hr
 rw[hr,hz1,Vj]

theorem jm {a:Int} (h:a=(c:Int)) (hc:c<eu):IntKind.u64.wrap a=((c:Nat):Int):=by
 rw[Ct,h];rw[ja]at hc;omega
theorem Hf (c:Nat):IntKind.u32.wrap (c:Int)=((c%dz:Nat):Int):=by
 rw[Sj,fu];omega

theorem blg (Ax Ay:Option Addr) (cx cy:Nat) (xl yl:List Nat) (n m:Nat) (w:Wq) (hx:xx w Ax cx xl n) (hy:xx w Ay cy yl m) (hk:xl.length+yl.length≤35184372088832) :
  Calls prog 184 #[.slice Ax xl.length cx,.slice Ay yl.length cy] w fun e w'=>boi w (n*m) e w':=by
 have hmk:=aua (xl.length+yl.length) hk
 simp only[adg]at hmk
 have hx1:=hx.Aj;have hx2:=hx.cap2;have hy1:=hy.Aj;have hy2:=hy.cap2
 go_enter func184,ntmps184
 go_wp2
 go_loopw [6] (fun iv wr => ∃ (i:Nat) (zr:List Nat),i≤xl.length∧iv = .int .i64 ((i:Nat):Int)∧Ia dz xl yl zr i∧ZB .u32 wr w.heap.size 187 zr∧Below w.heap.size w wr) (fun iv _=>xl.length-(intOf iv).toNat)
 case atStart=>exact⟨0,List.replicate (xl.length+yl.length) 0,ug _,rfl,Ia.start _ _ _ (by rw[fu];omega) mi (aah _),heap_alloc_new w _,(df _ _).alloc (gu _) _⟩
 case round =>
  obtain⟨i,zr,hi,rfl,hinv,qh,hg⟩:=hrel;obtain⟨wo,rfl⟩ : ∃ wo:Wq,wo=wr:=⟨_,rfl⟩
  have hlen:=hinv.len;have HI:=bg hinv;clear hinv
  by_cases hlt:i<xl.length
  ·
   obtain⟨bx,ox,rfl,hbx,hcx⟩:=hx.ws om;have cil:=hcx i hlt;have HX:=ae (And.intro hbx cil);clear hcx cil;obtain⟨xi,hxi⟩ : ∃ xi,xi=ik xl i:=⟨_,rfl⟩
   rw[← hxi]at HX;have Cf:xi<dz:=by rw[hxi];exact jy (by rw[fu];omega) _ hx.lt i
   have HXI:=bg hxi;have HXB:=ae Cf;clear hxi Cf;go_wp2_with fail
   go_loopw [7,8] (fun cv jv wr => ∃ (j c:Nat) (zc:List Nat),j≤yl.length∧cv = .int .u64 ((c:Nat):Int)∧jv = .int .i64 ((j:Nat):Int)∧Gm dz zr yl zc i (ik xl i) j c∧ZB .u32 wr w.heap.size 187 zc∧Below w.heap.size w wr) (fun _ jv _=>yl.length-(intOf jv).toNat)
   case atStart=>exact⟨0,0,zr,ug _,rfl,rfl,Gm.start _ _ _ _ (by rw[fu];omega) HI.out.lt,qh,hg⟩
   case round =>
    obtain⟨j,c,zc,hj,rfl,rfl,ahw,hzc,hgc⟩:=hrel;have ahx:=ahw.len;have HM:=bg ahw;clear ahw;have Lj:=(hgc.cell (p:=⟨bx,ox+i,none⟩) (aa HX).1).trans (aa HX).2
    by_cases hjl:j<yl.length
    ·
     obtain⟨by',oy,rfl,hby,hcy⟩:=hy.ws om;have hyc:=(hgc.cell (p:=⟨by',oy+j,none⟩) hby).trans (hcy j hjl);clear hcy;have alc:=hzc.cell (i+j) om;have hzf:=hzc.frozen (i+j);obtain⟨yj,hyj⟩ : ∃ yj,yj=ik yl j:=⟨_,rfl⟩
     obtain⟨z,hz⟩ : ∃ z,z=ik zc (i+j):=⟨_,rfl⟩
     rw[← hyj]at hyc;rw[← hz]at alc;have Gz:yj<dz:=by rw[hyj];exact jy (by rw[fu];omega) _ hy.lt j
     have Qz:z<dz:=by rw[hz];exact jy (by rw[fu];omega) _ HM.out.lt _
     have hbd:=Qg (aa HXB) Gz HM.out.c1 Qz;have hBB:dz*dz=eu:=by rw[fu,ja]
     rw[hBB]at hbd;obtain⟨p,hp⟩ : ∃ t,t=xi*yj:=⟨_,rfl⟩
     obtain⟨s,hs⟩ : ∃ t,t=p+z:=⟨_,rfl⟩
     obtain⟨r,hr⟩ : ∃ t,t=c+s:=⟨_,rfl⟩
     obtain⟨d,hd⟩ : ∃ t,t=r%dz:=⟨_,rfl⟩
     obtain⟨q,hq⟩ : ∃ t,t=r/dz:=⟨_,rfl⟩
     rw[← hp]at hbd;have e1:IntKind.u64.wrap ((xi:Int)*(yj:Int))=(p:Int):=jm (by rw[hp];simp) om;have e2:IntKind.u64.wrap ((p:Int)+(z:Int))=(s:Int):=jm (by rw[hs];simp) om;have e3:IntKind.u64.wrap ((c:Int)+(s:Int))=(r:Int):=jm (by rw[hr];simp) om;have e4:IntKind.u32.wrap (r:Int)=(d:Int):=by rw[Hf,hd]
     have e4':(r:Int)%4294967296=(d:Int):=by rw[hd,fu];omega
     have b64 : ∀ t:Nat,t<dz→t<eu:=fun t ht=>by rw[fu]at ht;rw[ja];omega
     have e6:IntKind.u64.wrap (xi:Int)=(xi:Int):=jm rfl (b64 _ (aa HXB));have e7:IntKind.u64.wrap (yj:Int)=(yj:Int):=jm rfl (b64 _ Gz);have e8:IntKind.u64.wrap (z:Int)=(z:Int):=jm rfl (b64 _ Qz);have e5:(r:Int)/4294967296=(q:Int):=by rw[hq,fu];omega
     have hfin : ∀ t W,W=(wr.drewN t).setCell ⟨w.heap.size,i+j,none⟩ (.int .u32 (d:Int))→Gm dz zr yl (zc.set (i+j) d) i (ik xl i) (j+1) q∧ZB .u32 W w.heap.size 187 (zc.set (i+j) d)∧Below w.heap.size w W:=by
      rintro t W rfl;refine⟨?_,(hzc.drewN t).Jr _ _,(ky hgc t).setCell mi _⟩
      have:=HM.out.step Bw (by rw[← HXI.out];exact aa HXB) hy.lt om;have e:r=ik xl i*yl.getD j 0+c+zc.getD (i+j) 0:=by
       rw[hr,hs,hp,HXI.out,hyj,hz];show c+(ik xl i*yl.getD j 0+zc.getD (i+j) 0)=_;omega
      rw[hd,hq,e];exact this
     have HF:=ae hfin;clear hfin b64 hbd hBB hp hs hr hd hq hyj hz Gz Qz hzc hgc qh hg hlen ahx;go_wp2_with fail
     go_quiet (fail)
     go_wp2_with fail
     go_roundw
     case rel =>
      obtain⟨r1,r2,r3⟩:=(aa HF) _ _ rfl;exact⟨j+1,q,zc.set (i+j) d,by omega,rfl,by go_num,r1,r2,r3⟩
     case measure=>simp[intOf];omega
    ·
     have e:j=yl.length:=by omega
     subst e;have alc:=hzc.cell (i+yl.length) om;have hzf:=hzc.frozen (i+yl.length);have hrow:=HI.out.step hlt HM.out;have HR:=bg hrow;have hc32:(c:Int)%4294967296=(c:Int):=by have:=HM.out.c1;rw[fu]at this;omega
     have czg:IntKind.u32.wrap (c:Int)=(c:Int):=by rw[Sj];exact hc32
     clear hrow;have hfin : ∀ W,W=wr.setCell ⟨w.heap.size,i+yl.length,none⟩ (.int .u32 (c:Int))→ZB .u32 W w.heap.size 187 (zc.set (i+yl.length) c)∧Below w.heap.size w W:=by
      rintro W rfl;exact⟨hzc.Jr _ _,hgc.setCell mi _⟩
     have HF:=ae hfin;clear hfin hzc hgc qh hg hlen ahx Lj;go_wp2_with fail
     go_roundw
     case rel =>
      obtain⟨r2,r3⟩:=(aa HF) _ rfl;exact⟨i+1,zc.set (i+yl.length) c,by omega,by go_num,HR.out,r2,r3⟩
     case measure=>simp[intOf];omega
  ·
   have e:i=xl.length:=by omega
   subst e;have hlt2:=HI.out.lt;have hv:=HI.out.done;rw[hx.val,hy.val]at hv;have HV:=bg hv;have qp:=ae hlt2;clear hv hlt2;go_wp2_with fail;have htr:=Hw (some ⟨w.heap.size,0,none⟩) zr.length zr (wo.heap.size) wo (qh.Mk _ qh.lt) (gu _) om;rw[hlen]at htr;refine htr.mono ?_
   rintro e w' ⟨⟨k,rfl,ht,hk2⟩,rfl⟩;go_wp2_with fail
   go_ret
   have hk3:k=(zr.take k).length:=by simp;omega
   refine⟨some ⟨w.heap.size,0,none⟩,xl.length+yl.length,zr.take k,Mm hk3,?_,hg⟩
   have:=xx.Ij (cap:=xl.length+yl.length) qh (aa qp) ht om om om;rwa[HV.out]at this

theorem adx (a b:Nat) (ha:a<dz) (hb:b<dz):Go.bits .or .u32 (a:Int) (b:Int)=((a ||| b:Nat):Int):=by
 rw[fu]at ha hb
 have hx:a ||| b<2^32:=Nat.or_lt_two_pow om om
 have h1:(BitVec.ofInt 32 (a:Int)).toNat=a:=by
  rw[BitVec.ofInt_natCast,BitVec.toNat_ofNat];exact aew om
 have h2:(BitVec.ofInt 32 (b:Int)).toNat=b:=by
  rw[BitVec.ofInt_natCast,BitVec.toNat_ofNat];exact aew om
 show IntKind.u32.wrap ((BitVec.ofInt 32 (a:Int) ||| BitVec.ofInt 32 (b:Int)).toNat:Int)=_
 rw[BitVec.toNat_or,h1,h2,Sj]
 omega
theorem Jk (s:Nat) (hs:s≤32):2^s*2^(32-s)=dz:=by
 rw[← Hq,show s+(32-s)=32 by omega];rfl
theorem bpw (hm:m<dz) (hs:s<32):m*2^s<eu:=by
 have h1:2^s<2^32:=Nat.pow_lt_pow_right om hs
 have h2:m*2^s≤m*2^32:=Bo _ om
 rw[fu]at hm;rw[ja];omega
theorem bpv (hs:s<32):m*2^s%dz=m%2^(32-s)*2^s∧m*2^s/dz=m/2^(32-s):=by
 rw[← Jk s om,og (2^s),ajq]
 exact⟨rfl,Nat.mul_div_mul_right _ _ (wz om)⟩

def cte (w:Wq) (xl:List Nat) (v:Nat) (e:Ending) (w':Wq):Prop :=
 ∃ zr,e = .returned (.slice (some ⟨w.heap.size,0,none⟩) (xl.length+1) (xl.length+1))∧zr.length=xl.length+1∧(∀ x∈zr,x<dz)∧bf dz zr=v∧ZB .u32 w' w.heap.size 187 zr∧Below w.heap.size w w'

theorem bhb (Ax:Option Addr) (cx:Nat) (xl:List Nat) (n s:Nat) (w:Wq) (hx:xx w Ax cx xl n) (hs:s<32) (hk:xl.length+1≤35184372088832) :
  Calls prog 212 #[.slice Ax xl.length cx,.int .u64 ((s:Nat):Int)] w fun e w'=>cte w xl (n*2^s) e w':=by
 have hmk:=aua (xl.length+1) hk
 simp only[adg,art]at hmk
 have hx1:=hx.Aj;have hx2:=hx.cap2
 go_enter func212,ntmps212
 go_wp2
 go_loopw [6] (fun iv wr => ∃ (i:Nat) (zr:List Nat),i≤xl.length∧iv = .int .i64 ((i:Nat):Int)∧Hid (Fg dz (2^s) xl zr i)∧ZB .u32 wr w.heap.size 187 zr∧Below w.heap.size w wr) (fun iv _=>xl.length-(intOf iv).toNat)
 case atStart=>exact⟨0,List.replicate (xl.length+1) 0,ug _,rfl,Fg.start _ _ (wz om) (by rw[fu];omega) mi (aah _),heap_alloc_new w _,(df _ _).alloc (gu _) _⟩
 case round =>
  obtain⟨i,zr,hi,rfl,HI,qh,hg⟩:=hrel;have hlen:=HI.out.len
  by_cases hlt:i<xl.length
  ·
   obtain⟨bx,ox,rfl,hbx,hcx⟩:=hx.ws om;have Lj:=(hg.cell (p:=⟨bx,ox+i,none⟩) hbx).trans (hcx i hlt);clear hcx;have hzc:=qh.cell i om;have hzf:=qh.frozen i;have crk:=qh.cell (i+1) om;have cig:=qh.frozen (i+1);obtain⟨m,hm⟩ : ∃ m,m=ik xl i:=⟨_,rfl⟩
   obtain⟨z,hz⟩ : ∃ z,z=ik zr i:=⟨_,rfl⟩
   rw[← hm]at Lj;rw[← hz]at hzc;have Wn:m<dz:=by rw[hm];exact jy (by rw[fu];omega) _ hx.lt i
   have Qz:z<dz:=by rw[hz];exact jy (by rw[fu];omega) _ HI.out.lt i
   have hzS:z<2^s:=by rw[hz];exact HI.out.low
   obtain⟨x,Mr⟩ : ∃ x,x=m*2^s:=⟨_,rfl⟩
   obtain⟨p,hp⟩ : ∃ p,p=x%dz:=⟨_,rfl⟩
   obtain⟨r,hr⟩ : ∃ r,r=z+p:=⟨_,rfl⟩
   obtain⟨q,hq⟩ : ∃ q,q=x/dz:=⟨_,rfl⟩
   have Il:=bpv (m:=m) hs;rw[← Mr,← hp,← hq]at Il;have hpB:p<dz:=by rw[hp];exact Bf _ (by rw[fu];omega)
   have Zw:q<dz:=by rw[hq,Fu (by rw[fu];omega)];have:=bpw Wn hs;rw[Mr,fu];rw[ja]at this;omega
   have e0:IntKind.u64.wrap (m:Int)=(m:Int):=jm rfl (by rw[fu]at Wn;rw[ja];omega);have e1:IntKind.u64.wrap ((m:Int)*2^s)=(x:Int):=jm (by rw[Mr];simp) (by rw[Mr];exact bpw Wn hs);have e2:Go.bits .or .u32 (z:Int) (p:Int)=(r:Int):=by
    rw[adx z p Qz hpB,hr,Il.1,abb hzS]
   have e3:(x:Int)/4294967296=(q:Int):=by rw[hq,fu];omega
   have e4:(x:Int)%4294967296=(p:Int):=by rw[hp,fu];omega
   have e5:(q:Int)%4294967296=(q:Int):=by rw[fu]at Zw;omega
   have e6:IntKind.u32.wrap (x:Int)=(p:Int):=by rw[Hf,hp]
   have e7:IntKind.u32.wrap (q:Int)=(q:Int):=by rw[Sj];exact e5
   have hfin : ∀ W,W=(wr.setCell ⟨w.heap.size,i,none⟩ (.int .u32 (r:Int))).setCell ⟨w.heap.size,i+1,none⟩ (.int .u32 (q:Int))→Hid (Fg dz (2^s) xl ((zr.set i r).set (i+1) q) (i+1))∧ZB .u32 W w.heap.size 187 ((zr.set i r).set (i+1) q)∧Below w.heap.size w W:=by
    rintro W rfl;refine⟨?_,(qh.Jr _ _).Jr _ _,(hg.setCell mi _).setCell mi _⟩
    have:=HI.out.step (Jk s om) (wz om) hlt (by rw[← pg,← hm];exact Wn);rw[hr,Il.1,Il.2,hm,hz];exact this
   have HF:=ae hfin;clear hfin Il hp hr hq hm hz hzS qh hg Mr hpB Zw Wn Qz;go_wp2_with fail
   go_roundw
   case rel =>
    obtain⟨r1,r2,r3⟩:=(aa HF) _ rfl;exact⟨i+1,_,by omega,by go_num,r1,r2,r3⟩
   case measure=>simp[intOf]<;>omega
  ·
   have e:i=xl.length:=by omega
   subst e;have hv:=HI.out.done;rw[hx.val]at hv;have HV:=bg hv;clear hv;go_wp2_with fail
   go_ret
   exact⟨zr,rfl,hlen,HI.out.lt,HV.out,qh,hg⟩
end Go.Proofs.YtfgeaakhlcaibaaGreatDoor
namespace Go.Proofs.YtfgeaakhlcaibaaGreatDoor
open Go.Proofs.Tryz
open Go renaming World → Wq
open Go renaming Value → Vq
variable {ty tb:TypeId} {pos:String} {af:Array Edge} {gd:Option (Nat×Bool)} {n k d b F B K q c cap i top head c1 m s next r:Nat} {w W w' Wp W':Wq} {x y x1 x2:Operand} {Q:Exit→Act→Wq→Prop} {P:Program} {T:Nat→Wq→Vq→Prop} {G:Wq→Prop} {al ul vl l1 zc:List Nat} {l:List Oper} {a0 a:Act} {z o s1 z1:Int} {ρ:Operand→Vq} {fn:Func} {ats:Array TypeId} {v a1 u0 u1:Vq} {A1 A2:Wq→Vq→Prop} {A:Option Addr} {ek:Bool} {vs:Array Vq}

structure Xl (B top head Q q r:Nat):Prop where
 eq:q*top+r=head
 ge:Q≤q
 lt:q<B
theorem Xl.step {Q:Nat} (hQ:Q*(top*B+next)≤head*B+d) (h:Xl B top head Q q r) (hlt:r*B+d<q*next):1≤q∧Xl B top head Q (q-1) (r+top):=by
 have h1:Q<q:=by
  rcases Fa Q q with h1|h1
  ·
   exact h1
  ·
   have h2:q*(top*B+next)≤Q*(top*B+next):=Dc _ h1;have h3:q*(top*B+next)=q*top*B+q*next:=by rw[uo,uk]
   have h4:head*B=q*top*B+r*B:=by rw[← h.eq,xm]
   omega
 have he:=h.eq
 obtain⟨p,rfl⟩ : ∃ p,q=p+1:=⟨q-1,by omega⟩
 refine⟨by omega,⟨?_,by omega,by have:=h.lt;omega⟩⟩
 rw[ase]
 rw[xm,Iy]at he
 omega
theorem Xl.fits {Q:Nat} (hn:next<B) (h:Xl B top head Q q r) (hs:B≤r∨q*next≤r*B+d):q*(top*B+next)≤head*B+d:=by
 have h3:q*(top*B+next)=q*top*B+q*next:=by rw[uo,uk]
 have h4:head*B=q*top*B+r*B:=by rw[← h.eq,xm]
 have h5:q*next≤r*B+d:=by
  rcases hs with h1|h1
  ·
   have h6:q*next≤B*B:=abn (Lt h.lt) (Lt hn)
   have h7:B*B≤r*B:=Dc _ h1;omega
  ·
   exact h1
 omega
theorem bfx {B P X Y U3 Yt Q:Nat} (hP:0<P) (hX:U3*P≤X) (hY:Y<(Yt+1)*P) (hY0:0<Y) (hQ:Q=X/Y) (hq:q*Yt≤U3) (hB:q≤Yt):q≤Q+1:=by
 rcases Fs q with h|h
 ·
  omega
 obtain⟨p,rfl⟩ : ∃ p,q=p+1:=⟨q-1,by omega⟩
 suffices p≤Q by omega
 rw[hQ,abo hY0]
 have h1:p*Y≤p*((Yt+1)*P):=Bo _ (Lt hY)
 have h2:p*((Yt+1)*P)=(p*Yt+p)*P:=by rw[← uk,uo,Ns]
 have h3:(p*Yt+p)*P≤((p+1)*Yt)*P:=Dc _ (by rw[xm];omega)
 have h4:(p+1)*Yt*P≤U3*P:=Dc _ hq
 omega

structure Mh (B:Nat) (ul vl zc:List Nat) (q i c b:Nat):Prop where
 len:zc.length=ul.length
 same : ∀ j,i≤j→zc.getD j 0=ul.getD j 0
 lt : ∀ x∈zc,x<B
 eq:bf B (zc.take i)+q*bf B (vl.take i)=bf B (ul.take i)+B^i*(c+b)
 c1:c<B
 b1:b≤1
theorem Mh.start (ul vl:List Nat) (q:Nat) (hB:0<B) (h : ∀ x∈ul,x<B):Mh B ul vl ul q 0 0 0:=⟨rfl,fun _ _=>rfl,h,by simp[bf],hB,by omega⟩
theorem Mh.step {b' t:Nat} (h:Mh B ul vl zc q i c b) (hi:i<ul.length) (ht:t=c+q*vl.getD i 0) (htB:t<B*B) (hd:d<B) (hb:b'≤1)
  (e:d+t%B+b=ul.getD i 0+B*b'):Mh B ul vl (zc.set i d) q (i+1) (t/B) b':=by
 have hlen:=h.len
 have hB:0<B:=by omega
 refine⟨by simp[hlen],fun j hj => ?_,Bl _ _ _ h.lt hd,?_,?_,hb⟩
 ·
  rw[Gx _ _ _ _ om,h.same j om]
 ·
  rw[Bb _ _ _ om,Cb,nz,nz,uy,Ce om,Be];have he:=h.eq;have Jb:=Fv t B;generalize B^i=P at *;generalize bf B (zc.take i)=Z at *;generalize bf B (vl.take i)=V at *;generalize bf B (ul.take i)=U at *;generalize vl.getD i 0=y at *;generalize ul.getD i 0=x at *;generalize t/B=hi at *;generalize t%B=lo at *;have k1:P*d+P*lo+P*b=P*x+P*(B*b'):=by rw[← uo,← uo,e,uo]
  have k2:P*(B*hi)+P*lo=P*c+P*(q*y):=by rw[← uo,Jb,ht,uo]
  rw[uo]at he;rw[uo,uo,show q*(P*y)=P*(q*y)by simp only[Nt],uk,uk];omega
 ·
  rw[Fu hB];exact htB
theorem Mh.done (h:Mh B ul vl zc q ul.length 0 b) (hv:vl.length≤ul.length):bf B zc+q*bf B vl=bf B ul+B^ul.length*b:=by
 have e:=h.eq
 have hl:=h.len
 rwa[jk _ zc _ om,jk _ vl _ hv,jk _ _ _ (gu _),Bn]at e
end Go.Proofs.YtfgeaakhlcaibaaGreatDoor
namespace Go.Proofs.YtfgeaakhlcaibaaGreatDoor
open Go.RowKit
open Go.Proofs.Tryz
open Go renaming World → Wq
open Go renaming Value → Vq
variable {ty tb:TypeId} {pos:String} {af:Array Edge} {gd:Option (Nat×Bool)} {n k d b F B K q c cap i top head c1 m s next r:Nat} {w W w' Wp W':Wq} {x y x1 x2:Operand} {Q:Exit→Act→Wq→Prop} {P:Program} {T:Nat→Wq→Vq→Prop} {G:Wq→Prop} {al ul vl l1 zc:List Nat} {l:List Oper} {a0 a:Act} {z o s1 z1:Int} {ρ:Operand→Vq} {fn:Func} {ats:Array TypeId} {v a1 u0 u1:Vq} {A1 A2:Wq→Vq→Prop} {A:Option Addr} {ek:Bool} {vs:Array Vq}

structure StepT (ul vl zr:List Nat) (q:Nat):Prop where
 len:zr.length=ul.length
 lt : ∀ x∈zr,x<dz
 quo:q=bf dz ul/bf dz vl
 rem:bf dz zr=bf dz ul%bf dz vl

theorem bbw {x lo s1 s2:Nat} (hx:x<dz) (hlo:lo<dz) (hb:b≤1) (h1:(s1:Int)=((x:Int)-(lo:Int))%18446744073709551616) (h2:(s2:Int)=((s1:Int)-(b:Int))%18446744073709551616) :
  s2%dz<dz∧s2/9223372036854775808≤1∧s2%dz+lo+b=x+dz*(s2/9223372036854775808):=by
 rw[fu]at *
 omega
theorem cgk (hB:0<B) (l:List Nat) (n:Nat) (hn:2≤n) (hl:l.length=n+1) (hlt : ∀ x∈l,x<B) :
  ((l.getD n 0*B+l.getD (n-1) 0)*B+l.getD (n-2) 0)*B^(n-2)≤bf B l∧bf B l<((l.getD n 0*B+l.getD (n-1) 0)*B+l.getD (n-2) 0+1)*B^(n-2):=by
 have h1:=rz B l n om
 rw[jk _ _ _ om]at h1
 have h2:=rz B l (n-1) om
 rw[show n-1+1=n by omega]at h2
 have h2':=rz B l (n-2) om
 rw[show n-2+1=n-1 by omega]at h2'
 have h3:=Bi (B:=B) (l.take (n-2)) (fun x hx=>hlt x (Dn hx))
 rw[uy,Ce om]at h3
 have e:B^n=B^(n-2)*B*B:=by rw[← Be,← Be,show(n-2).succ.succ=n by omega]
 have e':B^(n-1)=B^(n-2)*B:=by rw[← Be,show(n-2).succ=n-1 by omega]
 rw[h1,h2,h2',e,e']
 generalize B^(n-2)=P at *
 generalize l.getD n 0=a at *
 generalize l.getD (n-1) 0=b at *
 generalize l.getD (n-2) 0=c at *
 have k1:((a*B+b)*B+c)*P=P*B*B*a+P*B*b+P*c:=by
  simp only[xm,uo,og,Nt,uk]
 rw[xm _ 1 P,Iy,k1]
 omega
theorem bli (l:List Nat) (n:Nat) (hn:2≤n) (hl:l.length=n) (hlt : ∀ x∈l,x<B) :
  (l.getD (n-1) 0*B+l.getD (n-2) 0)*B^(n-2)≤bf B l∧bf B l<(l.getD (n-1) 0*B+l.getD (n-2) 0+1)*B^(n-2):=by
 have h2:=rz B l (n-1) om
 rw[show n-1+1=n by omega,jk _ _ _ om]at h2
 have h2':=rz B l (n-2) om
 rw[show n-2+1=n-1 by omega]at h2'
 have h3:=Bi (B:=B) (l.take (n-2)) (fun x hx=>hlt x (Dn hx))
 rw[uy,Ce om]at h3
 have e':B^(n-1)=B^(n-2)*B:=by rw[← Be,show(n-2).succ=n-1 by omega]
 rw[h2,h2',e']
 generalize B^(n-2)=P at *
 generalize l.getD (n-1) 0=b at *
 generalize l.getD (n-2) 0=c at *
 have k1:(b*B+c)*P=P*B*b+P*c:=by
  simp only[xm,uo,og,Nt,uk]
 rw[xm _ 1 P,Iy,k1]
 omega
theorem bdb {a z:Nat} (ha:a<dz) (hz:z<dz):Go.bits .or .u64 ((a*dz:Nat):Int) (z:Int)=((a*dz+z:Nat):Int):=by
 have h:=abb (z:=z) (a:=a) (s:=32) (by rw[fu]at hz;omega)
 rw[bits_or_u64_nat _ _ (by rw[fu]at *;omega) (by rw[fu]at *;omega),Nat.or_comm,fu]
 rw[show(2:Nat)^32=4294967296 from rfl]at h
 rw[h,asf]

structure Uo (ul vl:List Nat) (n:Nat):Prop where
 n2:2≤n
 acb:vl.length=n
 Ip:ul.length=n+1
 ltu : ∀ x∈ul,x<dz
 ltv : ∀ x∈vl,x<dz
 top:vl.getD (n-1) 0≠0
 pre:bf dz ul<dz*bf dz vl
theorem Uo.start (h:Uo ul vl n) (hh:head=ul.getD n 0*dz+ul.getD (n-1) 0) (ht:top=vl.getD (n-1) 0) :
  Xl dz top head (bf dz ul/bf dz vl) (min (head/top) 4294967295) (head-min (head/top) 4294967295*top)∧min (head/top) 4294967295*top≤head:=by
 have hB:0<dz:=by rw[fu];omega
 have hV:=(bli vl n h.n2 h.acb h.ltv).1
 have hU:=cgl hB ul n (by have:=h.n2;omega) h.Ip h.ltu
 have h1:=buw (B:=dz) vl n (by have:=h.n2;omega) h.acb
 rw[← ht]at h1
 rw[← hh]at hU
 have ht0:0<top:=by rw[ht];exact abm h.top
 have Uk:0<bf dz vl:=by
  have h2:0<dz^(n-1):=wz hB;have:=Ye ht0 h2;omega
 have hQ:bf dz ul/bf dz vl*top≤head:=aen h1 hU (Uz _ _)
 have hQB:bf dz ul/bf dz vl<dz:=by rw[Fu Uk];exact h.pre
 have hle:min (head/top) 4294967295*top≤head:=xy (Dc _ (Nat.min_le_left _ _)) (Uz _ _)
 refine⟨⟨Nat.add_sub_of_le hle,?_,?_⟩,hle⟩
 ·
  rw[Nat.le_min];exact⟨(abo ht0).2 hQ,Nat.le_of_lt_succ (by rw[fu]at hQB;exact hQB)⟩
 ·
  exact Dm (bbj (head/top) 4294967295) (by rw[fu];omega)
theorem Uo.low (h:Uo ul vl n):bf dz ul/bf dz vl*(vl.getD (n-1) 0*dz+vl.getD (n-2) 0)≤(ul.getD n 0*dz+ul.getD (n-1) 0)*dz+ul.getD (n-2) 0:=by
 have hB:0<dz:=by rw[fu];omega
 exact aen (bli vl n h.n2 h.acb h.ltv).1 (cgk hB ul n h.n2 h.Ip h.ltu).2 (Uz _ _)
theorem Uo.one (h:Uo ul vl n) (hq:q*(vl.getD (n-1) 0*dz+vl.getD (n-2) 0)≤(ul.getD n 0*dz+ul.getD (n-1) 0)*dz+ul.getD (n-2) 0) (hlt:q<dz):q≤bf dz ul/bf dz vl+1:=by
 have hB:0<dz:=by rw[fu];omega
 have ht0:1≤vl.getD (n-1) 0:=abm h.top
 have h1:1*dz≤vl.getD (n-1) 0*dz:=Dc _ ht0
 have hV:=(bli vl n h.n2 h.acb h.ltv)
 have hP:0<dz^(n-2):=wz hB
 have Uk:0<bf dz vl:=by
  have:=Ye (show 0<vl.getD (n-1) 0*dz+vl.getD (n-2) 0 by omega) hP;omega
 exact bfx (B:=dz) hP (cgk hB ul n h.n2 h.Ip h.ltu).1 hV.2 Uk rfl hq om
end Go.Proofs.YtfgeaakhlcaibaaGreatDoor
