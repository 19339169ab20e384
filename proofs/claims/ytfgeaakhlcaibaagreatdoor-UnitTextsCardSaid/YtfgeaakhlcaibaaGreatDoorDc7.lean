/- Texts beneath a law of layer 1. -/
import Derived.Test.YtfgeaakhlcaibaaGreatDoorDc6
import Derived.BigQuiet
set_option maxRecDepth 100000
set_option maxHeartbeats 16000000
namespace Go.Proofs.YtfgeaakhlcaibaaGreatDoor
open Go.RowKit
open Go.Proofs.Tryz
open Go renaming World → Wq
open Go renaming Value → Vq
variable {x q y:Rat} {K b m k F L c1 c2 r s:Nat} {W w' V wr:Wq} {n d a xn xd yn yd z c xe b1 m2 ye g h p m3 b0 l0:Int} {bs:List (Nat×Rat)} {ty TB:TypeId} {pos:String} {af:Array Edge} {gd:Option (Nat×Bool)} {l:List Oper} {T:Nat→Wq→Vq→Prop} {a0:Act} {v v0 u0 u1 u2 u3:Vq} {Q:Exit→Act→Wq→Prop} {al l1 l2:List Nat} {G:Wq→Prop} {A1 A2:Option Addr} {m1 o1 o2:Bool} {ρ:Operand→Vq} {f:Nat→Int} {t:Tmp} {P:Program} {fn:Func} {ats:Array TypeId} {x1:Operand} {cs:List Vq} {vs:Array Vq}

namespace Sb
theorem _root_.Go.Proofs.YtfgeaakhlcaibaaGreatDoor.aT {n:Nat} (j:Nat) (h:si l k j t=true:=by kernel_rfl):cu l n T a0 k (.tmp t) (T j):=cfy j h
theorem _root_.Go.Proofs.YtfgeaakhlcaibaaGreatDoor.aF {n:Nat} {c:Vq} (h:Gd l n t=true:=by kernel_rfl) (hc:a0.tmps.getD t undef=c:=by rfl):cu l n T a0 k (.tmp t) (ax c):=cga h hc
theorem _root_.Go.Proofs.YtfgeaakhlcaibaaGreatDoor.sc2 {n : Nat} {w : Wq} {bs : List Sb.yz} {d : Nat} {x2 : Operand} {A1 A2 : Wq → Vq → Prop} (hF : P.funcs[F]? = some fn) (h1 : cu l n T a0 k x1 A1) (h2 : cu l n T a0 k x2 A2) (hc : ∀ (W : Wq) (v1 v2 : Vq), Sb.iw w bs V W → A1 W v1 → A2 W v2 → Calls P F #[v1, v2] W fun e w' => ∃ u, e = .returned u ∧ il W w' ∧ T k w' u) (hn : (!(fn.name == "runtime.NumGoroutine") && fn.body.isSome) = true := by kernel_rfl) (hal : al.contains k = false := by rfl) :
  ib P Q l n T (Sb.iw w bs V) il al a0 k { dst:=some d,op := .call { callee := .value (.func F),args:=#[x1,x2],argTypes:=ats},type:=ty,pos:=pos,after:=af,guard:=gd}:=Ol hF hn hal Sb.iw.step h1 h2 hc
theorem _root_.Go.Proofs.YtfgeaakhlcaibaaGreatDoor.tA:(∀ {α:Type} {n:Nat} {a:α} {l:List α},(a::l).take (n+1)=a::l.take n)∧(∀ {α:Type} {l:List α},l.take 0=[])∧(∀ {α:Type} {n:Nat} {a:α} {l:List α},(a::l).drop (n+1)=l.drop n)∧(∀ {α:Type} {l:List α},l.drop 0=l)∧(∀ {α:Type} {l:List α} {n:Nat} {a:α},l.toArray.setIfInBounds n a=(l.set n a).toArray)∧(∀ {α:Type} {x a:α} {l:List α},(x::l).set 0 a=a::l)∧(∀ {α:Type} {x a:α} {l:List α} {n:Nat},(x::l).set (n+1) a=x::l.set n a):=⟨Sb.ta0,Sb.ta1,Sb.ta2,Sb.ta3,Sb.ta4,Sb.ta5,Sb.ta6⟩
theorem bqz {a1 a2 b2:Int} (w:Wq) (u0:Vq) (h0:bz [.z xn,.z xd] w u0) (u1:Vq) (h1:bz [.z yn,.z yd] w u1)
  (hg1:Kh w 164 xn yd g)
  (hg2:Kh w 164 yn xd h)
  (ha1:Kh w 165 xn g a1)
  (hb1:Kh w 165 yn h b1)
  (hm1:Kh w 147 a1 b1 n)
  (ha2:Kh w 165 xd h a2)
  (hb2:Kh w 165 yd g b2)
  (hm2:Kh w 147 a2 b2 d) :
  Calls prog 108 #[u0,u1] w (gp (bz [.z n,.z d]) w):=by
 have Ki:=ae hg1
 have HG2:=ae hg2
 have HA1:=ae ha1
 have HB1:=ae hb1
 have HM1:=ae hm1
 have HA2:=ae ha2
 have HB2:=ae hb2
 have HM2:=ae hm2
 clear hg1 hg2 ha1 hb1 hm1 ha2 hb2 hm2
 obtain⟨Vf,Ma,Ig,c0a,Hz,Yq,Yx,Oi,c0b,Od,rfl,f0a,Oe⟩:=acv h0
 obtain⟨s1a,n1a,Jp,c1a,Jl,s1b,n1b,Kj,Ke,Kc,rfl,f1a,f1b⟩:=acv h1
 go_enter func108,ntmps108
 go_upto_region 1 with fail
 have hO:=(Own.push (T:=79) (ls:=zQ) (Own.push (T:=79) (ls:=[.z yn,.z yd]) (Own.push (T:=79) (ls:=[.z xn,.z xd]) (Own.nil w) (gy.z f0a (gy.z Oe rfl)) (w.heap.size) rfl) (gy.below (by repeat (first|exact df _ _|refine ic ?_ _)) (gy.z f1a (gy.z f1b rfl))) (w.heap.size+1) (by simp only[yw])) (gy.below (by repeat (first|exact df _ _|refine ic ?_ _)) (gy.vs w [.int .i64 0,.bool false,.slice none 0 0,.int .i64 0,.bool false,.slice none 0 0] rfl)) (w.heap.size+2) (by simp only[yw]))
 generalize ((w.alloc (.cells #[.int .i64 Vf,.bool Ma,.slice Ig (List.length Hz) c0a,.int .i64 Yq,.bool Yx,.slice Oi (List.length Od) c0b] 79)).alloc (.cells #[.int .i64 s1a,.bool n1a,.slice Jp (List.length Jl) c1a,.int .i64 s1b,.bool n1b,.slice Kj (List.length Kc) Ke] 79)).alloc (.cells #[.int .i64 0,.bool false,.slice none 0 0,.int .i64 0,.bool false,.slice none 0 0] 79)=W0 at *
 have HO:=ae hO
 clear hO
 refine aav 14 36 (fun k=>if k=12 then 5 else 6) (ui [ax (.pointer (some ⟨w.heap.size,0,none⟩)),bz [.z xn],ax (.pointer (some ⟨w.heap.size+1,3,none⟩)),bz [.z yd],bz [.z g],ax (.pointer (some ⟨w.heap.size+1,0,none⟩)),bz [.z yn],ax (.pointer (some ⟨w.heap.size,3,none⟩)),bz [.z xd],bz [.z h],fun _ _=>True,fun _ _=>True,fun _ _=>True,fun _ _=>True]) (iw w [(w.heap.size+2,79,zQ),(w.heap.size+1,79,[.z yn,.z yd]),(w.heap.size,79,[.z xn,.z xd])] W0) (EX W0.heap.size 77) (J2 77 3 W0.heap.size 10 11 12 13 [.z g] [.z h]) kr kr kr rfl (qm.pick ⟨(Wz _),(Ao _),(Wz _),(Ao _),(Ao _),(Wz _),(Ao _),(Wz _),(Ao _),(Ao _),(Cx),(Cx),(Cx),(Cx),trivial⟩) (iw.start (aa HO)) (fun _=>J2.start) (fun _ _ _ _ h=>J2.congr (n:=14) de h)
  (jg (Hu (Px (b:=w.heap.size) (off:=0) rfl aF rfl rfl))
   (jg (Hu (El zq Ed (aT 0) [] [.z xn] [.z xd]))
   (jg (Hu (Jj (b:=w.heap.size+1) (off:=0) rfl aF rfl rfl))
   (jg (Hu (El zq uq (aT 2) [.z yn] [.z yd] []))
   (jg (Hu (Ol func164 kr rfl iw.step (aT 1) (aT 3) (fun W v0 v1 hG h0 h1=>i2 (aa Ki) hG.bel h0 h1)))
   (jg (Hu (Px (b:=w.heap.size+1) (off:=0) rfl aF rfl rfl))
   (jg (Hu (El zq uq (aT 5) [] [.z yn] [.z yd]))
   (jg (Hu (Jj (b:=w.heap.size) (off:=0) rfl aF rfl rfl))
   (jg (Hu (El zq Ed (aT 7) [.z xn] [.z xd] []))
   (jg (Hu (Ol func164 kr rfl iw.step (aT 6) (aT 8) (fun W v0 v1 hG h0 h1=>i2 (aa HG2) hG.bel h0 h1)))
   (jg (afb adr rfl rfl rfl)
   (jg (agu adr rfl rfl rfl)
   (jg (afa (aa HO) Oj kr (aT 4) rfl rfl rfl)
   (jg (agt (aa HO) Oj kr (aT 9) rfl rfl rfl)
   Su)))))))))))))) ?_
 intro v1 V1 hG1 hJ1 hv1 hne1
 simp only[ay,Act.put,tA]
 obtain⟨_,_,hd1,hf1,hg1⟩:=hJ1
 obtain⟨cyt,e10,cba,cii⟩:=(hf1 trivial).2
 obtain⟨cys,e11,caz,cih⟩:=(hg1 trivial).2
 simp only[e10,e11]
 have hO:=Own.bfs (aa HO) hG1.2 cba cii caz cih (fun h=>hd1 trivial trivial (by rw[e10,e11,h]))
 clear cba cii caz cih hd1 hf1 hg1
 replace HO:=ae hO
 clear hO hG1 hv1 hne1
 try clear e10 e11
 go_upto_region 2 with fail
 refine Nw 19 [_,_,_,_,_,_,_,_,_,_,_,_,_,_,_,_,_,_,_] [] HO (au (Px (b:=w.heap.size) (off:=0) rfl aF rfl rfl) (Ea zq me4 (aT 0) [] [.z xn] [.z xd] (xh zq uq aF (au (sc2 func165 (aT 1) (aT 2) (fun W v0 v1 hG h0 h1=>i2 (aa HA1) hG.bel h0 h1)) (au (Px (b:=w.heap.size+1) (off:=0) rfl aF rfl rfl) (Ea zq Uh (aT 4) [] [.z yn] [.z yd] (xh zq me0 aF (au (sc2 func165 (aT 5) (aT 6) (fun W v0 v1 hG h0 h1=>i2 (aa HB1) hG.bel h0 h1)) (au (sc2 func147 (aT 3) (aT 7) (fun W v0 v1 hG h0 h1=>i2 (aa HM1) hG.bel h0 h1)) (au (Jj (b:=w.heap.size) (off:=0) rfl aF rfl rfl) (Ea zq me4 (aT 9) [.z xn] [.z xd] [] (xh zq me0 aF (au (sc2 func165 (aT 10) (aT 11) (fun W v0 v1 hG h0 h1=>i2 (aa HA2) hG.bel h0 h1)) (au (Jj (b:=w.heap.size+1) (off:=0) rfl aF rfl rfl) (Ea zq Uh (aT 13) [.z yn] [.z yd] [] (xh zq uq aF (au (sc2 func165 (aT 14) (aT 15) (fun W v0 v1 hG h0 h1=>i2 (aa HB2) hG.bel h0 h1)) (au (sc2 func147 (aT 12) (aT 16) (fun W v0 v1 hG h0 h1=>i2 (aa HM2) hG.bel h0 h1)) (au (Gu awv rfl (aT 8) (aT 17) rfl rfl rfl) ai))))))))))))))))))) ?_
 intro v2 V2 hG2 hv2 hne2
 simp only[ay,Act.put,tA]
 have hO:=hG2.1
 refine kg hO 2 Ty (hv2 18 de) ?_
 clear hO
 intro Oy hO hk0
 replace HO:=ae hO
 clear hO hG2 hv2 hne2 hk0
 go_wp2_with fail
 exact Ga results108 abe rfl (aa HO) Ed rfl rfl
theorem brd {q m1 e:Int} (w:Wq) (u0:Vq) (h0:bz [.z xn,.z xd] w u0) (u1:Vq) (h1:bz [.z yn,.z yd] w u1)
  (h1k:Kh w 164 xd yd g)
  (h2k:Kh w 165 xd g p)
  (h3k:Kh w 165 yd g q)
  (h4k:Kh w 147 xn q m1)
  (h5k:Kh w 147 yn p m2)
  (h6k:Kh w 166 m1 m2 n)
  (h7k:Kh w 164 g n h)
  (h8k:Kh w 165 n h a)
  (h9k:Kh w 165 yd h e)
  (ckc:Kh w 147 p e d) :
  Calls prog 93 #[u0,u1] w (gp (bz [.z a,.z d]) w):=by
 have H1:=ae h1k
 have H2:=ae h2k
 have H3:=ae h3k
 have H4:=ae h4k
 have H5:=ae h5k
 have H6:=ae h6k
 have H7:=ae h7k
 have H8:=ae h8k
 have H9:=ae h9k
 have H10:=ae ckc
 clear h1k h2k h3k h4k h5k h6k h7k h8k h9k ckc
 obtain⟨Vf,Ma,Ig,c0a,Hz,Yq,Yx,Oi,c0b,Od,rfl,f0a,Oe⟩:=acv h0
 obtain⟨s1a,n1a,Jp,c1a,Jl,s1b,n1b,Kj,Ke,Kc,rfl,f1a,f1b⟩:=acv h1
 go_enter func93,ntmps93
 go_upto_region 1 with fail
 have hO:=(Own.push (T:=79) (ls:=zQ) (Own.push (T:=79) (ls:=[.z yn,.z yd]) (Own.push (T:=79) (ls:=[.z xn,.z xd]) (Own.nil w) (gy.z f0a (gy.z Oe rfl)) (w.heap.size) rfl) (gy.below (by repeat (first|exact df _ _|refine ic ?_ _)) (gy.z f1a (gy.z f1b rfl))) (w.heap.size+1) (by simp only[yw])) (gy.below (by repeat (first|exact df _ _|refine ic ?_ _)) (gy.vs w [.int .i64 0,.bool false,.slice none 0 0,.int .i64 0,.bool false,.slice none 0 0] rfl)) (w.heap.size+2) (by simp only[yw]))
 generalize ((w.alloc (.cells #[.int .i64 Vf,.bool Ma,.slice Ig (List.length Hz) c0a,.int .i64 Yq,.bool Yx,.slice Oi (List.length Od) c0b] 79)).alloc (.cells #[.int .i64 s1a,.bool n1a,.slice Jp (List.length Jl) c1a,.int .i64 s1b,.bool n1b,.slice Kj (List.length Kc) Ke] 79)).alloc (.cells #[.int .i64 0,.bool false,.slice none 0 0,.int .i64 0,.bool false,.slice none 0 0] 79)=W0 at *
 have HO:=ae hO
 clear hO
 refine fw 6 [_,_,_,_,_,_] [5] HO (au (Jj (b:=w.heap.size) (off:=0) rfl aF rfl rfl) (Ea zq Ed (aT 0) [.z xn] [.z xd] [] (au (Jj (b:=w.heap.size+1) (off:=0) rfl aF rfl rfl) (Ea zq uq (aT 2) [.z yn] [.z yd] [] (au (sc2 func164 (aT 1) (aT 3) (fun W v0 v1 hG h0 h1=>i2 (aa H1) hG.bel h0 h1)) (Am adr ai)))))) ?_
 intro v1 V1 hG1 hv1 hne1
 obtain⟨aqn,e5,zo,Cy⟩:=(show qw 77 zZ W0.heap.size V1 (v1 5)from hv1 5 de)
 simp only[ay,Act.put,tA,e5]
 have hO:=hG1.1
 replace hO:=Own.add (aa HO) hG1.2 zo Cy
 clear zo Cy
 refine kg hO 0 Oj (hv1 4 de) ?_
 clear hO
 intro Ep hO hk0
 replace HO:=ae hO
 clear hO hG1 hv1 hne1 hk0
 try clear e5
 go_upto_region 2 with fail
 refine aav 12 45 (fun k=>if k=10 then 6 else 7) (ui [ax (.pointer (some ⟨w.heap.size,3,none⟩)),bz [.z xd],bz [.z g],bz [.z p],ax (.pointer (some ⟨w.heap.size+1,3,none⟩)),bz [.z yd],bz [.z g],bz [.z q],fun _ _=>True,fun _ _=>True,fun _ _=>True,fun _ _=>True]) (iw w [(aqn,77,[.z g]),(w.heap.size+2,79,zQ),(w.heap.size+1,79,[.z yn,.z yd]),(w.heap.size,79,[.z xn,.z xd])] Ep) (EX Ep.heap.size 77) (J2 77 3 Ep.heap.size 8 9 10 11 [.z p] [.z q]) kr kr kr rfl (qm.pick ⟨(Wz _),(Ao _),(Ao _),(Ao _),(Wz _),(Ao _),(Ao _),(Ao _),(Cx),(Cx),(Cx),(Cx),trivial⟩) (iw.start (aa HO)) (fun _=>J2.start) (fun _ _ _ _ h=>J2.congr (n:=12) de h)
  (jg (Hu (Jj (b:=w.heap.size) (off:=0) rfl aF rfl rfl))
   (jg (Hu (El zq Uh (aT 0) [.z xn] [.z xd] []))
   (jg (Hu (El zq me0 aF [] [.z g] []))
   (jg (Hu (Ol func165 kr rfl iw.step (aT 1) (aT 2) (fun W v0 v1 hG h0 h1=>i2 (aa H2) hG.bel h0 h1)))
   (jg (Hu (Jj (b:=w.heap.size+1) (off:=0) rfl aF rfl rfl))
   (jg (Hu (El zq Ed (aT 4) [.z yn] [.z yd] []))
   (jg (Hu (El zq me0 aF [] [.z g] []))
   (jg (Hu (Ol func165 kr rfl iw.step (aT 5) (aT 6) (fun W v0 v1 hG h0 h1=>i2 (aa H3) hG.bel h0 h1)))
   (jg (afb adr rfl rfl rfl)
   (jg (agu adr rfl rfl rfl)
   (jg (afa (aa HO) Oj kr (aT 3) rfl rfl rfl)
   (jg (agt (aa HO) Oj kr (aT 7) rfl rfl rfl)
   Su)))))))))))) ?_
 intro v2 V2 hG2 hJ2 hv2 hne2
 simp only[ay,Act.put,tA]
 obtain⟨_,_,hd2,hf2,hg2⟩:=hJ2
 obtain⟨czn,e8,Ov,hz8⟩:=(hf2 trivial).2
 obtain⟨czm,e9,Xh,hz9⟩:=(hg2 trivial).2
 simp only[e8,e9]
 have hO:=Own.bfs (aa HO) hG2.2 Ov hz8 Xh hz9 (fun h=>hd2 trivial trivial (by rw[e8,e9,h]))
 clear Ov hz8 Xh hz9 hd2 hf2 hg2
 replace HO:=ae hO
 clear hO hG2 hv2 hne2
 try clear e8 e9
 go_upto_region 3 with fail
 refine bof 11 45 (fun _=>8) (ui [ax (.pointer (some ⟨w.heap.size,0,none⟩)),bz [.z xn],bz [.z q],bz [.z m1],ax (.pointer (some ⟨w.heap.size+1,0,none⟩)),bz [.z yn],bz [.z p],bz [.z m2],bz [.z n],Vz 77 3 V2.heap.size,Xp 77 [.z n] V2.heap.size]) (iw w _ V2) (EN V2.heap.size 77 [.z n]) kr kr kr rfl (qm.pick ⟨(bcb _),(Pt _),(Pt _),(Pt _),(bcb _),(Pt _),(Pt _),(Pt _),(Pt _),(bln),(bpq),trivial⟩) (iw.start (aa HO))
  (Bu (Fp rfl rfl (Hl (Px (b:=w.heap.size) (off:=0) rfl aF rfl rfl)))
   (Bu (Fp rfl rfl (Hl (El zq me5 (aT 0) [] [.z xn] [.z xd])))
   (Bu (Fp rfl rfl (Hl (El zq me0 aF [] [.z q] [])))
   (Bu (Fp rfl rfl (Hl (Ol func147 kr rfl iw.step (aT 1) (aT 2) (fun W v0 v1 hG h0 h1=>i2 (aa H4) hG.bel h0 h1))))
   (Bu (Fp rfl rfl (Hl (Px (b:=w.heap.size+1) (off:=0) rfl aF rfl rfl)))
   (Bu (Fp rfl rfl (Hl (El zq me4 (aT 4) [] [.z yn] [.z yd])))
   (Bu (Fp rfl rfl (Hl (El zq uq aF [] [.z p] [])))
   (Bu (Fp rfl rfl (Hl (Ol func147 kr rfl iw.step (aT 5) (aT 6) (fun W v0 v1 hG h0 h1=>i2 (aa H5) hG.bel h0 h1))))
   (Bu (Fp rfl rfl (Hl (Ol func166 kr rfl iw.step (aT 3) (aT 7) (fun W v0 v1 hG h0 h1=>i2 (aa H6) hG.bel h0 h1))))
   (Bu (Fp rfl rfl (Hl (bvj adr rfl rfl iw.step iw.size rfl)))
   (Bu (bve (aa HO) Oj (aT 9) (aT 8) rfl rfl rfl)
   azz))))))))))) ?_
 intro v3 V3 hG3 hv3 ji
 simp only[ay,Act.put,tA]
 have e0:v3 0 = .pointer (some ⟨w.heap.size,0,none⟩):=hv3 0 de
 have e4:v3 4 = .pointer (some ⟨w.heap.size+1,0,none⟩):=hv3 4 de
 have e99:v3 10=v3 9:=ji 10 9 de de rfl rfl
 obtain⟨czl,e9,Xh,hz9⟩:=(show Xp 77 [.z n] V2.heap.size V3 (v3 10)from hv3 10 de)
 rw[e99]at e9
 clear e99
 simp only[e0,e4,e9]
 have hO:=Own.add (aa HO) hG3.2 Xh hz9
 clear Xh hz9
 replace HO:=ae hO
 clear hO hG3 hv3 ji
 try clear e0 e4 e9
 go_upto_region 4 with fail
 refine fw 4 [_,_,_,_] [3] HO (xh zq Uh aF (xh zq me0 aF (au (sc2 func164 (aT 0) (aT 1) (fun W v0 v1 hG h0 h1=>i2 (aa H7) hG.bel h0 h1)) (Am adr ai)))) ?_
 intro v4 V4 hG4 hv4 ma
 obtain⟨czk,e3,cjd,hz3⟩:=(show qw 77 zZ V3.heap.size V4 (v4 3)from hv4 3 de)
 simp only[ay,Act.put,tA,e3]
 have hO:=hG4.1
 replace hO:=Own.add (aa HO) hG4.2 cjd hz3
 clear cjd hz3
 refine kg hO 0 Oj (hv4 2 de) ?_
 clear hO
 intro Dy hO hk0
 replace HO:=ae hO
 clear hO hG4 hv4 ma hk0
 try clear e3
 go_upto_region 5 with fail
 refine Nw 10 [_,_,_,_,_,_,_,_,_,_] [] HO (xh zq uq aF (xh zq me0 aF (au (sc2 func165 (aT 0) (aT 1) (fun W v0 v1 hG h0 h1=>i2 (aa H8) hG.bel h0 h1)) (xh zq Uh aF (au (Jj (b:=w.heap.size+1) (off:=0) rfl aF rfl rfl) (Ea zq me6 (aT 4) [.z yn] [.z yd] [] (xh zq me0 aF (au (sc2 func165 (aT 5) (aT 6) (fun W v0 v1 hG h0 h1=>i2 (aa H9) hG.bel h0 h1)) (au (sc2 func147 (aT 3) (aT 7) (fun W v0 v1 hG h0 h1=>i2 (aa H10) hG.bel h0 h1)) (au (Gu awv rfl (aT 2) (aT 8) rfl rfl rfl) ai)))))))))) ?_
 intro v5 V5 mo hv5 hne5
 simp only[ay,Act.put,tA]
 have hO:=mo.1
 refine kg hO 5 Ty (hv5 9 de) ?_
 clear hO
 intro Jv hO hk0
 replace HO:=ae hO
 clear hO mo hv5 hne5 hk0
 go_wp2_with fail
 exact Ga results93 abe rfl (aa HO) me5 rfl rfl
end Sb

end Go.Proofs.YtfgeaakhlcaibaaGreatDoor
namespace Go.Proofs.YtfgeaakhlcaibaaGreatDoor
open Go.RowKit Sb
open Go.Proofs.Tryz
open Go renaming World → Wq
open Go renaming Value → Vq
variable {x q y:Rat} {K b m k F L c1 c2 r s:Nat} {W w' V wr:Wq} {n d a xn xd yn yd z c xe b1 m2 ye g h p m3 b0 l0:Int} {bs:List (Nat×Rat)} {ty TB:TypeId} {pos:String} {af:Array Edge} {gd:Option (Nat×Bool)} {l:List Oper} {T:Nat→Wq→Vq→Prop} {a0:Act} {v v0 u0 u1 u2 u3:Vq} {Q:Exit→Act→Wq→Prop} {al l1 l2:List Nat} {G:Wq→Prop} {A1 A2:Option Addr} {m1 o1 o2:Bool} {ρ:Operand→Vq} {f:Nat→Int} {t:Tmp} {P:Program} {fn:Func} {ats:Array TypeId} {x1:Operand} {cs:List Vq} {vs:Array Vq}

theorem bix {w:Wq} (hT:yg w) (x y:Rat) (hx:Qk K x) (hy:Qk K y) (hK:K+K+1≤lim):Qm w 93 x y (x+y)∧Qk (K+K+1) (x+y):=by
 have dx:(x.den:Int)≠0:=by have:=x.den_pos;omega
 have dy:(y.den:Int)≠0:=by have:=y.den_pos;omega
 obtain⟨g,hg⟩ : ∃ g,g=x.den.gcd y.den:=⟨_,rfl⟩
 obtain⟨xd,hxd⟩ : ∃ z,z=(x.den:Int).tdiv g:=⟨_,rfl⟩
 obtain⟨yd,hyd⟩ : ∃ z,z=(y.den:Int).tdiv g:=⟨_,rfl⟩
 obtain⟨m1,hm1⟩ : ∃ z,z=x.num*yd:=⟨_,rfl⟩
 obtain⟨m2,hm2⟩ : ∃ z,z=y.num*xd:=⟨_,rfl⟩
 obtain⟨n,hn⟩ : ∃ z,z=m1+m2:=⟨_,rfl⟩
 obtain⟨h,hh⟩ : ∃ h,h=g.gcd n.natAbs:=⟨_,rfl⟩
 obtain⟨e1,he1⟩ : ∃ z,z=(y.den:Int).tdiv h:=⟨_,rfl⟩
 have hp:=aqs x y g h n hg (by rw[hn,hm1,hm2,hxd,hyd]) hh
 have g0:0<g:=by rw[hg];exact ajs _ x.den_pos
 have h0:0<h:=by rw[hh];exact ajs _ g0
 have sg:je eu K (g:Int):=by
  have:=hx.2.gcd_left (b:=(y.den:Int)) dx
  simpa [hg]using this
 have sh:je eu K (h:Int):=by
  have:=sg.gcd_left (b:=n) om
  simpa [hh]using this
 have sxd:je eu K xd:=by rw[hxd];exact hx.2.tdiv _
 have syd:je eu K yd:=by rw[hyd];exact hy.2.tdiv _
 have sm1:je eu (K+K) m1:=by rw[hm1];exact hx.1.mul syd
 have sm2:je eu (K+K) m2:=by rw[hm2];exact hy.1.mul sxd
 have sn:je eu (K+K+1) n:=by rw[hn];exact sm1.add zg sm2
 have se1:je eu K e1:=by rw[he1];exact hy.2.tdiv _
 have B:=zg
 have up : ∀ z,je eu K z→je eu (K+K+1) z:=fun z hz=>hz.mono B om
 refine⟨?_,⟨by rw[hp.1];exact sn.tdiv _,by rw[hp.2];exact((hx.2.tdiv _).mul (hy.2.tdiv _)).mono B om⟩⟩
 rw[Qm,hp.1,hp.2]
 exact fun s1 ek A1 c1 l1 s2 di A2 c2 l2 s3 Ck A3 c3 l3 s4 Nh A4 c4 l4 W hW f1 f2 f3 f4=>(brd W _ ⟨_,rfl,gy.z f1 (gy.z f2 rfl)⟩ _ ⟨_,rfl,gy.z f3 (gy.z f4 rfl)⟩
  (afm (hT.below hW) (up _ hx.2) (up _ hy.2) hK (by simp[hg])) (Ob (up _ hx.2) (up _ sg) hK om hxd) (Ob (up _ hy.2) (up _ sg) hK om hyd)
  (afl (up _ hx.1) (up _ syd) hK hm1) (afl (up _ hy.1) (up _ sxd) hK hm2) (cho (sm1.mono B om) (sm2.mono B om) hK hn)
  (afm (hT.below hW) (up _ sg) sn hK (by simp[hh])) (Ob sn (up _ sh) hK om rfl) (Ob (up _ hy.2) (up _ sh) hK om he1) (afl (up _ sxd) (up _ se1) hK (by rw[hxd,he1]))).mono fun _ _ h=>brq h

theorem awi {w:Wq} (hT:yg w) (x y:Rat) (hx:Qk K x) (hy:Qk K y) (hK:K+K+1≤lim):Qm w 108 x y (x*y)∧Qk (K+K) (x*y):=by
 have dx:(x.den:Int)≠0:=by have:=x.den_pos;omega
 have dy:(y.den:Int)≠0:=by have:=y.den_pos;omega
 obtain⟨g,hg⟩ : ∃ g,g=x.num.natAbs.gcd y.den:=⟨_,rfl⟩
 obtain⟨h,hh⟩ : ∃ h,h=y.num.natAbs.gcd x.den:=⟨_,rfl⟩
 obtain⟨a1,ha1⟩ : ∃ z,z=x.num.tdiv g:=⟨_,rfl⟩
 obtain⟨b1,hb1⟩ : ∃ z,z=y.num.tdiv h:=⟨_,rfl⟩
 obtain⟨a2,ha2⟩ : ∃ z,z=(x.den:Int).tdiv h:=⟨_,rfl⟩
 obtain⟨b2,hb2⟩ : ∃ z,z=(y.den:Int).tdiv g:=⟨_,rfl⟩
 have hp:=aqp x y g h hg hh
 have g0:0<g:=by rw[hg];exact abp _ y.den_pos
 have h0:0<h:=by rw[hh];exact abp _ x.den_pos
 have sg:je eu K (g:Int):=by
  have:=hy.2.gcd_right (a:=x.num) dy
  simpa [hg]using this
 have sh:je eu K (h:Int):=by
  have:=hx.2.gcd_right (a:=y.num) dx
  simpa [hh]using this
 have sa1:je eu K a1:=by rw[ha1];exact hx.1.tdiv _
 have sb1:je eu K b1:=by rw[hb1];exact hy.1.tdiv _
 have sa2:je eu K a2:=by rw[ha2];exact hx.2.tdiv _
 have sb2:je eu K b2:=by rw[hb2];exact hy.2.tdiv _
 have hK1:K≤lim:=by omega
 refine⟨?_,⟨by rw[hp.1,← ha1,← hb1];exact sa1.mul sb1,by rw[hp.2,← ha2,← hb2];exact sa2.mul sb2⟩⟩
 rw[Qm,hp.1,hp.2]
 exact fun s1 ek A1 c1 l1 s2 di A2 c2 l2 s3 Ck A3 c3 l3 s4 Nh A4 c4 l4 W hW f1 f2 f3 f4=>(bqz W _ ⟨_,rfl,gy.z f1 (gy.z f2 rfl)⟩ _ ⟨_,rfl,gy.z f3 (gy.z f4 rfl)⟩
  (afm (hT.below hW) hx.1 hy.2 hK1 (by simp[hg])) (afm (hT.below hW) hy.1 hx.2 hK1 (by simp[hh])) (Ob hx.1 sg hK1 om ha1) (Ob hy.1 sh hK1 om hb1)
  (afl sa1 sb1 hK1 (by rw[ha1,hb1])) (Ob hx.2 sh hK1 om ha2) (Ob hy.2 sg hK1 om hb2) (afl sa2 sb2 hK1 (by rw[ha2,hb2]))).mono fun _ _ h=>brq h


namespace Sb
theorem brh {w:Wq} {e:Ending} (h:gp (bz [.q q]) w e w'):Sy w q.num (q.den:Int) e w':=by
 obtain⟨u,rfl,hb,h⟩:=h
 obtain⟨s1,n1,A1,c1,l1,s2,n2,A2,c2,l2,rfl,f1,f2⟩:=Sn h
 exact⟨_,_,_,_,_,_,_,_,_,_,rfl,f1,f2,hb⟩
theorem q1b {w:Wq} (h:adf w F x q) (hb:Below w.heap.size w W) (h0:bz [.q x] W v0):Calls prog F #[v0] W (gp (bz [.q q]) W):=cbi (h.mono hb) h0
theorem q2b {w:Wq} {v1:Vq} (h:Qm w F x y q) (hb:Below w.heap.size w W) (h0:bz [.q x] W v0) (h1:bz [.q y] W v1):Calls prog F #[v0,v1] W (gp (bz [.q q]) W):=cbh (h.mono hb) h0 h1
theorem _root_.Go.Proofs.YtfgeaakhlcaibaaGreatDoor.sc1 {n : Nat} {w : Wq} {bs : List Sb.yz} {d : Nat} {A1 : Wq → Vq → Prop} (hF : P.funcs[F]? = some fn) (h1 : cu l n T a0 k x1 A1) (hc : ∀ (W : Wq) (v1 : Vq), Sb.iw w bs V W → A1 W v1 → Calls P F #[v1] W fun e w' => ∃ u, e = .returned u ∧ il W w' ∧ T k w' u) (hn : (!(fn.name == "runtime.NumGoroutine") && fn.body.isSome) = true := by kernel_rfl) (hal : al.contains k = false := by rfl) :
  ib P Q l n T (Sb.iw w bs V) il al a0 k { dst:=some d,op := .call { callee := .value (.func F),args:=#[x1],argTypes:=ats},type:=ty,pos:=pos,after:=af,guard:=gd}:=Ei hF hn hal Sb.iw.step h1 hc
theorem bqs {v:Rat} (w:Wq) (u0:Vq) (h0:bz [.q x] w u0) (u1:Vq) (h1:bz [.q y] w u1) (g1:adf w 88 y v) (g2:Qm w 93 x v q) :
  Calls prog 78 #[u0,u1] w (gp (bz [.q q]) w):=by
 have H1:=ae g1
 have H2:=ae g2
 clear g1 g2
 obtain⟨Vf,Ma,Ig,c0a,Hz,Yq,Yx,Oi,c0b,Od,rfl,f0a,Oe⟩:=Sn h0
 obtain⟨s1a,n1a,Jp,c1a,Jl,s1b,n1b,Kj,Ke,Kc,rfl,f1a,f1b⟩:=Sn h1
 go_enter func78,ntmps78
 go_upto_region 1 with fail
 have hO:=(Own.push (T:=79) (ls:=zQ) (Own.push (T:=79) (ls:=[.q y]) (Own.push (T:=79) (ls:=[.q x]) (Own.nil w) (gy.q f0a Oe rfl) (w.heap.size) rfl) (gy.below (by repeat (first|exact df _ _|refine ic ?_ _)) (gy.q f1a f1b rfl)) (w.heap.size+1) (by simp only[yw])) (gy.below (by repeat (first|exact df _ _|refine ic ?_ _)) (gy.vs w [.int .i64 0,.bool false,.slice none 0 0,.int .i64 0,.bool false,.slice none 0 0] rfl)) (w.heap.size+2) (by simp only[yw]))
 generalize ((w.alloc (.cells #[.int .i64 Vf,.bool Ma,.slice Ig (List.length Hz) c0a,.int .i64 Yq,.bool Yx,.slice Oi (List.length Od) c0b] 79)).alloc (.cells #[.int .i64 s1a,.bool n1a,.slice Jp (List.length Jl) c1a,.int .i64 s1b,.bool n1b,.slice Kj (List.length Kc) Ke] 79)).alloc (.cells #[.int .i64 0,.bool false,.slice none 0 0,.int .i64 0,.bool false,.slice none 0 0] 79)=W0 at *
 have HO:=ae hO
 clear hO
 refine Nw 4 [_,_,_,_] [] HO (xh Ro Ed aF (xh Ro uq aF (au (sc1 func88 (aT 1) (fun W v0 hG h0=>q1b (aa H1) hG.bel h0)) (au (sc2 func93 (aT 0) (aT 2) (fun W v0 v1 hG h0 h1=>q2b (aa H2) hG.bel h0 h1)) ai)))) ?_
 intro v1 V1 hG1 hv1 hne1
 simp only[ay,Act.put,tA]
 have hO:=hG1.1
 refine kg hO 0 Ty (hv1 3 de) ?_
 clear hO
 intro Ep hO hk0
 replace HO:=ae hO
 clear hO hG1 hv1 hne1 hk0
 go_wp2_with fail
 exact Ga results78 abe rfl (aa HO) me0 rfl rfl
theorem bmi {w:Wq} {v:Rat} (g1:adf w 88 y v) (g2:Qm w 93 x v q):Qm w 78 x y q :=
 fun _ _ _ _ _ _ _ _ _ _ _ _ _ _ _ _ _ _ _ _ W hW f1 f2 f3 f4=>(bqs W _ ⟨_,rfl,gy.q f1 f2 rfl⟩ _ ⟨_,rfl,gy.q f3 f4 rfl⟩ (g1.mono hW) (g2.mono hW)).mono fun _ _ h=>brh h
theorem bqw {v:Rat} (w:Wq) (u0:Vq) (h0:bz [.q x] w u0) (u1:Vq) (h1:bz [.q y] w u1) (g1:adf w 94 y v) (g2:Qm w 108 x v q) :
  Calls prog 109 #[u0,u1] w (gp (bz [.q q]) w):=by
 have H1:=ae g1
 have H2:=ae g2
 clear g1 g2
 obtain⟨Vf,Ma,Ig,c0a,Hz,Yq,Yx,Oi,c0b,Od,rfl,f0a,Oe⟩:=Sn h0
 obtain⟨s1a,n1a,Jp,c1a,Jl,s1b,n1b,Kj,Ke,Kc,rfl,f1a,f1b⟩:=Sn h1
 go_enter func109,ntmps109
 go_upto_region 1 with fail
 have hO:=(Own.push (T:=79) (ls:=zQ) (Own.push (T:=79) (ls:=[.q y]) (Own.push (T:=79) (ls:=[.q x]) (Own.nil w) (gy.q f0a Oe rfl) (w.heap.size) rfl) (gy.below (by repeat (first|exact df _ _|refine ic ?_ _)) (gy.q f1a f1b rfl)) (w.heap.size+1) (by simp only[yw])) (gy.below (by repeat (first|exact df _ _|refine ic ?_ _)) (gy.vs w [.int .i64 0,.bool false,.slice none 0 0,.int .i64 0,.bool false,.slice none 0 0] rfl)) (w.heap.size+2) (by simp only[yw]))
 generalize ((w.alloc (.cells #[.int .i64 Vf,.bool Ma,.slice Ig (List.length Hz) c0a,.int .i64 Yq,.bool Yx,.slice Oi (List.length Od) c0b] 79)).alloc (.cells #[.int .i64 s1a,.bool n1a,.slice Jp (List.length Jl) c1a,.int .i64 s1b,.bool n1b,.slice Kj (List.length Kc) Ke] 79)).alloc (.cells #[.int .i64 0,.bool false,.slice none 0 0,.int .i64 0,.bool false,.slice none 0 0] 79)=W0 at *
 have HO:=ae hO
 clear hO
 refine Nw 4 [_,_,_,_] [] HO (xh Ro Ed aF (xh Ro uq aF (au (sc1 func94 (aT 1) (fun W v0 hG h0=>q1b (aa H1) hG.bel h0)) (au (sc2 func108 (aT 0) (aT 2) (fun W v0 v1 hG h0 h1=>q2b (aa H2) hG.bel h0 h1)) ai)))) ?_
 intro v1 V1 hG1 hv1 hne1
 simp only[ay,Act.put,tA]
 have hO:=hG1.1
 refine kg hO 0 Ty (hv1 3 de) ?_
 clear hO
 intro Ep hO hk0
 replace HO:=ae hO
 clear hO hG1 hv1 hne1 hk0
 go_wp2_with fail
 exact Ga results109 abe rfl (aa HO) me0 rfl rfl
theorem bmj {w:Wq} {v:Rat} (g1:adf w 94 y v) (g2:Qm w 108 x v q):Qm w 109 x y q :=
 fun _ _ _ _ _ _ _ _ _ _ _ _ _ _ _ _ _ _ _ _ W hW f1 f2 f3 f4=>(bqw W _ ⟨_,rfl,gy.q f1 f2 rfl⟩ _ ⟨_,rfl,gy.q f3 f4 rfl⟩ (g1.mono hW) (g2.mono hW)).mono fun _ _ h=>brh h
end Sb
theorem cee {w:Wq} (hT:yg w) (x y:Rat) (hx:Qk K x) (hy:Qk K y) (hK:K+K+1≤lim):Qm w 78 x y (x-y)∧Qk (K+K+1) (x-y):=by
 obtain⟨a,b⟩:=bix hT x (-y) hx hy.neg hK
 rw[Rat.sub_eq_add_neg]
 exact⟨bmi (ceg w y) a,b⟩
theorem cef {w:Wq} (hT:yg w) (x y:Rat) (hx:Qk K x) (hy:Qk K y) (hK:K+K+1≤lim) (h0:y.num≠0):Qm w 109 x y (x/y)∧Qk (K+K) (x/y):=by
 obtain⟨a,b⟩:=awi hT x (y⁻¹) hx (hy.inv h0) hK
 rw[Rat.div_def]
 exact⟨bmj (biw w y h0) a,b⟩

end Go.Proofs.YtfgeaakhlcaibaaGreatDoor
namespace Go.Proofs.YtfgeaakhlcaibaaGreatDoor
open Go.RowKit
open Go.Proofs.Tryz
open Go renaming World → Wq
open Go renaming Value → Vq
variable {x q y:Rat} {K b m k F L c1 c2 r s:Nat} {W w' V wr:Wq} {n d a xn xd yn yd z c xe b1 m2 ye g h p m3 b0 l0:Int} {bs:List (Nat×Rat)} {ty TB:TypeId} {pos:String} {af:Array Edge} {gd:Option (Nat×Bool)} {l:List Oper} {T:Nat→Wq→Vq→Prop} {a0:Act} {v v0 u0 u1 u2 u3:Vq} {Q:Exit→Act→Wq→Prop} {al l1 l2:List Nat} {G:Wq→Prop} {A1 A2:Option Addr} {m1 o1 o2:Bool} {ρ:Operand→Vq} {f:Nat→Int} {t:Tmp} {P:Program} {fn:Func} {ats:Array TypeId} {x1:Operand} {cs:List Vq} {vs:Array Vq}


theorem chp (h:qi n d):Qk 1 (jw n d):=by
 obtain⟨e1,e2⟩:=Tu h
 obtain⟨h1,h2,h3,h4,_⟩:=h
 have B:(1000000000000:Nat)<eu:=by rw[ja];omega
 exact⟨by rw[e1];exact je.of_le om zg (gu _),by rw[e2];exact je.of_le om zg (gu _)⟩

namespace Sb
def Sm (K:Nat) (x:Rat):Prop:=Qk K x∧K≤1000000
theorem Sm.mono (h:Sm K x) (hk:K≤L) (hl:L≤1000000):Sm L x:=⟨h.1.mono hk,hl⟩
theorem abh:100000000≤lim:=by unfold lim;omega
variable {W:Wq} {v0 v1:Vq} {x y:Rat} {K:Nat}
theorem aih (hT:yg W) (hx:Sm K x) (hy:Sm K y) (h0:bz [.q x] W v0) (h1:bz [.q y] W v1):Calls prog 108 #[v0,v1] W (gp (bz [.q (x*y)]) W) :=
 cbh (awi hT x y hx.1 hy.1 (by have:=hx.2;have:=abh;omega)).1 h0 h1
theorem ckp (ok:qi n d) (h0:bz [.v (.int .i64 n),.v (.int .i64 d)] W v0):Calls prog 67 #[v0] W (gp (bz [.q (jw n d)]) W):=by
 rw[afu h0]
 obtain⟨e1,e2⟩:=Tu ok
 obtain⟨h1,h2,h3,h4,_⟩:=ok
 refine(cdq n d W om om om om).mono fun e w' h=>apm ?_
 rw[e1,e2];exact h
theorem cnm (h0:bz [.q x] W v0):Calls prog 69 #[v0] W (gp (ax (.tuple #[.agg #[.int .i64 (jf x).n,.int .i64 (jf x).d],.int .i64 (jf x).e])) W):=by
 obtain⟨s1,n1,A1,c1,l1,s2,n2,A2,c2,l2,rfl,f1,f2⟩:=Sn h0
 exact(aph s1 n1 A1 c1 l1 _ s2 n2 A2 c2 l2 _ W f1 f2 x rfl rfl).mono fun e w' h=>bfg h
theorem ckq (n:Int) (h1 : -9223372036854775808≤n) (h2:n≤9223372036854775807) (W:Wq):Calls prog 137 #[.int .i64 n] W (gp (bz [.z n]) W) :=
 (Je n h1 h2 W).mono fun e w' h=>awl h
theorem Sm.add (hx:Sm K x) (hy:Sm K y) (h:K+K+1≤1000000) (w:Wq) (hT:yg w):Sm (K+K+1) (x+y):=⟨(bix hT x y hx.1 hy.1 (by have:=abh;omega)).2,h⟩
theorem Sm.mul (hx:Sm K x) (hy:Sm K y) (h:K+K≤1000000) (w:Wq) (hT:yg w):Sm (K+K) (x*y):=⟨(awi hT x y hx.1 hy.1 (by have:=abh;omega)).2,h⟩
theorem Sm.quo (hx:Sm K x) (hy:Sm K y) (h:K+K≤1000000) (hn:y.num≠0) (w:Wq) (hT:yg w):Sm (K+K) (x/y):=⟨(cef hT x y hx.1 hy.1 (by have:=abh;omega) hn).2,h⟩
theorem Sm.neg (hx:Sm K x):Sm K (-x):=⟨hx.1.neg,hx.2⟩
theorem Oa (ok:qi n d):Sm 1 (jw n d):=⟨chp ok,by omega⟩
end Sb


def Ra (q:Rat):Wq→Vq→Prop:=fun W v => ∃ A1 c1 l1 m1 A2 c2 l2 m2,v=(Value.agg #[.slice A1 (List.length l1) c1,.bool m1,.slice A2 (List.length l2) c2,.bool m2])∧QV W A1 c1 l1 m1 A2 c2 l2 m2 q
theorem bip (q:Rat):yu il (Ra q):=by
 rintro w w' v hb ⟨A1,c1,l1,m1,A2,c2,l2,m2,rfl,h⟩
 exact⟨_,_,_,_,_,_,_,_,rfl,h.below hb⟩
theorem byr (h:W.heap[b]? = some (.cells #[.slice none 0 0,.bool false,.slice none 0 0,.bool false] 68 (0,0))):Ex W b 0 :=
 have h0:kz W none 0 [] false 0:=⟨xx.aeg W 0 om,rfl⟩
 ⟨none,0,[],false,none,0,[],false,h,h0,0,h0,.inr ⟨rfl,rfl⟩⟩
theorem Ex.lt (h:Ex W b q):b<W.heap.size:=by
 obtain⟨_,_,_,_,_,_,_,_,h,_⟩:=h;exact lt_of_block h
theorem bqp {w:Wq} {d:Option Tmp} {x:Operand} (h:ρ x = .pointer (some ⟨b,0,none⟩)) (k0:w.cell? ⟨b,0,none⟩=some u0) (k1:w.cell? ⟨b,1,none⟩=some u1) (k2:w.cell? ⟨b,2,none⟩=some u2) (k3:w.cell? ⟨b,3,none⟩=some u3) :
  (execOp ρ { dst:=d,op := .load 68 x,type:=ty,pos:=pos,after:=af,guard:=gd}).run prog w = .ok (.value (.agg #[u0,u1,u2,u3])) w:=by
 simp only[execOp,h]
 simp[go_sem,k0,k1,k2,k3]
theorem ccz {n:Nat} {d:Nat} {x:Operand}
  (hal:al.contains k=false) (hx:cu l n T a0 k x (ax (.pointer (some ⟨b,0,none⟩)))) (hb : ∀ W,G W→Ex W b q) (hT:T k=Ra q) :
  ib prog Q l n T G il al a0 k { dst:=some d,op := .load 68 x,type:=ty,pos:=pos,after:=af,guard:=gd}:=by
 intro a w hG hO hN
 obtain⟨A1,c1,l1,m1,A2,c2,l2,m2,hk,hq⟩:=hb w hG
 exact wvz (bqp (hx a w hO hN) (ag hk 0) (ag hk 1) (ag hk 2) (ag hk 3)) hG hal (by rw[hT];exact⟨A1,c1,l1,m1,A2,c2,l2,m2,rfl,hq⟩)
structure Own (w:Wq) (bs:List (Nat×Rat)) (W:Wq):Prop where
 bel:Below w.heap.size w W
 nd:(bs.map Prod.fst).Nodup
 box : ∀ b q,(b,q)∈bs→w.heap.size≤b∧Ex W b q
theorem Own.nil (w:Wq):Own w [] w:=⟨df _ _,List.nodup_nil,fun b q h=>by cases h⟩
theorem Own.step {w:Wq} : ∀ W W',Own w bs W→il W W'→Own w bs W':=fun W W' h hb=>⟨az h.bel hb,h.nd,fun b q hm=>⟨(h.box b q hm).1,(h.box b q hm).2.below hb⟩⟩
theorem Own.lt {w:Wq} (h:Own w bs W) (hm:(b,q)∈bs):b<W.heap.size:=(h.box b q hm).2.lt
theorem Own.add {w:Wq} (h:Own w bs V) (hVW:il V W) (hb:V.heap.size≤b) (hq:Ex W b q):Own w ((b,q)::bs) W :=
 ⟨az h.bel hVW,Ri.2 ⟨fun hm=>by
  obtain⟨p,hp,he⟩:=Nv.1 hm;have:=h.lt (b:=p.1) (q:=p.2) hp;omega,h.nd⟩,fun b' q' hm=>by
  rcases yx.1 hm with e|hm
  ·
   cases e;exact⟨xy h.bel.size hb,hq⟩
  ·
   exact((Own.step V W h hVW).box b' q' hm)⟩
theorem Own.push {w:Wq} {m2:Bool} (h:Own w bs W) (hv:QV W A1 c1 l1 m1 A2 c2 l2 m2 q) (b:Nat) (hb:b=W.heap.size):Own w ((b,q)::bs) (W.alloc (.cells #[.slice A1 l1.length c1,.bool m1,.slice A2 l2.length c2,.bool m2] 68)):=by
 subst hb
 exact h.add ((df _ _).alloc (gu _) _) (gu _) ⟨_,_,_,_,_,_,_,_,heap_alloc_new W _,hv.below ((df _ _).alloc (gu _) _)⟩
theorem Own.cmx {w:Wq} (h:Own w bs W) (b:Nat) (hb:b=W.heap.size):Own w ((b,0)::bs) (W.alloc (.cells #[.slice none 0 0,.bool false,.slice none 0 0,.bool false] 68)):=by
 subst hb
 exact h.add ((df _ _).alloc (gu _) _) (gu _) (byr (heap_alloc_new W _))
theorem Own.other {w:Wq} (o:Obj) (h:Own w bs W):Own w bs (W.alloc o):=Own.step _ _ h ((df _ _).alloc (gu _) _)
def cgw (W:Wq) (b:Nat) (v0 v1 v2 v3:Vq):Wq:=(((W.setCell ⟨b,0,none⟩ v0).setCell ⟨b,1,none⟩ v1).setCell ⟨b,2,none⟩ v2).setCell ⟨b,3,none⟩ v3
theorem Own.set {w:Wq} {xs ys:List (Nat×Rat)} {q0:Rat} {m2:Bool} (h:Own w (xs++(b,q0)::ys) W) (hv:QV W A1 c1 l1 m1 A2 c2 l2 m2 q) :
  Own w (xs++(b,q)::ys) (cgw W b (.slice A1 l1.length c1) (.bool m1) (.slice A2 l2.length c2) (.bool m2)):=by
 obtain⟨hge,hb⟩:=h.box b q0 (Ht _ Ah)
 obtain⟨A,c,l,m,A',c',l',m',h1,h2⟩:=hb
 have hg:=jo W b (.slice A1 l1.length c1) (.bool m1) (.slice A2 l2.length c2) (.bool m2)
 have hnd:=h.nd
 rw[ajy,Gr]at hnd
 have hn : ∀ b' q',(b',q')∈xs++ys→b'≠b:=fun b' q' hm e=>by
  subst e;obtain⟨_,h4,h5⟩:=List.nodup_append.1 hnd
  rcases Ku.1 hm with hm|hm
  ·
   exact h5 b' (Nv.2 ⟨_,hm,rfl⟩) b' Ah rfl
  ·
   exact(Ri.1 h4).1 (Nv.2 ⟨_,hm,rfl⟩)
 refine⟨h.bel.grown hg h.bel.size (fun k hk=>by injection hk with hk;omega),by rw[ajy,Gr];exact hnd,fun b' q' hm => ?_⟩
 rcases Ku.1 hm with hm|hm
 rotate_left
 rcases yx.1 hm with e|hm
 ·
  cases e
  exact⟨hge,⟨_,_,_,_,_,_,_,_,ath h1,hv.upto h1 (De _ _ _ _ _ _ _ _) hg⟩⟩
 all_goals
  have hne:=hn b' q' (by first|exact Ht _ hm|exact ajx _ hm);obtain⟨hge',B,d,r,p,B',d',r',p',g1,g2⟩:=h.box b' q' (by first|exact Ht _ (Fw _ hm)|exact ajx _ hm);exact⟨hge',B,d,r,p,B',d',r',p',(hg.block b' (lt_of_block g1) (fun e=>hne (by first|exact Az e|exact(Az e).symm))).trans g1,g2.upto h1 (De _ _ _ _ _ _ _ _) hg⟩
theorem Own.bfs {w:Wq} {b':Nat} {q':Rat} (h:Own w bs V) (hVW:il V W) (hb:V.heap.size≤b) (hq:Ex W b q) (hb':V.heap.size≤b') (hq':Ex W b' q') (hne:b'≠b):Own w ((b',q')::(b,q)::bs) W:=by
 have h1:=Own.add h hVW hb hq
 have h2:=Own.add h hVW hb' hq'
 refine⟨h1.bel,Ri.2 ⟨fun hm => ?_,h1.nd⟩,fun c p hm => ?_⟩
 ·
  rw[Gr]at hm
  rcases yx.1 hm with e|hm
  ·
   exact hne e
  ·
   exact(Ri.1 h2.nd).1 hm
 ·
  rcases yx.1 hm with e|hm
  ·
   cases e;exact h2.box _ _ Ah
  ·
   exact h1.box _ _ hm
def iw (w:Wq) (bs:List (Nat×Rat)) (V:Wq):Wq→Prop:=fun W=>Own w bs W∧il V W
theorem iw.step {w:Wq} : ∀ W W',iw w bs V W→il W W'→iw w bs V W':=fun W W' h hb=>⟨Own.step W W' h.1 hb,az h.2 hb⟩
theorem iw.size {w:Wq} : ∀ W,iw w bs V W→V.heap.size≤W.heap.size:=fun _ h=>h.2.size
theorem iw.start {w:Wq} (h:Own w bs V):iw w bs V V.drew:=⟨Own.step _ _ h (il.drew V),il.drew V⟩
theorem iw.begin {w:Wq} (h:Own w bs V):iw w bs V V:=⟨h,df _ _⟩
theorem iw.box {w:Wq} (hm:(b,q)∈bs) (h:iw w bs V W):Ex W b q:=(h.1.box b q hm).2
theorem att {w:Wq} {e:Ending} (h:QR w q e w'):gp (Ra q) w e w':=by
 obtain⟨A1,c1,l1,m1,A2,c2,l2,m2,rfl,h1,h2,hb⟩:=h
 exact⟨_,rfl,hb,_,_,_,_,_,_,_,_,rfl,QV.of h1 h2⟩
def WhT (z:Int):Wq→Vq→Prop:=fun W v => ∃ A c l m,v = .agg #[.slice A (List.length l) c,.bool m]∧kz W A c l m z
theorem bim (z:Int):yu il (WhT z):=by
 rintro w w' v hb ⟨A,c,l,m,rfl,h⟩
 exact⟨_,_,_,_,rfl,h.below hb⟩
theorem blu {w:Wq} {d:Option Tmp} {x y:Operand} (h:ρ x = .agg #[u0,u1]) (h':ρ y = .agg #[u2,u3]) :
  (execOp ρ { dst:=d,op := .build 68 #[(0,x),(1,y)],type:=ty,pos:=pos,after:=af,guard:=gd}).run prog w = .ok (.value (.agg #[u0,u1,u2,u3])) w:=by
 simp[execOp,h,h',go_sem]
theorem bvi {n:Nat} {d:Nat} {x y:Operand} {b:Int}
  (hal:al.contains k=false) (hx:cu l n T a0 k x (WhT a)) (hy:cu l n T a0 k y (WhT b)) (ha:a=q.num) (hb:b=(q.den:Int)) (hT:T k=Ra q) :
  ib prog Q l n T G il al a0 k { dst:=some d,op := .build 68 #[(0,x),(1,y)],type:=ty,pos:=pos,after:=af,guard:=gd}:=by
 intro s w hG hO hN
 obtain⟨A1,c1,l1,m1,e1,h1⟩:=hx s w hO hN
 obtain⟨A2,c2,l2,m2,e2,h2⟩:=hy s w hO hN
 subst ha;subst hb
 exact wvz (blu e1 e2) hG hal (by rw[hT];exact⟨A1,c1,l1,m1,A2,c2,l2,m2,rfl,QV.of h1 h2⟩)
theorem axi {w:Wq} {e:Ending} (h:Le w z e w'):gp (WhT z) w e w':=by
 obtain⟨A,c,l,m,rfl,h1,hb⟩:=h
 exact⟨_,rfl,hb,_,_,_,_,rfl,h1⟩
def boh (w:Wq) (bs:List (Nat×Rat)) (r s:Nat):Wq→Prop:=fun W => ∃ p q,Own w ((r,p)::(s,q)::bs) W
theorem boh.box {w:Wq} (hm:(b,x)∈bs) (h:boh w bs r s W):Ex W b x:=by
 obtain⟨p,q,h⟩:=h
 exact(h.box b x (Fw _ (Fw _ hm))).2
theorem boh.fin {w:Wq} {p:Rat} (h:boh w bs r s W) (h1:Ex W r p) (h2:Ex W s q):Own w ((r,p)::(s,q)::bs) W:=by
 obtain⟨p',q',h⟩:=h
 refine⟨h.bel,h.nd,fun b x hm => ?_⟩
 rcases yx.1 hm with e|hm
 ·
  cases e;exact⟨(h.box r p' Ah).1,h1⟩
 ·
  rcases yx.1 hm with e|hm
  ·
   cases e;exact⟨(h.box s q' (Fw _ Ah)).1,h2⟩
  ·
   exact h.box b x (Fw _ (Fw _ hm))

namespace Sb
def wK (n:Int):Kind where
 size:=2
 ok:=fun W c => ∃ A cap l m,c=[.slice A (List.length l) cap,.bool m]∧kz W A cap l m n
 noW:=by
  rintro W c ⟨A,cap,l,m,rfl,h⟩ u hu;simp only[yx,aez,or_false]at hu
  rcases hu with rfl|rfl
  ·
   exact aku _ _ _
  ·
   exact akv _
 below:=fun hb ⟨A,cap,l,m,e,h⟩=>⟨A,cap,l,m,e,h.below hb⟩
 upto:=fun hg hn hgr ⟨A,cap,l,m,e,h⟩=>⟨A,cap,l,m,e,h.upto hg hn.cky hgr⟩
 len:=by rintro W c ⟨A,cap,l,m,rfl,h⟩;rfl
theorem gy.w {ls:List lg} (h1:kz W A1 c1 l1 m1 n) (h:gy W ls cs):gy W (.k (wK n)::ls) (.slice A1 l1.length c1 :: .bool m1::cs):=⟨[_,_],cs,rfl,⟨_,_,_,_,rfl,h1⟩,h⟩
theorem gy.blb {ls:List lg} (h:gy W (.k (wK n)::ls) cs) : ∃ A1 c1 l1 m1 r,cs = .slice A1 (List.length l1) c1 :: .bool m1::r∧kz W A1 c1 l1 m1 n∧gy W ls r:=by
 obtain⟨c,r,rfl,⟨A1,c1,l1,m1,rfl,h1⟩,h⟩:=h
 exact⟨A1,c1,l1,m1,r,rfl,h1,h⟩
theorem anr (h:bz [.k (wK n)] W v) : ∃ A1 c1 l1 m1,v = .agg #[.slice A1 (List.length l1) c1,.bool m1]∧kz W A1 c1 l1 m1 n:=by
 obtain⟨cs,rfl,h⟩:=h
 obtain⟨A1,c1,l1,m1,r,rfl,h1,h⟩:=h.blb
 cases h
 exact⟨_,_,_,_,rfl,h1⟩
theorem Vs (h:bz [.k (wK n),.k (wK d)] W v) : ∃ A1 c1 l1 m1 A2 c2 l2 m2,v = .agg #[.slice A1 (List.length l1) c1,.bool m1,.slice A2 (List.length l2) c2,.bool m2]∧kz W A1 c1 l1 m1 n∧kz W A2 c2 l2 m2 d:=by
 obtain⟨cs,rfl,h⟩:=h
 obtain⟨A1,c1,l1,m1,r,rfl,h1,h⟩:=h.blb
 obtain⟨A2,c2,l2,m2,r,rfl,h2,h⟩:=h.blb
 cases h
 exact⟨_,_,_,_,_,_,_,_,rfl,h1,h2⟩
def C1 (w:Wq) (F:Nat) (ls ks:List lg):Prop := ∀ W v0,Below w.heap.size w W→bz ls W v0→Calls prog F #[v0] W (gp (bz ks) W)
def C2 (w:Wq) (F:Nat) (ls ms ks:List lg):Prop := ∀ W v0 v1,Below w.heap.size w W→bz ls W v0→bz ms W v1→Calls prog F #[v0,v1] W (gp (bz ks) W)
def CB (w:Wq) (F:Nat) (ls:List lg) (b:Bool):Prop := ∀ W v0,Below w.heap.size w W→bz ls W v0→Calls prog F #[v0] W (gp (ax (.bool b)) W)
theorem bla {w:Wq} {e:Ending} (h:Le w z e w'):gp (bz [.k (wK z)]) w e w':=by
 obtain⟨A,cap,l,m,rfl,h1,hb⟩:=h
 exact⟨_,rfl,hb,_,rfl,gy.w h1 rfl⟩
theorem cgd {w:Wq} {e:Ending} (h:QR w q e w'):gp (bz [.k (wK q.num),.k (wK (q.den:Int))]) w e w':=by
 obtain⟨A1,c1,l1,m1,A2,c2,l2,m2,rfl,h1,h2,hb⟩:=h
 exact⟨_,rfl,hb,_,rfl,gy.w h1 (gy.w h2 rfl)⟩
theorem afh {w:Wq} {e:Ending} (h:gp (bz [.k (wK q.num),.k (wK (q.den:Int))]) w e w'):QR w q e w':=by
 obtain⟨u,rfl,hb,h⟩:=h
 obtain⟨A1,c1,l1,m1,A2,c2,l2,m2,rfl,f1,f2⟩:=Vs h
 exact⟨_,_,_,_,_,_,_,_,rfl,f1,f2,hb⟩
theorem Wo {w:Wq} {b:Int} (h:byy w F a b c):C2 w F [.k (wK a)] [.k (wK b)] [.k (wK c)]:=fun W v0 v1 hb h0 h1=>by
 obtain⟨A1,c1,l1,m1,rfl,f1⟩:=anr h0
 obtain⟨A2,c2,l2,m2,rfl,f2⟩:=anr h1
 exact(h _ _ _ _ _ _ _ _ W hb f1 f2).mono fun e w' h=>bla h
theorem cwq {w:Wq} {b:Int} (h:cle w F a b q):C2 w F [.k (wK a)] [.k (wK b)] [.k (wK q.num),.k (wK (q.den:Int))]:=fun W v0 v1 hb h0 h1=>by
 obtain⟨A1,c1,l1,m1,rfl,f1⟩:=anr h0
 obtain⟨A2,c2,l2,m2,rfl,f2⟩:=anr h1
 exact(h _ _ _ _ _ _ _ _ W hb f1 f2).mono fun e w' h=>cgd h
theorem Vg {m2:Bool} (h:QV W A1 c1 l1 m1 A2 c2 l2 m2 x) : ∃ d:Int,(d=(x.den:Int)∨(d=0∧x.den=1))∧bz [.k (wK x.num),.k (wK d)] W (.agg #[.slice A1 l1.length c1,.bool m1,.slice A2 l2.length c2,.bool m2]):=by
 obtain⟨d,h2,h3⟩:=h.den
 exact⟨d,h3,_,rfl,gy.w h.num (gy.w h2 rfl)⟩
theorem Sl (w:Wq) (h:d=(x.den:Int)∨(d=0∧x.den=1)):C1 w 130 [.k (wK x.num),.k (wK d)] [.k (wK (x.den:Int))]:=fun W v0 hb h0=>by
 obtain⟨A1,c1,l1,m1,A2,c2,l2,m2,rfl,f1,f2⟩:=Vs h0
 exact(akl A1 c1 l1 m1 A2 c2 l2 m2 x W ⟨f1,d,f2,h⟩).mono fun e w' h=>bla h
theorem Un (w:Wq) {b:Int} {o:Bool} (h:o=decide (b=1)):CB w 131 [.k (wK b)] o:=fun W v0 hb h0=>by
 obtain⟨A1,c1,l1,m1,rfl,f1⟩:=anr h0
 rw[h]
 exact(ata A1 c1 l1 m1 b W f1).mono fun e w' h=>bfg h
theorem ckr (w:Wq) (b:Int):C1 w 176 [.k (wK b)] [.k (wK (-b))]:=fun W v0 hb h0=>by
 obtain⟨A1,c1,l1,m1,rfl,f1⟩:=anr h0
 exact(apc A1 c1 l1 m1 b W f1).mono fun e w' h=>bla h
theorem xz:Ie prog 66 2:=by
 intro ρ w d x b off us ty pos af gd hl hc hx
 match us,hl with
 | [u0,u1],_ =>
 have k0:w.cell? ⟨b,off,none⟩=some u0:=hc 0 om
 have k1:w.cell? ⟨b,off+1,none⟩=some u1:=hc 1 om
 clear hc
 simp only[execOp,hx]
 simp[go_sem,k0,k1]
theorem anh:Cw prog 66 2:=by
 intro ρ w d p x b off cs TB us ty pos af gd hl hu hb ho hp hx
 match us,hl with
 | [u0,u1],_ =>
 have o0:=hu u0 mi
 have o1:=hu u1 mi
 have f0:w.frozen? ⟨b,off,none⟩=false:=ah hb _
 have f1:w.frozen? ⟨b,off+1,none⟩=false:=ah hb _
 obtain⟨c0,k0⟩ : ∃ c,w.cell? ⟨b,off,none⟩=some c:=jl hb om
 obtain⟨c1,k1⟩ : ∃ c,w.cell? ⟨b,off+1,none⟩=some c:=jl hb om
 have hlt:=lt_of_block hb
 clear hb ho hu
 simp only[execOp,hp,hx,setM]
 simp[go_sem,hlt,run_store _ _ _ _ _ o0,o0,run_store _ _ _ _ _ o1,o1,k0,k1,f0,f1]
theorem baz:Np prog 66 [.slice none 0 0,.bool false]:=by
 intro ρ w d ty pos af gd
 simp only[execOp]
 simp[go_sem]
theorem Dt:Ie prog 68 4:=by
 intro ρ w d x b off us ty pos af gd hl hc hx
 match us,hl with
 | [u0,u1,u2,u3],_ =>
 have k0:w.cell? ⟨b,off,none⟩=some u0:=hc 0 om
 have k1:w.cell? ⟨b,off+1,none⟩=some u1:=hc 1 om
 have k2:w.cell? ⟨b,off+2,none⟩=some u2:=hc 2 om
 have k3:w.cell? ⟨b,off+3,none⟩=some u3:=hc 3 om
 clear hc
 simp only[execOp,hx]
 simp[go_sem,k0,k1,k2,k3]
theorem Cv:Cw prog 68 4:=by
 intro ρ w d p x b off cs TB us ty pos af gd hl hu hb ho hp hx
 match us,hl with
 | [u0,u1,u2,u3],_ =>
 have o0:=hu u0 mi
 have o1:=hu u1 mi
 have o2:=hu u2 mi
 have o3:=hu u3 mi
 have f0:w.frozen? ⟨b,off,none⟩=false:=ah hb _
 have f1:w.frozen? ⟨b,off+1,none⟩=false:=ah hb _
 have f2:w.frozen? ⟨b,off+2,none⟩=false:=ah hb _
 have f3:w.frozen? ⟨b,off+3,none⟩=false:=ah hb _
 obtain⟨c0,k0⟩ : ∃ c,w.cell? ⟨b,off,none⟩=some c:=jl hb om
 obtain⟨c1,k1⟩ : ∃ c,w.cell? ⟨b,off+1,none⟩=some c:=jl hb om
 obtain⟨c2,k2⟩ : ∃ c,w.cell? ⟨b,off+2,none⟩=some c:=jl hb om
 obtain⟨c3,k3⟩ : ∃ c,w.cell? ⟨b,off+3,none⟩=some c:=jl hb om
 have hlt:=lt_of_block hb
 clear hb ho hu
 simp only[execOp,hp,hx,setM]
 simp[go_sem,hlt,run_store _ _ _ _ _ o0,o0,run_store _ _ _ _ _ o1,o1,run_store _ _ _ _ _ o2,o2,run_store _ _ _ _ _ o3,o3,k0,k1,k2,k3,f0,f1,f2,f3]
theorem ann:Np prog 68 [.slice none 0 0,.bool false,.slice none 0 0,.bool false]:=by
 intro ρ w d ty pos af gd
 simp only[execOp]
 simp[go_sem]
theorem Om:Wh prog 68 4:=by
 intro w b off us hl hc
 match us,hl with
 | [u0,u1,u2,u3],_ =>
 have k0:w.cell? ⟨b,off,none⟩=some u0:=hc 0 om
 have k1:w.cell? ⟨b,off+1,none⟩=some u1:=hc 1 om
 have k2:w.cell? ⟨b,off+2,none⟩=some u2:=hc 2 om
 have k3:w.cell? ⟨b,off+3,none⟩=some u3:=hc 3 om
 clear hc
 simp[go_sem,k0,k1,k2,k3]
theorem awu:agi prog 68 2 2:=by
 intro ρ w d x y us vs ty pos af gd h1 h2 e1 e2
 match us,h1,vs,h2 with
 | [u0,u1],_,[v0,v1],_ =>
 simp only[execOp]
 simp[go_sem,e1,e2]
 try rfl
theorem cfb:Ee prog (fun x => .fieldAddr 68 x 0) 0:=by
 intro a w d x b off ty pos af gd hx
 have hc : ∀ v,a.eval (.const v)=v:=fun _=>rfl
 simp only[execOp,hx,hc]
 simp[go_sem]
theorem Dr {n:Nat} {d:Nat} {off off':Nat} {x:Operand} (hal:al.contains k=false) (hx:cu l n T a0 k x (ax (.pointer (some ⟨b,off,none⟩)))) (ho:off+0=off') (hT:T k=ax (.pointer (some ⟨b,off',none⟩))) :
  ib prog Q l n T G il al a0 k { dst:=some d,op := .fieldAddr 68 x 0,type:=ty,pos:=pos,after:=af,guard:=gd}:=by
 exact Em (P:=prog) (o:=fun x => .fieldAddr 68 x 0) cfb hal hx ho hT
end Sb


namespace Sb
theorem brn (w:Wq) (u0:Vq) (h0:bz [.k (wK xn),.k (wK xe)] w u0)
  (hd1:C1 w 130 [.k (wK xn),.k (wK xe)] [.k (wK xd)])
  (hn:C1 w 176 [.k (wK xn)] [.k (wK c)]) :
  Calls prog 134 #[u0] w (gp (bz [.k (wK c),.k (wK xd)]) w):=by
 have HD1:=ae hd1
 have HN:=ae hn
 clear hd1 hn
 obtain⟨Ig,c0a,Hz,m0a,Oi,c0b,Od,m0b,rfl,f0a,Oe⟩:=Vs h0
 go_enter func134,ntmps134
 go_upto_region 1 with fail
 have hO:=(Own.push (T:=68) (ls:=zX) (Own.push (T:=68) (ls:=[.k (wK xn),.k (wK xe)]) (Own.nil w) (gy.w f0a (gy.w Oe rfl)) (w.heap.size) rfl) (gy.below (by repeat (first|exact df _ _|refine ic ?_ _)) (gy.vs w [.slice none 0 0,.bool false,.slice none 0 0,.bool false] rfl)) (w.heap.size+1) (by simp only[yw]))
 generalize (w.alloc (.cells #[.slice Ig (List.length Hz) c0a,.bool m0a,.slice Oi (List.length Od) c0b,.bool m0b] 68)).alloc (.cells #[.slice none 0 0,.bool false,.slice none 0 0,.bool false] 68)=W0 at *
 have HO:=ae hO
 clear hO
 refine Nw 6 [_,_,_,_,_,_] [] HO (au (Dr (b:=w.heap.size) (off:=0) rfl aF rfl rfl) (Ea xz uq (aT 0) [] [.k (wK xn)] [.k (wK xe)] (au (sc1 func176 (aT 1) (fun W v0 hG h0=>aa HN W v0 hG.bel h0)) (xh Dt uq aF (au (sc1 func130 (aT 3) (fun W v0 hG h0=>aa HD1 W v0 hG.bel h0)) (au (Gu awu rfl (aT 2) (aT 4) rfl rfl rfl) ai)))))) ?_
 intro v1 V1 hG1 hv1 hne1
 simp only[ay,Act.put,tA]
 have hO:=hG1.1
 refine kg hO 0 Cv (hv1 5 de) ?_
 clear hO
 intro Ep hO hk0
 replace HO:=ae hO
 clear hO hG1 hv1 hne1 hk0
 go_wp2_with fail
 exact Ga results134 Om rfl (aa HO) me0 rfl rfl
theorem brp {m1 b:Int} (w:Wq) (u0:Vq) (h0:bz [.k (wK xn),.k (wK xe)] w u0) (u1:Vq) (h1:bz [.k (wK yn),.k (wK ye)] w u1)
  (hd1:C1 w 130 [.k (wK xn),.k (wK xe)] [.k (wK xd)])
  (hd2:C1 w 130 [.k (wK yn),.k (wK ye)] [.k (wK yd)])
  (hm1:C2 w 133 [.k (wK xn)] [.k (wK yd)] [.k (wK m1)])
  (hm2:C2 w 133 [.k (wK xd)] [.k (wK yn)] [.k (wK m2)])
  (hr:C2 w 128 [.k (wK m1)] [.k (wK m2)] [.k (wK a),.k (wK b)]) :
  Calls prog 64 #[u0,u1] w (gp (bz [.k (wK a),.k (wK b)]) w):=by
 have HD1:=ae hd1
 have HD2:=ae hd2
 have HM1:=ae hm1
 have HM2:=ae hm2
 have HR:=ae hr
 clear hd1 hd2 hm1 hm2 hr
 obtain⟨Ig,c0a,Hz,m0a,Oi,c0b,Od,m0b,rfl,f0a,Oe⟩:=Vs h0
 obtain⟨Jp,c1a,Jl,Yz,Kj,Ke,Kc,m1b,rfl,f1a,f1b⟩:=Vs h1
 go_enter func64,ntmps64
 go_upto_region 1 with fail
 have hO:=(Own.push (T:=68) (ls:=zX) (Own.push (T:=68) (ls:=[.k (wK yn),.k (wK ye)]) (Own.push (T:=68) (ls:=[.k (wK xn),.k (wK xe)]) (Own.nil w) (gy.w f0a (gy.w Oe rfl)) (w.heap.size) rfl) (gy.below (by repeat (first|exact df _ _|refine ic ?_ _)) (gy.w f1a (gy.w f1b rfl))) (w.heap.size+1) (by simp only[yw])) (gy.below (by repeat (first|exact df _ _|refine ic ?_ _)) (gy.vs w [.slice none 0 0,.bool false,.slice none 0 0,.bool false] rfl)) (w.heap.size+2) (by simp only[yw]))
 generalize ((w.alloc (.cells #[.slice Ig (List.length Hz) c0a,.bool m0a,.slice Oi (List.length Od) c0b,.bool m0b] 68)).alloc (.cells #[.slice Jp (List.length Jl) c1a,.bool Yz,.slice Kj (List.length Kc) Ke,.bool m1b] 68)).alloc (.cells #[.slice none 0 0,.bool false,.slice none 0 0,.bool false] 68)=W0 at *
 have HO:=ae hO
 clear hO
 refine Nw 11 [_,_,_,_,_,_,_,_,_,_,_] [] HO (au (Dr (b:=w.heap.size) (off:=0) rfl aF rfl rfl) (Ea xz Ed (aT 0) [] [.k (wK xn)] [.k (wK xe)] (xh Dt uq aF (au (sc1 func130 (aT 2) (fun W v0 hG h0=>aa HD2 W v0 hG.bel h0)) (au (sc2 func133 (aT 1) (aT 3) (fun W v0 v1 hG h0 h1=>aa HM1 W v0 v1 hG.bel h0 h1)) (xh Dt Ed aF (au (sc1 func130 (aT 5) (fun W v0 hG h0=>aa HD1 W v0 hG.bel h0)) (au (Dr (b:=w.heap.size+1) (off:=0) rfl aF rfl rfl) (Ea xz uq (aT 7) [] [.k (wK yn)] [.k (wK ye)] (au (sc2 func133 (aT 6) (aT 8) (fun W v0 v1 hG h0 h1=>aa HM2 W v0 v1 hG.bel h0 h1)) (au (sc2 func128 (aT 4) (aT 9) (fun W v0 v1 hG h0 h1=>aa HR W v0 v1 hG.bel h0 h1)) ai))))))))))) ?_
 intro v1 V1 hG1 hv1 hne1
 simp only[ay,Act.put,tA]
 have hO:=hG1.1
 refine kg hO 0 Cv (hv1 10 de) ?_
 clear hO
 intro Ep hO hk0
 replace HO:=ae hO
 clear hO hG1 hv1 hne1 hk0
 go_wp2_with fail
 exact Ga results64 Om rfl (aa HO) me0 rfl rfl
theorem _root_.Go.Proofs.YtfgeaakhlcaibaaGreatDoor.exv {c:Vq} (h:v=c):v=c:=h
theorem axx {s b:Int} (w:Wq) (u0:Vq) (h0:bz [.k (wK xn),.k (wK xe)] w u0) (u1:Vq) (h1:bz [.k (wK yn),.k (wK ye)] w u1)
  (hd1:C1 w 130 [.k (wK xn),.k (wK xe)] [.k (wK xd)])
  (hd2:C1 w 130 [.k (wK yn),.k (wK ye)] [.k (wK yd)])
  (ho1:CB w 131 [.k (wK xd)] o1)
  (ho2:CB w 131 [.k (wK yd)] o2)
  (hc:(o1=true∧o2=true∧xd=b∧C2 w 133 [.k (wK xn)] [.k (wK yn)] [.k (wK a)])∨((o1=false∨o1=true∧o2=false)∧C2 w 133 [.k (wK xn)] [.k (wK yn)] [.k (wK s)]∧C2 w 133 [.k (wK xd)] [.k (wK yd)] [.k (wK m3)]∧C2 w 128 [.k (wK s)] [.k (wK m3)] [.k (wK a),.k (wK b)])) :
  Calls prog 62 #[u0,u1] w (gp (bz [.k (wK a),.k (wK b)]) w):=by
 have HD1:=ae hd1
 have HD2:=ae hd2
 have HO1:=ae ho1
 have Us:=ae ho2
 have HC:=ae hc
 clear hd1 hd2 ho1 ho2 hc
 obtain⟨Ig,c0a,Hz,m0a,Oi,c0b,Od,m0b,rfl,f0a,Oe⟩:=Vs h0
 obtain⟨Jp,c1a,Jl,Yz,Kj,Ke,Kc,m1b,rfl,f1a,f1b⟩:=Vs h1
 go_enter func62,ntmps62
 go_upto_region 1 with fail
 have hO:=(Own.push (T:=68) (ls:=zX) (Own.push (T:=68) (ls:=[.k (wK yn),.k (wK ye)]) (Own.push (T:=68) (ls:=[.k (wK xn),.k (wK xe)]) (Own.nil w) (gy.w f0a (gy.w Oe rfl)) (w.heap.size) rfl) (gy.below (by repeat (first|exact df _ _|refine ic ?_ _)) (gy.w f1a (gy.w f1b rfl))) (w.heap.size+1) (by simp only[yw])) (gy.below (by repeat (first|exact df _ _|refine ic ?_ _)) (gy.vs w [.slice none 0 0,.bool false,.slice none 0 0,.bool false] rfl)) (w.heap.size+2) (by simp only[yw]))
 generalize ((w.alloc (.cells #[.slice Ig (List.length Hz) c0a,.bool m0a,.slice Oi (List.length Od) c0b,.bool m0b] 68)).alloc (.cells #[.slice Jp (List.length Jl) c1a,.bool Yz,.slice Kj (List.length Kc) Ke,.bool m1b] 68)).alloc (.cells #[.slice none 0 0,.bool false,.slice none 0 0,.bool false] 68)=W0 at *
 have HO:=ae hO
 clear hO
 refine aav 8 33 (fun k=>if k=6 then 5 else 6) (ui [bz [.k (wK xn),.k (wK xe)],bz [.k (wK xd)],bz [.k (wK yn),.k (wK ye)],bz [.k (wK yd)],fun _ _=>True,fun _ _=>True,fun _ _=>True,fun _ _=>True]) (iw w [(w.heap.size+2,68,zX),(w.heap.size+1,68,[.k (wK yn),.k (wK ye)]),(w.heap.size,68,[.k (wK xn),.k (wK xe)])] W0) (EX W0.heap.size 66) (J2 66 2 W0.heap.size 4 5 6 7 [.k (wK xd)] [.k (wK yd)]) kr kr kr rfl (qm.pick ⟨(Ao _),(Ao _),(Ao _),(Ao _),(Cx),(Cx),(Cx),(Cx),trivial⟩) (iw.start (aa HO)) (fun _=>J2.start) (fun _ _ _ _ h=>J2.congr (n:=8) de h)
  (jg (Hu (El Dt Ed aF [] [.k (wK xn),.k (wK xe)] []))
   (jg (Hu (Ei func130 kr rfl iw.step (aT 0) (fun W v0 hG h0=>aa HD1 W v0 hG.bel h0)))
   (jg (Hu (El Dt uq aF [] [.k (wK yn),.k (wK ye)] []))
   (jg (Hu (Ei func130 kr rfl iw.step (aT 2) (fun W v0 hG h0=>aa HD2 W v0 hG.bel h0)))
   (jg (afb baz rfl rfl rfl)
   (jg (agu baz rfl rfl rfl)
   (jg (afa (aa HO) anh kr (aT 1) rfl rfl rfl)
   (jg (agt (aa HO) anh kr (aT 3) rfl rfl rfl)
   Su)))))))) ?_
 intro v1 V1 hG1 hJ1 hv1 hne1
 simp only[ay,Act.put,tA]
 obtain⟨_,_,hd1,hf1,hg1⟩:=hJ1
 obtain⟨Ox,e4,hge4,Mq⟩:=(hf1 trivial).2
 obtain⟨aqn,e5,zo,Cy⟩:=(hg1 trivial).2
 simp only[e4,e5]
 have hO:=Own.bfs (aa HO) hG1.2 hge4 Mq zo Cy (fun h=>hd1 trivial trivial (by rw[e4,e5,h]))
 clear hge4 Mq zo Cy hd1 hf1 hg1
 replace HO:=ae hO
 clear hO hG1 hv1 hne1
 try clear e4 e5
 rcases aa HC with⟨rfl,rfl,rfl,hp⟩|⟨ho,hp⟩
 ·
  have HOP:=ae hp;clear hp HC;go_upto_region 2 with fail;refine fw 6 [_,_,_,_,_,_] [] HO (xh xz uq aF (au (sc1 func131 (aT 0) (fun W v0 hG h0=>aa HO1 W v0 hG.bel h0)) (dh (aT 1) (ku (El xz me0 aF [] [.k (wK yd)] []) (ku (Ei func131 kr rfl iw.step (aT 3) (fun W v0 hG h0=>aa Us W v0 hG.bel h0)) (au (qj rfl (aT 2) (aT 4)) ai)))))) ?_
  intro v2 V2 hG2 hv2 hne2;simp only[ay,Act.put,tA,exv (hv2 5 de)];replace HO:=ae hG2.1;clear hG2 hv2 hne2;go_upto_region 3 with fail;refine Nw 7 [_,_,_,_,_,_,_] [] HO (au (Dr (b:=w.heap.size) (off:=0) rfl aF rfl rfl) (Ea xz me4 (aT 0) [] [.k (wK xn)] [.k (wK xe)] (au (Dr (b:=w.heap.size+1) (off:=0) rfl aF rfl rfl) (Ea xz Uh (aT 2) [] [.k (wK yn)] [.k (wK ye)] (au (sc2 func133 (aT 1) (aT 3) (fun W v0 v1 hG h0 h1=>aa HOP W v0 v1 hG.bel h0 h1)) (xh xz uq aF (au (Gu awu rfl (aT 4) (aT 5) rfl rfl rfl) ai))))))) ?_
  intro v3 V3 hG3 hv3 ji;simp only[ay,Act.put,tA];have hO:=hG3.1;refine kg hO 2 Cv (hv3 6 de) ?_
  clear hO;intro Gc hO hk0;replace HO:=ae hO;clear hO hG3 hv3 ji hk0;go_wp2_with fail;exact Ga results62 Om rfl (aa HO) Ed rfl rfl
 ·
  obtain⟨h0,h1,h2⟩:=hp;have HS:=ae h0;have HM3:=ae h1;have HR:=ae h2;clear h0 h1 h2 HC
  rcases ho with rfl|⟨rfl,rfl⟩
  ·
   go_upto_region 2 with fail;refine fw 6 [_,_,_,_,_,_] [] HO (xh xz uq aF (au (sc1 func131 (aT 0) (fun W v0 hG h0=>aa HO1 W v0 hG.bel h0)) (dh (aT 1) (ve (ve (au (mh rfl (aT 2) (fe _)) ai)))))) ?_
   intro v2 V2 hG2 hv2 hne2;simp only[ay,Act.put,tA,exv (hv2 5 de)];replace HO:=ae hG2.1;clear hG2 hv2 hne2;go_upto_region 4 with fail;refine Nw 9 [_,_,_,_,_,_,_,_,_] [] HO (au (Dr (b:=w.heap.size) (off:=0) rfl aF rfl rfl) (Ea xz me4 (aT 0) [] [.k (wK xn)] [.k (wK xe)] (au (Dr (b:=w.heap.size+1) (off:=0) rfl aF rfl rfl) (Ea xz Uh (aT 2) [] [.k (wK yn)] [.k (wK ye)] (au (sc2 func133 (aT 1) (aT 3) (fun W v0 v1 hG h0 h1=>aa HS W v0 v1 hG.bel h0 h1)) (xh xz uq aF (xh xz me0 aF (au (sc2 func133 (aT 5) (aT 6) (fun W v0 v1 hG h0 h1=>aa HM3 W v0 v1 hG.bel h0 h1)) (au (sc2 func128 (aT 4) (aT 7) (fun W v0 v1 hG h0 h1=>aa HR W v0 v1 hG.bel h0 h1)) ai))))))))) ?_
   intro v3 V3 hG3 hv3 ji;simp only[ay,Act.put,tA];have hO:=hG3.1;refine kg hO 2 Cv (hv3 8 de) ?_
   clear hO;intro Gc hO hk0;replace HO:=ae hO;clear hO hG3 hv3 ji hk0;go_wp2_with fail;exact Ga results62 Om rfl (aa HO) Ed rfl rfl
  ·
   go_upto_region 2 with fail;refine fw 6 [_,_,_,_,_,_] [] HO (xh xz uq aF (au (sc1 func131 (aT 0) (fun W v0 hG h0=>aa HO1 W v0 hG.bel h0)) (dh (aT 1) (ku (El xz me0 aF [] [.k (wK yd)] []) (ku (Ei func131 kr rfl iw.step (aT 3) (fun W v0 hG h0=>aa Us W v0 hG.bel h0)) (au (qj rfl (aT 2) (aT 4)) ai)))))) ?_
   intro v2 V2 hG2 hv2 hne2;simp only[ay,Act.put,tA,exv (hv2 5 de)];replace HO:=ae hG2.1;clear hG2 hv2 hne2;go_upto_region 4 with fail;refine Nw 9 [_,_,_,_,_,_,_,_,_] [] HO (au (Dr (b:=w.heap.size) (off:=0) rfl aF rfl rfl) (Ea xz me4 (aT 0) [] [.k (wK xn)] [.k (wK xe)] (au (Dr (b:=w.heap.size+1) (off:=0) rfl aF rfl rfl) (Ea xz Uh (aT 2) [] [.k (wK yn)] [.k (wK ye)] (au (sc2 func133 (aT 1) (aT 3) (fun W v0 v1 hG h0 h1=>aa HS W v0 v1 hG.bel h0 h1)) (xh xz uq aF (xh xz me0 aF (au (sc2 func133 (aT 5) (aT 6) (fun W v0 v1 hG h0 h1=>aa HM3 W v0 v1 hG.bel h0 h1)) (au (sc2 func128 (aT 4) (aT 7) (fun W v0 v1 hG h0 h1=>aa HR W v0 v1 hG.bel h0 h1)) ai))))))))) ?_
   intro v3 V3 hG3 hv3 ji;simp only[ay,Act.put,tA];have hO:=hG3.1;refine kg hO 2 Cv (hv3 8 de) ?_
   clear hO;intro Gc hO hk0;replace HO:=ae hO;clear hO hG3 hv3 ji hk0;go_wp2_with fail;exact Ga results62 Om rfl (aa HO) Ed rfl rfl
theorem axy {m1 s b:Int} (w:Wq) (u0:Vq) (h0:bz [.k (wK xn),.k (wK xe)] w u0) (u1:Vq) (h1:bz [.k (wK yn),.k (wK ye)] w u1)
  (hd1:C1 w 130 [.k (wK xn),.k (wK xe)] [.k (wK xd)])
  (hd2:C1 w 130 [.k (wK yn),.k (wK ye)] [.k (wK yd)])
  (ho1:CB w 131 [.k (wK xd)] o1)
  (ho2:CB w 131 [.k (wK yd)] o2)
  (hc:(o1=true∧o2=true∧xd=b∧C2 w 132 [.k (wK xn)] [.k (wK yn)] [.k (wK a)])∨((o1=false∨o1=true∧o2=false)∧C2 w 133 [.k (wK xn)] [.k (wK yd)] [.k (wK m1)]∧C2 w 133 [.k (wK yn)] [.k (wK xd)] [.k (wK m2)]∧C2 w 132 [.k (wK m1)] [.k (wK m2)] [.k (wK s)]∧C2 w 133 [.k (wK xd)] [.k (wK yd)] [.k (wK m3)]∧C2 w 128 [.k (wK s)] [.k (wK m3)] [.k (wK a),.k (wK b)])) :
  Calls prog 60 #[u0,u1] w (gp (bz [.k (wK a),.k (wK b)]) w):=by
 have HD1:=ae hd1
 have HD2:=ae hd2
 have HO1:=ae ho1
 have Us:=ae ho2
 have HC:=ae hc
 clear hd1 hd2 ho1 ho2 hc
 obtain⟨Ig,c0a,Hz,m0a,Oi,c0b,Od,m0b,rfl,f0a,Oe⟩:=Vs h0
 obtain⟨Jp,c1a,Jl,Yz,Kj,Ke,Kc,m1b,rfl,f1a,f1b⟩:=Vs h1
 go_enter func60,ntmps60
 go_upto_region 1 with fail
 have hO:=(Own.push (T:=68) (ls:=zX) (Own.push (T:=68) (ls:=[.k (wK yn),.k (wK ye)]) (Own.push (T:=68) (ls:=[.k (wK xn),.k (wK xe)]) (Own.nil w) (gy.w f0a (gy.w Oe rfl)) (w.heap.size) rfl) (gy.below (by repeat (first|exact df _ _|refine ic ?_ _)) (gy.w f1a (gy.w f1b rfl))) (w.heap.size+1) (by simp only[yw])) (gy.below (by repeat (first|exact df _ _|refine ic ?_ _)) (gy.vs w [.slice none 0 0,.bool false,.slice none 0 0,.bool false] rfl)) (w.heap.size+2) (by simp only[yw]))
 generalize ((w.alloc (.cells #[.slice Ig (List.length Hz) c0a,.bool m0a,.slice Oi (List.length Od) c0b,.bool m0b] 68)).alloc (.cells #[.slice Jp (List.length Jl) c1a,.bool Yz,.slice Kj (List.length Kc) Ke,.bool m1b] 68)).alloc (.cells #[.slice none 0 0,.bool false,.slice none 0 0,.bool false] 68)=W0 at *
 have HO:=ae hO
 clear hO
 refine aav 8 37 (fun k=>if k=6 then 5 else 6) (ui [bz [.k (wK xn),.k (wK xe)],bz [.k (wK xd)],bz [.k (wK yn),.k (wK ye)],bz [.k (wK yd)],fun _ _=>True,fun _ _=>True,fun _ _=>True,fun _ _=>True]) (iw w [(w.heap.size+2,68,zX),(w.heap.size+1,68,[.k (wK yn),.k (wK ye)]),(w.heap.size,68,[.k (wK xn),.k (wK xe)])] W0) (EX W0.heap.size 66) (J2 66 2 W0.heap.size 4 5 6 7 [.k (wK xd)] [.k (wK yd)]) kr kr kr rfl (qm.pick ⟨(Ao _),(Ao _),(Ao _),(Ao _),(Cx),(Cx),(Cx),(Cx),trivial⟩) (iw.start (aa HO)) (fun _=>J2.start) (fun _ _ _ _ h=>J2.congr (n:=8) de h)
  (jg (Hu (El Dt Ed aF [] [.k (wK xn),.k (wK xe)] []))
   (jg (Hu (Ei func130 kr rfl iw.step (aT 0) (fun W v0 hG h0=>aa HD1 W v0 hG.bel h0)))
   (jg (Hu (El Dt uq aF [] [.k (wK yn),.k (wK ye)] []))
   (jg (Hu (Ei func130 kr rfl iw.step (aT 2) (fun W v0 hG h0=>aa HD2 W v0 hG.bel h0)))
   (jg (afb baz rfl rfl rfl)
   (jg (agu baz rfl rfl rfl)
   (jg (afa (aa HO) anh kr (aT 1) rfl rfl rfl)
   (jg (agt (aa HO) anh kr (aT 3) rfl rfl rfl)
   Su)))))))) ?_
 intro v1 V1 hG1 hJ1 hv1 hne1
 simp only[ay,Act.put,tA]
 obtain⟨_,_,hd1,hf1,hg1⟩:=hJ1
 obtain⟨Ox,e4,hge4,Mq⟩:=(hf1 trivial).2
 obtain⟨aqn,e5,zo,Cy⟩:=(hg1 trivial).2
 simp only[e4,e5]
 have hO:=Own.bfs (aa HO) hG1.2 hge4 Mq zo Cy (fun h=>hd1 trivial trivial (by rw[e4,e5,h]))
 clear hge4 Mq zo Cy hd1 hf1 hg1
 replace HO:=ae hO
 clear hO hG1 hv1 hne1
 try clear e4 e5
 rcases aa HC with⟨rfl,rfl,rfl,hp⟩|⟨ho,hp⟩
 ·
  have HOP:=ae hp;clear hp HC;go_upto_region 2 with fail;refine fw 6 [_,_,_,_,_,_] [] HO (xh xz uq aF (au (sc1 func131 (aT 0) (fun W v0 hG h0=>aa HO1 W v0 hG.bel h0)) (dh (aT 1) (ku (El xz me0 aF [] [.k (wK yd)] []) (ku (Ei func131 kr rfl iw.step (aT 3) (fun W v0 hG h0=>aa Us W v0 hG.bel h0)) (au (qj rfl (aT 2) (aT 4)) ai)))))) ?_
  intro v2 V2 hG2 hv2 hne2;simp only[ay,Act.put,tA,exv (hv2 5 de)];replace HO:=ae hG2.1;clear hG2 hv2 hne2;go_upto_region 3 with fail;refine Nw 7 [_,_,_,_,_,_,_] [] HO (au (Dr (b:=w.heap.size) (off:=0) rfl aF rfl rfl) (Ea xz me4 (aT 0) [] [.k (wK xn)] [.k (wK xe)] (au (Dr (b:=w.heap.size+1) (off:=0) rfl aF rfl rfl) (Ea xz Uh (aT 2) [] [.k (wK yn)] [.k (wK ye)] (au (sc2 func132 (aT 1) (aT 3) (fun W v0 v1 hG h0 h1=>aa HOP W v0 v1 hG.bel h0 h1)) (xh xz uq aF (au (Gu awu rfl (aT 4) (aT 5) rfl rfl rfl) ai))))))) ?_
  intro v3 V3 hG3 hv3 ji;simp only[ay,Act.put,tA];have hO:=hG3.1;refine kg hO 2 Cv (hv3 6 de) ?_
  clear hO;intro Gc hO hk0;replace HO:=ae hO;clear hO hG3 hv3 ji hk0;go_wp2_with fail;exact Ga results60 Om rfl (aa HO) Ed rfl rfl
 ·
  obtain⟨h0,h1,h2,h3,h4⟩:=hp;have HM1:=ae h0;have HM2:=ae h1;have HS:=ae h2;have HM3:=ae h3;have HR:=ae h4;clear h0 h1 h2 h3 h4 HC
  rcases ho with rfl|⟨rfl,rfl⟩
  ·
   go_upto_region 2 with fail;refine fw 6 [_,_,_,_,_,_] [] HO (xh xz uq aF (au (sc1 func131 (aT 0) (fun W v0 hG h0=>aa HO1 W v0 hG.bel h0)) (dh (aT 1) (ve (ve (au (mh rfl (aT 2) (fe _)) ai)))))) ?_
   intro v2 V2 hG2 hv2 hne2;simp only[ay,Act.put,tA,exv (hv2 5 de)];replace HO:=ae hG2.1;clear hG2 hv2 hne2;go_upto_region 4 with fail;refine Nw 13 [_,_,_,_,_,_,_,_,_,_,_,_,_] [] HO (au (Dr (b:=w.heap.size) (off:=0) rfl aF rfl rfl) (Ea xz me4 (aT 0) [] [.k (wK xn)] [.k (wK xe)] (xh xz me0 aF (au (sc2 func133 (aT 1) (aT 2) (fun W v0 v1 hG h0 h1=>aa HM1 W v0 v1 hG.bel h0 h1)) (au (Dr (b:=w.heap.size+1) (off:=0) rfl aF rfl rfl) (Ea xz Uh (aT 4) [] [.k (wK yn)] [.k (wK ye)] (xh xz uq aF (au (sc2 func133 (aT 5) (aT 6) (fun W v0 v1 hG h0 h1=>aa HM2 W v0 v1 hG.bel h0 h1)) (au (sc2 func132 (aT 3) (aT 7) (fun W v0 v1 hG h0 h1=>aa HS W v0 v1 hG.bel h0 h1)) (xh xz uq aF (xh xz me0 aF (au (sc2 func133 (aT 9) (aT 10) (fun W v0 v1 hG h0 h1=>aa HM3 W v0 v1 hG.bel h0 h1)) (au (sc2 func128 (aT 8) (aT 11) (fun W v0 v1 hG h0 h1=>aa HR W v0 v1 hG.bel h0 h1)) ai))))))))))))) ?_
   intro v3 V3 hG3 hv3 ji;simp only[ay,Act.put,tA];have hO:=hG3.1;refine kg hO 2 Cv (hv3 12 de) ?_
   clear hO;intro Gc hO hk0;replace HO:=ae hO;clear hO hG3 hv3 ji hk0;go_wp2_with fail;exact Ga results60 Om rfl (aa HO) Ed rfl rfl
  ·
   go_upto_region 2 with fail;refine fw 6 [_,_,_,_,_,_] [] HO (xh xz uq aF (au (sc1 func131 (aT 0) (fun W v0 hG h0=>aa HO1 W v0 hG.bel h0)) (dh (aT 1) (ku (El xz me0 aF [] [.k (wK yd)] []) (ku (Ei func131 kr rfl iw.step (aT 3) (fun W v0 hG h0=>aa Us W v0 hG.bel h0)) (au (qj rfl (aT 2) (aT 4)) ai)))))) ?_
   intro v2 V2 hG2 hv2 hne2;simp only[ay,Act.put,tA,exv (hv2 5 de)];replace HO:=ae hG2.1;clear hG2 hv2 hne2;go_upto_region 4 with fail;refine Nw 13 [_,_,_,_,_,_,_,_,_,_,_,_,_] [] HO (au (Dr (b:=w.heap.size) (off:=0) rfl aF rfl rfl) (Ea xz me4 (aT 0) [] [.k (wK xn)] [.k (wK xe)] (xh xz me0 aF (au (sc2 func133 (aT 1) (aT 2) (fun W v0 v1 hG h0 h1=>aa HM1 W v0 v1 hG.bel h0 h1)) (au (Dr (b:=w.heap.size+1) (off:=0) rfl aF rfl rfl) (Ea xz Uh (aT 4) [] [.k (wK yn)] [.k (wK ye)] (xh xz uq aF (au (sc2 func133 (aT 5) (aT 6) (fun W v0 v1 hG h0 h1=>aa HM2 W v0 v1 hG.bel h0 h1)) (au (sc2 func132 (aT 3) (aT 7) (fun W v0 v1 hG h0 h1=>aa HS W v0 v1 hG.bel h0 h1)) (xh xz uq aF (xh xz me0 aF (au (sc2 func133 (aT 9) (aT 10) (fun W v0 v1 hG h0 h1=>aa HM3 W v0 v1 hG.bel h0 h1)) (au (sc2 func128 (aT 8) (aT 11) (fun W v0 v1 hG h0 h1=>aa HR W v0 v1 hG.bel h0 h1)) ai))))))))))))) ?_
   intro v3 V3 hG3 hv3 ji;simp only[ay,Act.put,tA];have hO:=hG3.1;refine kg hO 2 Cv (hv3 12 de) ?_
   clear hO;intro Gc hO hk0;replace HO:=ae hO;clear hO hG3 hv3 ji hk0;go_wp2_with fail;exact Ga results60 Om rfl (aa HO) Ed rfl rfl
end Sb

end Go.Proofs.YtfgeaakhlcaibaaGreatDoor
namespace Go.Proofs.YtfgeaakhlcaibaaGreatDoor
open Go.RowKit Sb
open Go.Proofs.Tryz
open Go renaming World → Wq
open Go renaming Value → Vq
variable {x q y:Rat} {K b m k F L c1 c2 r s:Nat} {W w' V wr:Wq} {n d a xn xd yn yd z c xe b1 m2 ye g h p m3 b0 l0:Int} {bs:List (Nat×Rat)} {ty TB:TypeId} {pos:String} {af:Array Edge} {gd:Option (Nat×Bool)} {l:List Oper} {T:Nat→Wq→Vq→Prop} {a0:Act} {v v0 u0 u1 u2 u3:Vq} {Q:Exit→Act→Wq→Prop} {al l1 l2:List Nat} {G:Wq→Prop} {A1 A2:Option Addr} {m1 o1 o2:Bool} {ρ:Operand→Vq} {f:Nat→Int} {t:Tmp} {P:Program} {fn:Func} {ats:Array TypeId} {x1:Operand} {cs:List Vq} {vs:Array Vq}

theorem aqr (x y:Rat):x+y=Rat.divInt (x.num*(y.den:Int)+y.num*(x.den:Int)) ((x.den:Int)*(y.den:Int)):=by
 have hx:=x.den_nz;have hy:=y.den_nz
 conv=>lhs;rw[← Uw x,← Uw y]
 exact bbg _ _ om om
theorem acx (x y:Rat):x*y=Rat.divInt (x.num*y.num) ((x.den:Int)*(y.den:Int)):=by
 conv=>lhs;rw[← Uw x,← Uw y]
 exact ajo _ _
theorem byw (x y:Rat):x/y=Rat.divInt (x.num*(y.den:Int)) ((x.den:Int)*y.num):=by
 rw[Rat.div_def]
 conv=>lhs;rw[← Uw x,Rat.inv_def]
 exact ajo _ _
theorem Xk (n:Int):(Rat.divInt n 1).num=n∧(Rat.divInt n 1).den=1:=by
 have h:Rat.divInt n 1=(n:Rat):=by
  rw[← Uw (n:Rat)];rfl
 rw[h]
 exact⟨rfl,rfl⟩
theorem aiq (hx:(x.den:Int)=1) (hy:(y.den:Int)=1):x.num+y.num=(x+y).num∧(x.den:Int)=((x+y).den:Int):=by
 have h:x+y=Rat.divInt (x.num+y.num) 1:=by
  rw[aqr,hx,hy];simp
 rw[h,(Xk _).1,(Xk _).2];exact⟨rfl,hx⟩
theorem aio (hx:(x.den:Int)=1) (hy:(y.den:Int)=1):x.num*y.num=(x*y).num∧(x.den:Int)=((x*y).den:Int):=by
 have h:x*y=Rat.divInt (x.num*y.num) 1:=by
  rw[acx,hx,hy];simp
 rw[h,(Xk _).1,(Xk _).2];exact⟨rfl,hx⟩
def Bt (B K:Nat) (q:Rat):Prop:=je B K q.num∧je B K (q.den:Int)

theorem Vi {w:Wq} {b:Int} (ha:je dz K a) (hb:je dz L b) (hK:K+L≤35184372088832) (e:c=a*b):byy w 133 a b c:=by
 subst e
 exact fun A1 c1 l1 m1 A2 c2 l2 m2 W _ f g=>bux A1 c1 l1 m1 a A2 c2 l2 m2 b W f g (by have:=f.len ha;have:=g.len hb;omega)
theorem bda {w:Wq} {b:Int} (ha:je dz K a) (hb:je dz L b) (hK:K+L+1≤35184372088832) (e:c=a+b):byy w 132 a b c:=by
 subst e
 exact fun A1 c1 l1 m1 A2 c2 l2 m2 W _ f g=>bva A1 c1 l1 m1 a A2 c2 l2 m2 b W f g (by have:=f.len ha;have:=g.len hb;omega)
theorem apn {w:Wq} {b:Int} (ha:je dz K a) (hb:je dz K b) (h0:b≠0) (hK:K+1≤35184372088832) (e:q=Rat.divInt a b):cle w 128 a b q:=by
 subst e
 exact fun A1 c1 l1 m1 A2 c2 l2 m2 W _ f g=>asw A1 c1 l1 m1 a A2 c2 l2 m2 b K W f g h0 ha hb hK
theorem bpg (K:Nat) (A1:Option Addr) (c1:Nat) (l1:List Nat) (m1:Bool) (A2:Option Addr) (c2:Nat) (l2:List Nat) (m2:Bool) (A3:Option Addr) (c3:Nat) (l3:List Nat) (m3:Bool) (A4:Option Addr) (c4:Nat) (l4:List Nat) (m4:Bool) (x y:Rat) (w:Wq) (h1:QV w A1 c1 l1 m1 A2 c2 l2 m2 x) (h2:QV w A3 c3 l3 m3 A4 c4 l4 m4 y) (sx:Bt dz K x) (sy:Bt dz K y) (hK:4*K+4≤35184372088832) :
  Calls prog 60 #[.agg #[.slice A1 l1.length c1,.bool m1,.slice A2 l2.length c2,.bool m2],.agg #[.slice A3 l3.length c3,.bool m3,.slice A4 l4.length c4,.bool m4]] w fun e w'=>QR w (x+y) e w':=by
 obtain⟨d1,q1,g1⟩:=Vg h1
 obtain⟨d2,q2,g2⟩:=Vg h2
 have hx:=x.den_nz;have hy:=y.den_nz
 have s1:je dz (2*K+1) (x.num*(y.den:Int)+y.num*(x.den:Int)):=by
  have a:=sx.1.mul sy.2;have b:=sy.1.mul sx.2;rw[← Nat.two_mul]at a b;exact a.add Bw b
 have s2:je dz (2*K+1) ((x.den:Int)*(y.den:Int)):=(sx.2.mul sy.2).mono Bw om
 have a1:=Vi (w:=w) sx.1 sy.2 om rfl
 have a3:=Vi (w:=w) sy.1 sx.2 om rfl
 have an:=bda (w:=w) (sx.1.mul sy.2) (sy.1.mul sx.2) om rfl
 have am:=Vi (w:=w) sx.2 sy.2 om rfl
 have ar:=apn (w:=w) s1 s2 (agn om om) om (aqr x y)
 refine(axy (m1:=x.num*(y.den:Int)) (m2:=y.num*(x.den:Int)) (s:=x.num*(y.den:Int)+y.num*(x.den:Int)) (m3:=(x.den:Int)*(y.den:Int)) (a:=(x+y).num) (b:=((x+y).den:Int)) w _ g1 _ g2 (Sl w q1) (Sl w q2) (Un w rfl) (Un w rfl) ?_).mono fun e w' h=>afh h
 by_cases e1:(x.den:Int)=1
 ·
  by_cases e2:(y.den:Int)=1
  ·
   exact .inl ⟨dm e1,dm e2,(aiq e1 e2).2,Wo (bda sx.1 sy.1 om (aiq e1 e2).1.symm)⟩
  ·
   exact .inr ⟨.inr ⟨dm e1,dw e2⟩,Wo a1,Wo a3,Wo an,Wo am,cwq ar⟩
 ·
  exact .inr ⟨.inl (dw e1),Wo a1,Wo a3,Wo an,Wo am,cwq ar⟩
theorem bpc (A1:Option Addr) (c1:Nat) (l1:List Nat) (m1:Bool) (A2:Option Addr) (c2:Nat) (l2:List Nat) (m2:Bool) (x:Rat) (w:Wq) (h1:QV w A1 c1 l1 m1 A2 c2 l2 m2 x) :
  Calls prog 134 #[.agg #[.slice A1 l1.length c1,.bool m1,.slice A2 l2.length c2,.bool m2]] w fun e w'=>QR w (-x) e w':=by
 obtain⟨d1,q1,g1⟩:=Vg h1
 exact(brn w _ g1 (Sl w q1) (ckr w _)).mono fun e w' h=>afh (q := -x) h

theorem axk (K:Nat) (A1:Option Addr) (c1:Nat) (l1:List Nat) (m1:Bool) (A2:Option Addr) (c2:Nat) (l2:List Nat) (m2:Bool) (A3:Option Addr) (c3:Nat) (l3:List Nat) (m3:Bool) (A4:Option Addr) (c4:Nat) (l4:List Nat) (m4:Bool) (x y:Rat) (w:Wq) (h1:QV w A1 c1 l1 m1 A2 c2 l2 m2 x) (h2:QV w A3 c3 l3 m3 A4 c4 l4 m4 y) (sx:Bt dz K x) (sy:Bt dz K y) (hK:4*K+4≤35184372088832) :
  Calls prog 62 #[.agg #[.slice A1 l1.length c1,.bool m1,.slice A2 l2.length c2,.bool m2],.agg #[.slice A3 l3.length c3,.bool m3,.slice A4 l4.length c4,.bool m4]] w fun e w'=>QR w (x*y) e w':=by
 obtain⟨d1,q1,g1⟩:=Vg h1
 obtain⟨d2,q2,g2⟩:=Vg h2
 have hx:=x.den_nz;have hy:=y.den_nz
 have an:=Vi (w:=w) sx.1 sy.1 om rfl
 have am:=Vi (w:=w) sx.2 sy.2 om rfl
 have ar:=apn (w:=w) (sx.1.mul sy.1) (sx.2.mul sy.2) (agn om om) om (acx x y)
 refine(axx (s:=x.num*y.num) (m3:=(x.den:Int)*(y.den:Int)) (a:=(x*y).num) (b:=((x*y).den:Int)) w _ g1 _ g2 (Sl w q1) (Sl w q2) (Un w rfl) (Un w rfl) ?_).mono fun e w' h=>afh h
 by_cases e1:(x.den:Int)=1
 ·
  by_cases e2:(y.den:Int)=1
  ·
   exact .inl ⟨dm e1,dm e2,(aio e1 e2).2,Wo (Vi sx.1 sy.1 om (aio e1 e2).1.symm)⟩
  ·
   exact .inr ⟨.inr ⟨dm e1,dw e2⟩,Wo an,Wo am,cwq ar⟩
 ·
  exact .inr ⟨.inl (dw e1),Wo an,Wo am,cwq ar⟩
theorem aki (K:Nat) (A1:Option Addr) (c1:Nat) (l1:List Nat) (m1:Bool) (A2:Option Addr) (c2:Nat) (l2:List Nat) (m2:Bool) (A3:Option Addr) (c3:Nat) (l3:List Nat) (m3:Bool) (A4:Option Addr) (c4:Nat) (l4:List Nat) (m4:Bool) (x y:Rat) (w:Wq) (h1:QV w A1 c1 l1 m1 A2 c2 l2 m2 x) (h2:QV w A3 c3 l3 m3 A4 c4 l4 m4 y) (sx:Bt dz K x) (sy:Bt dz K y) (hK:4*K+4≤35184372088832) (h0:y.num≠0) :
  Calls prog 64 #[.agg #[.slice A1 l1.length c1,.bool m1,.slice A2 l2.length c2,.bool m2],.agg #[.slice A3 l3.length c3,.bool m3,.slice A4 l4.length c4,.bool m4]] w fun e w'=>QR w (x/y) e w':=by
 have hx:=x.den_nz
 obtain⟨d1,q1,g1⟩:=Vg h1
 obtain⟨d2,q2,g2⟩:=Vg h2
 exact(brp (a:=(x/y).num) (b:=((x/y).den:Int)) w _ g1 _ g2 (Sl w q1) (Sl w q2) (Wo (Vi sx.1 sy.2 om rfl)) (Wo (Vi sx.2 sy.1 om rfl)) (cwq (apn (sx.1.mul sy.2) (sx.2.mul sy.1) (agn om h0) om (byw x y)))).mono fun e w' h=>afh h
end Go.Proofs.YtfgeaakhlcaibaaGreatDoor
namespace Go.Proofs.YtfgeaakhlcaibaaGreatDoor
open Go.RowKit
open Go.Proofs.Tryz
open Go renaming World → Wq
open Go renaming Value → Vq
variable {x q y:Rat} {K b m k F L c1 c2 r s:Nat} {W w' V wr:Wq} {n d a xn xd yn yd z c xe b1 m2 ye g h p m3 b0 l0:Int} {bs:List (Nat×Rat)} {ty TB:TypeId} {pos:String} {af:Array Edge} {gd:Option (Nat×Bool)} {l:List Oper} {T:Nat→Wq→Vq→Prop} {a0:Act} {v v0 u0 u1 u2 u3:Vq} {Q:Exit→Act→Wq→Prop} {al l1 l2:List Nat} {G:Wq→Prop} {A1 A2:Option Addr} {m1 o1 o2:Bool} {ρ:Operand→Vq} {f:Nat→Int} {t:Tmp} {P:Program} {fn:Func} {ats:Array TypeId} {x1:Operand} {cs:List Vq} {vs:Array Vq}


theorem blh (A1:Option Addr) (c1:Nat) (l1:List Nat) (m1:Bool) (A2:Option Addr) (c2:Nat) (l2:List Nat) (m2:Bool) (q:Rat) (w:Wq) (h:QV w A1 c1 l1 m1 A2 c2 l2 m2 q) :
  Calls prog 123 #[(Value.agg #[.slice A1 l1.length c1,.bool m1,.slice A2 l2.length c2,.bool m2])] w fun e w'=>e = .returned (.int .i64 (zm q.num))∧Below w.heap.size w w':=by
 have hz:=h.num.nat.Ta
 have hs:=h.num.sign
 have HI:=ae (fun W=>abt A1 c1 l1.length m1 W)
 obtain⟨n0,hsz,hw0⟩:=Ii w (.cells #[.slice A1 l1.length c1,.bool m1,.slice A2 l2.length c2,.bool m2] 68)
 by_cases h0:l1.length=0
 ·
  have e:zm q.num=0:=by
   have h1:=hz.2 h0;have h2:q.num=0:=by omega
   rw[h2];rfl
  rw[e];rw[dm h0]at HI;clear h hz hs e h0
  go_enter func123,ntmps123
  go_wp2_with fail;refine((aa HI) _).mono ?_
  rintro e w' ⟨rfl,hb⟩;have lh:=az hw0 hb;clear hb hsz n0;go_wp2_with fail
  all_goals first|go_ret|skip
  exact⟨rfl,lh⟩
 ·
  have hn0 : ¬ q.num=0:=fun h1=>h0 (hz.1 (by rw[h1];rfl))
  have e:zm q.num=if m1=true then -1 else 1:=by
   rw[hs]
   by_cases a:q.num<0
   ·
    simp[zm,a]
   ·
    have:0<q.num:=by omega
    simp only[zm,a,decide_false];simp<;>omega
  rw[e];rw[dw h0]at HI;clear h hz hs e h0 hn0
  cases m1
  all_goals
   go_enter func123,ntmps123
   go_wp2_with fail;generalize w.alloc _=W0 at *;have k1:W0.cell? ⟨w.heap.size,1,none⟩=some (.bool _):=ag n0 1;have q0:=lt_of_block n0;clear n0 hsz;refine((aa HI) _).mono ?_
   rintro e w' ⟨rfl,hb⟩;obtain⟨hc,hfz⟩:=fq hb;replace k1:=(hc _ _ q0).trans k1;have lh:=az hw0 hb;clear hb hc hfz;go_wp2_with fail
   all_goals first|go_ret|skip
   exact⟨rfl,lh⟩


theorem apd (n:Int) (q:Rat) (w:Wq) (b1 : -9223372036854775808≤n) (b2:n≤9223372036854775807) (hn:n=q.num) (hd:(1:Int)=(q.den:Int)) :
  Calls prog 95 #[.int .i64 n] w fun e w'=>QR w q e w':=by
 have HO1:=ae (fun W=>(agy n W b1 b2).mono (fun e w' h=>h.1))
 have Us:=ae apb
 have HN:=bg hn;have HD:=bg hd
 clear b1 b2 hn hd
 go_enter func95,ntmps95
 go_wp2_with fail
 obtain⟨n0,hsz,hw0⟩:=Ii w (.cells #[.slice none 0 0,.bool false,.slice none 0 0,.bool false] 68)
 generalize (w.alloc (.cells #[.slice none 0 0,.bool false,.slice none 0 0,.bool false] 68))=W0 at *
 have p0:W0.cell? ⟨w.heap.size,0,none⟩=some (.slice none 0 0):=ag n0 0
 have p1:W0.cell? ⟨w.heap.size,1,none⟩=some (.bool false):=ag n0 1
 have p2:W0.cell? ⟨w.heap.size,2,none⟩=some (.slice none 0 0):=ag n0 2
 have p3:W0.cell? ⟨w.heap.size,3,none⟩=some (.bool false):=ag n0 3
 have v0:=ah n0 0;have v1:=ah n0 1;have v2:=ah n0 2;have v3:=ah n0 3
 have q0:=lt_of_block n0
 have NR:=bg n0
 clear n0 hsz
 refine((aa HO1) _).mono ?_
 rintro e W1 ⟨A1,c1,l1,m1,rfl,f1,hb1⟩
 have F1:=ae f1;have HB1:=ae hb1
 clear f1 hb1
 go_wp2_with fail
 refine((aa Us) _).mono ?_
 rintro e W2 ⟨A2,c2,l2,m2,rfl,f2,hb2⟩
 have F1':=ae ((aa F1).below hb2)
 have hb2':=az (aa HB1) hb2
 obtain⟨hc,hfz⟩:=fq hb2'
 have hblk:=(hb2'.block _ q0).trans NR.out
 have lu:=bg hblk
 have F2:=ae f2;have lh:=az hw0 hb2'
 have HB9:=ae lh
 clear f2 hb2 hb2' hblk lh
 go_wp2_with fail
 exact bodyPost_ret (v := .agg #[.slice A1 l1.length c1,.bool m1,.slice A2 l2.length c2,.bool m2]) (by simp[results,results95,go_sem,hc,p0,p1,p2,p3,q0]) rfl
  ⟨A1,c1,l1,m1,A2,c2,l2,m2,rfl,HN.out ▸ (aa F1').upto lu.out (De _ _ _ _ _ _ _ _) (jo _ _ _ _ _ _),HD.out ▸ (aa F2).upto lu.out (De _ _ _ _ _ _ _ _) (jo _ _ _ _ _ _),(aa HB9).grown (jo _ _ _ _ _ _) (aa HB9).size (fun k hk=>by injection hk with hk;omega)⟩


theorem bro (A1:Option Addr) (c1:Nat) (l1:List Nat) (m1:Bool) (A2:Option Addr) (c2:Nat) (l2:List Nat) (m2:Bool) (z1:Int) (p q:Rat) (w:Wq) 
  (hi : ∀ W,Calls prog 95 #[.int .i64 1] W fun e w'=>QR W p e w') (hd : ∀ (A7:Option Addr) (c7:Nat) (l7:List Nat) (m7:Bool) (A8:Option Addr) (c8:Nat) (l8:List Nat) (m8:Bool) (W:Wq),Below w.heap.size w W→kz W A7 c7 l7 m7 p.num→kz W A8 c8 l8 m8 (p.den:Int)→Calls prog 64 #[(Value.agg #[.slice A7 l7.length c7,.bool m7,.slice A8 l8.length c8,.bool m8]),(Value.agg #[.slice A1 l1.length c1,.bool m1,.slice A2 l2.length c2,.bool m2])] W fun e w'=>QR W q e w') :
  Calls prog 90 #[(Value.agg #[.slice A1 l1.length c1,.bool m1,.slice A2 l2.length c2,.bool m2])] w fun e w'=>QR w q e w':=by
 have HI:=ae hi
 have HD:=ae hd
 clear hi hd
 go_enter func90,ntmps90
 go_upto_region 1 with fail
 obtain⟨n0,n1,hsz,hw0⟩:=Ci w (.cells #[.slice A1 l1.length c1,.bool m1,.slice A2 l2.length c2,.bool m2] 68) (.cells #[.slice none 0 0,.bool false,.slice none 0 0,.bool false] 68)
 generalize ((w.alloc (.cells #[.slice A1 l1.length c1,.bool m1,.slice A2 l2.length c2,.bool m2] 68)).alloc (.cells #[.slice none 0 0,.bool false,.slice none 0 0,.bool false] 68))=W0 at *
 have Dk:W0.cell? ⟨w.heap.size,0,none⟩=some (.slice A1 l1.length c1):=ag n0 0
 have Dj:W0.cell? ⟨w.heap.size,1,none⟩=some (.bool m1):=ag n0 1
 have Fx:W0.cell? ⟨w.heap.size,2,none⟩=some (.slice A2 l2.length c2):=ag n0 2
 have Jt:W0.cell? ⟨w.heap.size,3,none⟩=some (.bool m2):=ag n0 3
 have q0:w.heap.size<W0.heap.size:=by omega
 have Ev:W0.cell? ⟨w.heap.size+1,0,none⟩=some (.slice none 0 0):=ag n1 0
 have Eu:W0.cell? ⟨w.heap.size+1,1,none⟩=some (.bool false):=ag n1 1
 have Qc:W0.cell? ⟨w.heap.size+1,2,none⟩=some (.slice none 0 0):=ag n1 2
 have ahs:W0.cell? ⟨w.heap.size+1,3,none⟩=some (.bool false):=ag n1 3
 have q1:w.heap.size+1<W0.heap.size:=by omega
 have acr:=ah n1 0
 have acp:=ah n1 1
 have bnn:=ah n1 2
 have bnm:=ah n1 3
 have NR:=bg n1
 clear hsz n0 n1
 go_upto_region 1 with fail
 have KEEP:=ae (show ∀ X,Below W0.heap.size W0 X→X.cell? ⟨w.heap.size,0,none⟩=some (.slice A1 l1.length c1)∧X.cell? ⟨w.heap.size,1,none⟩=some (.bool m1)∧X.cell? ⟨w.heap.size,2,none⟩=some (.slice A2 l2.length c2)∧X.cell? ⟨w.heap.size,3,none⟩=some (.bool m2)from fun X hB=>⟨jb hB q0 Dk,jb hB q0 Dj,jb hB q0 Fx,jb hB q0 Jt⟩)
 go_region_held3 (fun w'=>w'.cell? ⟨w.heap.size,0,none⟩=some (.slice A1 l1.length c1)∧w'.cell? ⟨w.heap.size,1,none⟩=some (.bool m1)∧w'.cell? ⟨w.heap.size,2,none⟩=some (.slice A2 l2.length c2)∧w'.cell? ⟨w.heap.size,3,none⟩=some (.bool m2)) (first|with_reducible exact⟨(adv _ _ _ _ _ _ om).trans (jb hbw q0 Dk),(adv _ _ _ _ _ _ om).trans (jb hbw q0 Dj),(adv _ _ _ _ _ _ om).trans (jb hbw q0 Fx),(adv _ _ _ _ _ _ om).trans (jb hbw q0 Jt)⟩|with_reducible exact(aa KEEP) _ bel) (first|(go_at_call_of 95 (Value.int .i64 1);refine((aa HI) _).mono ?_;rintro e w' ⟨A5,c5,l5,m5,A6,c6,l6,m6,rfl,Ff,Lc,hb5⟩;have hbw:=cz (w:=W0) bel hb5;have hsw:=hbw.size;obtain⟨hc,hfz⟩:=fq hbw)|(go_at_call_of 64 (Value.agg #[.slice A5 l5.length c5,.bool m5,.slice A6 l6.length c6,.bool m6]);refine((aa HD) A5 c5 l5 m5 A6 c6 l6 m6 _ (az hw0 bel) (kz.below Ff bel) (kz.below Lc bel)).mono ?_;rintro e w' ⟨A7,c7,l7,m7,A8,c8,l8,m8,rfl,hf7,hf8,Rt⟩;have Ff:=kz.below (kz.below Ff bel) Rt;have Lc:=kz.below (kz.below Lc bel) Rt;have hbw:=cz (w:=W0) bel Rt;have hsw:=hbw.size;obtain⟨hc,hfz⟩:=fq hbw))
 all_goals
  have hblk:w'.heap[w.heap.size+1]? = some (.cells #[.slice none 0 0,.bool false,.slice none 0 0,.bool false] 68 (0,0)):=(hbw.block _ q1).trans NR.out;have lu:=bg hblk;have lh:Below w.heap.size w w':=az hw0 hbw;have hfi:=(hf7)
  have hfj:=(hf8)
  clear hblk;go_wp2_with fail;exact bodyPost_ret (v:=(Value.agg #[.slice A7 l7.length c7,.bool m7,.slice A8 l8.length c8,.bool m8])) (by simp[results,results90,go_sem,hc,Ev,Eu,Qc,ahs,q1]) rfl
   ⟨A7,c7,l7,m7,A8,c8,l8,m8,rfl,hfi.upto lu.out (De _ _ _ _ _ _ _ _) (jo _ _ _ _ _ _),hfj.upto lu.out (De _ _ _ _ _ _ _ _) (jo _ _ _ _ _ _),lh.grown (jo _ _ _ _ _ _) lh.size (fun k hk=>by injection hk with hk;omega)⟩

theorem adz (n:Int):n=(Rat.divInt n 1).num∧(1:Int)=((Rat.divInt n 1).den:Int):=⟨(Xk n).1.symm,by rw[(Xk n).2];rfl⟩
theorem bpe (K:Nat) (A1:Option Addr) (c1:Nat) (l1:List Nat) (m1:Bool) (A2:Option Addr) (c2:Nat) (l2:List Nat) (m2:Bool) (x:Rat) (w:Wq) (h:QV w A1 c1 l1 m1 A2 c2 l2 m2 x) (sx:Bt dz K x) (h1:1≤K) (hK:4*K+4≤35184372088832) (h0:x.num≠0) :
  Calls prog 90 #[(Value.agg #[.slice A1 l1.length c1,.bool m1,.slice A2 l2.length c2,.bool m2])] w fun e w'=>QR w (Rat.divInt 1 1/x) e w':=by
 have s1:Bt dz K (Rat.divInt 1 1):=by
  have e:1<dz^K:=Nat.one_lt_pow om Bw;unfold Bt je;rw[← (adz 1).1,← (adz 1).2];exact⟨e,e⟩
 exact bro A1 c1 l1 m1 A2 c2 l2 m2 0 (Rat.divInt 1 1) (Rat.divInt 1 1/x) w (fun W=>apd 1 _ W om om (adz 1).1 (adz 1).2)
  (fun A7 c7 l7 m7 A8 c8 l8 m8 W hW f g=>aki K A7 c7 l7 m7 A8 c8 l8 m8 A1 c1 l1 m1 A2 c2 l2 m2 _ x W (QV.of f g) (h.below hW) s1 sx hK h0)
end Go.Proofs.YtfgeaakhlcaibaaGreatDoor
namespace Go.Proofs.YtfgeaakhlcaibaaGreatDoor
open Go.Proofs.Tryz
open Go renaming World → Wq
open Go renaming Value → Vq
variable {x q y:Rat} {K b m k F L c1 c2 r s:Nat} {W w' V wr:Wq} {n d a xn xd yn yd z c xe b1 m2 ye g h p m3 b0 l0:Int} {bs:List (Nat×Rat)} {ty TB:TypeId} {pos:String} {af:Array Edge} {gd:Option (Nat×Bool)} {l:List Oper} {T:Nat→Wq→Vq→Prop} {a0:Act} {v v0 u0 u1 u2 u3:Vq} {Q:Exit→Act→Wq→Prop} {al l1 l2:List Nat} {G:Wq→Prop} {A1 A2:Option Addr} {m1 o1 o2:Bool} {ρ:Operand→Vq} {f:Nat→Int} {t:Tmp} {P:Program} {fn:Func} {ats:Array TypeId} {x1:Operand} {cs:List Vq} {vs:Array Vq}
namespace Wd

def simp:Nat→Nat→Nat→Nat→Nat→Nat×Nat
 | 0,_,_,_,_=>(0,1)
 | f+1,a,b,c,d=>if b=1 then(a,1)else if a/b<c/d then(a/b+1,1)
  else(a/b*(simp f d (c-a/b*d) b (a-a/b*b)).1+(simp f d (c-a/b*d) b (a-a/b*b)).2,(simp f d (c-a/b*d) b (a-a/b*b)).1)

structure bgc (a b c d:Nat):Prop where
 pa:0<a
 pb:0<b
 pc:0<c
 pd:0<d
 co:a.Coprime b
 co2:c.Coprime d
 le:a*d≤c*b

theorem aoh (a b:Nat):a-a/b*b=a%b:=by
 have:=Fv a b
 rw[og]at this
 omega
theorem bgc.step {a c d:Nat} (h:bgc a b c d) (hb:b≠1) (hk : ¬ a/b<c/d) :
  bgc d (c-a/b*d) b (a-a/b*b)∧c/d=a/b∧c-a/b*d=c%d∧c-a/b*d<d∧a-a/b*b<b:=by
 have ha:=h.pa;have hb0:=h.pb;have hc:=h.pc;have hd:=h.pd
 have e1:=Fv a b
 have r0:a%b≠0:=fun e=>by
  have hdv:=Nat.dvd_of_mod_eq_zero e;have:=Nat.Coprime.eq_one_of_dvd h.co.symm hdv;exact hb this
 have hkd:a/b≤c/d:=by
  rw[abo hd];have h2:a/b*b*d≤c*b:=xy (Dc _ (Uz a b)) h.le;rw[Nat.mul_right_comm]at h2;exact Nat.le_of_mul_le_mul_right h2 hb0
 have hq:c/d=a/b:=by omega
 have e2:c-a/b*d=c%d:=by rw[← hq];exact aoh c d
 have e3:=aoh a b
 have e4:=Fv c d
 have hle:a%b*d≤c%d*b:=by
  have hle:=h.le;rw[hq]at e4;generalize a/b=k at *;generalize a%b=r at *;generalize c%d=s at *;subst e1 e4;rw[xm,xm]at hle;have:b*k*d=d*k*b:=by rw[og b k,uk,og b d,← uk,og k d]
  omega
 have s0:0<c%d:=by
  rcases Fs (c%d)with e|e
  ·
   rw[e,ajp]at hle;have:=Ye (abm r0) hd;omega
  ·
   exact e
 rw[e2,e3]
 refine⟨⟨hd,s0,hb0,abm r0,?_,?_,?_⟩,hq,rfl,Bf _ hd,Bf _ hb0⟩
 ·
  have:=h.co2;unfold Nat.Coprime at *;rw[Ja,← aex,Ja];exact this
 ·
  have:=h.co;unfold Nat.Coprime at *;rw[Ja,← aex,Ja];exact this
 ·
  rw[og,og b];exact hle
def fr (n d:Nat):Rat:=Rat.divInt (n:Int) (d:Int)
end Wd

def aec:Nat→Int→Int→List Int
 | 0,_,_=>[]
 | f+1,n,d=>if d=0 then[]else n/d::aec f d (n%d)
theorem azl : ∀ (f:Nat) (n d:Int),(aec f n d).length≤f
 | 0,_,_=>gu _
 | f+1,n,d=>by
  unfold aec
  split
  ·
   exact ug _
  ·
   have:=azl f d (n%d);rw[Db];omega
theorem boc (f:Nat) (n:Int):aec f n 0=[]:=by
 cases f with
 | zero=>rfl
 | succ f=>simp[aec]
structure Nk (L l:List Int) (n d:Int):Prop where
 ok : ∃ f:Nat,d<f∧l++aec f n d=L∧L.length≤l.length+f
 d0:0≤d
 nb : -1000000000000≤n∧n≤1000000000000
 db:d≤1000000000000
theorem Nk.start (h:qi n d):Nk (aec (d.toNat+1) n d) [] n d:=by
 obtain⟨h1,h2,h3,h4,_⟩:=h
 exact⟨⟨d.toNat+1,by omega,rfl,by have:=azl (d.toNat+1) n d;simpa using this⟩,by omega,⟨by omega,by omega⟩,by omega⟩
theorem Nk.step {L l:List Int} (h:Nk L l n d) (hd:0<d):Nk L (l++[n/d]) d (n%d)∧n-n/d*d=n%d ∧ -1000000000000≤n/d∧n/d≤1000000000000 ∧ -2000000000000≤n/d*d∧n/d*d≤2000000000000:=by
 obtain⟨⟨f,h1,h2,h3⟩,h4,h5,h6⟩:=h
 have e1:=Int.emod_nonneg n (show d≠0 by omega)
 have e2:=Int.emod_lt_of_pos n hd
 have e3:=Int.mul_ediv_add_emod n d
 rw[Xr]at e3
 have lo : -1000000000000≤n/d:=by
  rw[Int.le_ediv_iff_mul_le hd];omega
 have hi:n/d≤1000000000000:=by
  rcases Int.lt_or_le n 0 with hn|hn
  ·
   have:n/d<0:=Int.ediv_neg_of_neg_of_pos hn hd;omega
  ·
   have:=Int.ediv_le_self d hn;omega
 have e4:n-n/d*d=n%d ∧ -2000000000000≤n/d*d∧n/d*d≤2000000000000:=by
  generalize n/d*d=t at *;generalize n%d=r at *;exact⟨by omega,by omega,by omega⟩
 refine⟨⟨?_,e1,by omega,by omega⟩,e4.1,lo,hi,e4.2.1,e4.2.2⟩
 cases f with
 | zero=>omega
 | succ f =>
  refine⟨f,by omega,?_,by simp;omega⟩
  rw[← h2];simp only[aec,if_neg (show ¬ d=0 by omega),Lm,Ut,Pm]
theorem Nk.done {L l:List Int} (h:Nk L l n 0):l=L:=by
 obtain⟨⟨f,h1,h2,h3⟩,_,_,_⟩:=h
 rw[boc,Oz]at h2
 exact h2
theorem Nk.len {L l:List Int} (h:Nk L l n d) (hL:L.length≤1000000000001):l.length≤1000000000001:=by
 obtain⟨⟨f,h1,h2,h3⟩,_,_,_⟩:=h
 rw[← h2,Bj]at hL
 omega

theorem Cq (a:Int):(Rat.divInt a 1).num=a∧((Rat.divInt a 1).den:Int)=1:=by
 have h:Rat.divInt a 1=(a:Rat):=by
  rw[← Uw (a:Rat)];rfl
 rw[h]
 exact⟨rfl,rfl⟩
def azm (l:List Int):Prop:=0<l.length∧(∀ i,i<l.length→1≤i→1≤l.getD i 0)∧(l.length=1∨l.getD (l.length-1) 0≠1)
instance (l:List Int):Decidable (azm l):=by unfold azm;infer_instance
end Go.Proofs.YtfgeaakhlcaibaaGreatDoor
namespace Go.Proofs.YtfgeaakhlcaibaaGreatDoor
open Go.RowKit
open Go.Proofs.Tryz
open Go renaming World → Wq
open Go renaming Value → Vq
variable {x q y:Rat} {K b m k F L c1 c2 r s:Nat} {W w' V wr:Wq} {n d a xn xd yn yd z c xe b1 m2 ye g h p m3 b0 l0:Int} {bs:List (Nat×Rat)} {ty TB:TypeId} {pos:String} {af:Array Edge} {gd:Option (Nat×Bool)} {l:List Oper} {T:Nat→Wq→Vq→Prop} {a0:Act} {v v0 u0 u1 u2 u3:Vq} {Q:Exit→Act→Wq→Prop} {al l1 l2:List Nat} {G:Wq→Prop} {A1 A2:Option Addr} {m1 o1 o2:Bool} {ρ:Operand→Vq} {f:Nat→Int} {t:Tmp} {P:Program} {fn:Func} {ats:Array TypeId} {x1:Operand} {cs:List Vq} {vs:Array Vq}

theorem bym (x q:Rat) (w:Wq) (u1:Vq) (h1:Ra x w u1) (ha:(x.den:Int)=q.num) (hb:(1:Int)=(q.den:Int))
  (hden : ∀ (W:Wq) (v0:Vq),Ra (x) W v0→Calls prog 130 #[v0] W (gp (WhT (x.den)) W))
  (hone : ∀ (W:Wq) , Calls prog 142 #[] W (gp (WhT (1)) W)) :
  Calls prog 82 #[u1] w (gp (Ra q) w):=by
 obtain⟨A1,c1,l1,m1,A2,c2,l2,m2,rfl,hq1⟩:=h1
 have cnw:=ae hden
 have cnv:=ae hone
 have HHA:=ae ha
 have HHB:=ae hb
 clear hden hone ha hb
 go_enter func82,ntmps82
 go_upto_region 1 with fail
 have hO:=(Own.cmx (Own.push (Own.nil w) (hq1.below (df _ _)) (w.heap.size) rfl) (w.heap.size+1) (by simp only[yw]))
 generalize (w.alloc (.cells #[.slice A1 l1.length c1,.bool m1,.slice A2 l2.length c2,.bool m2] 68)).alloc (.cells #[.slice none 0 0,.bool false,.slice none 0 0,.bool false] 68)=W0 at *
 have HO:=ae hO
 clear hO
 go_upto_region 1 with fail
 refine yc 4 7 (ui [Ra (x),WhT (x.den:Int),WhT 1,Ra (q)]) (iw w _ W0) il [] kr rfl (qm.pick ⟨bip _,bim _,bim _,bip _,trivial⟩) (iw.begin (aa HO))
  (oh (Ef rfl (ccz rfl aF (fun W h=>iw.box (List.Mem.tail _ (List.Mem.head _)) h) rfl))
   (oh (Ef rfl (Ei func130 kr rfl iw.step (aT 0) (fun W v0 hG h0=>aa cnw W v0 h0)))
   (oh (Ef rfl (Uc func142 kr rfl iw.step  (fun W  hG  => aa cnv W)))
   (oh (Ef rfl (bvi rfl (aT 1) (aT 2) (aa HHA) (aa HHB) rfl))
   ai)))) ?_
 intro v V1 hG1 hv hne
 clear hne
 simp only[ay,List.take_succ_cons,Nu,bkq,agk,Act.put,List.setIfInBounds_toArray,List.set_cons_zero,List.set_cons_succ]
 obtain⟨cnz,cnr,cnj,cnh,cny,cnq,cni,cng,e3,f3⟩:=(show Ra (q) V1 (v 3)from hv 3 de)
 simp only[e3]
 have hO:=hG1.1
 obtain⟨-,_,_,_,_,_,_,_,_,hz,-⟩:=hO.box (w.heap.size+1) (0) (List.Mem.head _)
 have Ps:=ag hz 0
 have akg:=ah hz 0
 have Pq:=ag hz 1
 have ake:=ah hz 1
 have Pp:=ag hz 2
 have akd:=ah hz 2
 have Po:=ag hz 3
 have akc:=ah hz 3
 have Qb:=lt_of_block hz
 clear hz
 go_wp2_with fail
 replace hO:=Own.set (xs:=[]) (ys:=[(w.heap.size,x)]) hO f3
 unfold cgw at hO
 generalize (((V1.setCell ⟨w.heap.size+1,0,none⟩ (.slice cnz cnj.length cnr)).setCell ⟨w.heap.size+1,1,none⟩ (.bool cnh)).setCell ⟨w.heap.size+1,2,none⟩ (.slice cny cni.length cnq)).setCell ⟨w.heap.size+1,3,none⟩ (.bool cng)=U1 at *
 try clear Ps akg Pq ake Pp akd Po akc hG1
 try clear e3 f3 Qb
 try clear hv
 replace HO:=ae hO
 clear hO
 obtain⟨alj,aof,aoc,anw,anz,aoe,aob,anv,anx,Gh,aoa⟩:=(aa HO).box _ _ (List.Mem.head _)
 have Ps:=ag Gh 0
 have Pq:=ag Gh 1
 have Pp:=ag Gh 2
 have Po:=ag Gh 3
 have Qb:=lt_of_block Gh
 clear Gh alj
 go_wp2_with fail
 exact bodyPost_ret (v := .agg #[.slice aof anw.length aoc,.bool anz,.slice aoe anv.length aob,.bool anx]) (by simp[results,results82,go_sem,Ps,Pq,Pp,Po,Qb]) rfl
  ⟨_,rfl,(aa HO).bel,⟨_,_,_,_,_,_,_,_,rfl,aoa⟩⟩
theorem cku (x:Rat) (W:Wq) (v:Vq) (h:Ra x W v):Calls prog 130 #[v] W (gp (WhT (x.den:Int)) W):=by
 obtain⟨A1,c1,l1,m1,A2,c2,l2,m2,rfl,hq⟩:=h
 exact(akl A1 c1 l1 m1 A2 c2 l2 m2 x W hq).mono (fun e w'=>axi)
theorem cnn (W:Wq):Calls prog 142 #[] W (gp (WhT 1) W):=(apb W).mono (fun e w'=>axi)
theorem Sl (x:Rat) (W:Wq) (v:Vq) (h:Ra x W v):Calls prog 82 #[v] W (gp (Ra (Rat.divInt (x.den:Int) 1)) W) :=
 bym x _ W v h (Cq _).1.symm (Cq _).2.symm (fun W v h=>cku x W v h) cnn
theorem cnp (n:Int) (b1 : -9223372036854775808≤n) (b2:n≤9223372036854775807) (W:Wq):Calls prog 95 #[.int .i64 n] W (gp (Ra (Rat.divInt n 1)) W) :=
 (apd n _ W b1 b2 (Cq n).1.symm (Cq n).2.symm).mono (fun e w'=>att)
theorem ckt (n d:Int) (b1 : -9223372036854775808≤n) (b2:n≤9223372036854775807) (b3 : -9223372036854775808≤d) (b4:d≤9223372036854775807) (hd:d≠0) (W:Wq):Calls prog 145 #[.int .i64 n,.int .i64 d] W (gp (Ra (Rat.divInt n d)) W) :=
 (bpk n d W b1 b2 b3 b4 hd).mono (fun e w'=>att)
theorem aih (sx:Bt dz K x) (sy:Bt dz K y) (hK:4*K+4≤35184372088832)  (W:Wq) (v0 v1:Vq) (h0:Ra x W v0) (h1:Ra y W v1):Calls prog 62 #[v0,v1] W (gp (Ra (x*y)) W):=by
 obtain⟨A1,c1,l1,m1,A2,c2,l2,m2,rfl,f1⟩:=h0
 obtain⟨A3,c3,l3,m3,A4,c4,l4,m4,rfl,f2⟩:=h1
 exact(axk K A1 c1 l1 m1 A2 c2 l2 m2 A3 c3 l3 m3 A4 c4 l4 m4 x y W f1 f2 sx sy hK).mono (fun e w'=>att)
theorem ckn (W:Wq) (v0:Vq) (h0:Ra x W v0):Calls prog 123 #[v0] W (gp (ax (.int .i64 (zm x.num))) W):=by
 obtain⟨A1,c1,l1,m1,A2,c2,l2,m2,rfl,f1⟩:=h0
 exact(blh A1 c1 l1 m1 A2 c2 l2 m2 x W f1).mono (fun e w' h=>⟨_,h.1,h.2,rfl⟩)



theorem cei (h:qi n d):Bt dz 2 (jw n d):=by
 obtain⟨a1,a2⟩:=Tu h
 obtain⟨r1,r2,r3,r4,_⟩:=h
 unfold Bt je
 rw[a1,a2,fu]
 exact⟨by omega,by omega⟩

theorem axm (A1:Option Addr) (c1:Nat) (l1:List Nat) (m1:Bool) (A2:Option Addr) (c2:Nat) (l2:List Nat) (m2:Bool) (q:Rat) (w:Wq) (h:QV w A1 c1 l1 m1 A2 c2 l2 m2 q) :
  Calls prog 125 #[.agg #[.slice A1 l1.length c1,.bool m1,.slice A2 l2.length c2,.bool m2]] w fun e w'=>ctg w q e w':=by
 have zf:=ae (fun W (hW:Below w.heap.size w W)=>asu A1 c1 l1 m1 q.num W (h.num.below hW))
 have HS2:=ae (fun A c l m W (f:kz W A c l m (q.den:Int))=>asu A c l m (q.den:Int) W f)
 have HD:=ae (fun W (hW:Below w.heap.size w W)=>akl A1 c1 l1 m1 A2 c2 l2 m2 q W (h.below hW))
 have ht:(uw q→jf q=⟨q.num,q.den,0⟩)∧(¬ uw q→jf q=⟨0,0,3⟩):=⟨fun h=>if_pos h,fun h=>if_neg h⟩
 have hfi:uw q↔q.num.natAbs≤1000000000000∧q.den≤1000000000000:=Iff.rfl
 have HT:=ae (And.intro ht hfi)
 clear h ht hfi
 go_enter func125,ntmps125
 go_wp2_with fail
 obtain⟨n0,n1,hsz,hw0⟩:=Ci w (.cells #[.slice A1 l1.length c1,.bool m1,.slice A2 l2.length c2,.bool m2] 68) (.cells #[.int .i64 0,.int .i64 0] 23)
 generalize ((w.alloc (.cells #[.slice A1 l1.length c1,.bool m1,.slice A2 l2.length c2,.bool m2] 68)).alloc (.cells #[.int .i64 0,.int .i64 0] 23))=W0 at *
 have k0:W0.cell? ⟨w.heap.size,0,none⟩=some (.slice A1 l1.length c1):=ag n0 0
 have k1:W0.cell? ⟨w.heap.size,1,none⟩=some (.bool m1):=ag n0 1
 have k2:W0.cell? ⟨w.heap.size,2,none⟩=some (.slice A2 l2.length c2):=ag n0 2
 have k3:W0.cell? ⟨w.heap.size,3,none⟩=some (.bool m2):=ag n0 3
 have p0:W0.cell? ⟨w.heap.size+1,0,none⟩=some (.int .i64 0):=ag n1 0
 have p1:W0.cell? ⟨w.heap.size+1,1,none⟩=some (.int .i64 0):=ag n1 1
 have v0:=ah n1 0;have v1:=ah n1 1
 have q0:=lt_of_block n0;have q1:=lt_of_block n1
 clear n0 n1 hsz
 refine((aa zf) _ hw0).mono ?_
 rintro e W1 ⟨x1,ok1,rfl,hok1,hx1,hb1⟩
 obtain⟨hc1,hf1⟩:=fq hb1
 have hw1:=az hw0 hb1
 have OK1:=bg hok1;have X1:=ae hx1;have HB1:=ae hb1;have HW1:=ae hw1
 clear hok1 hx1 hb1 hw1
 go_wp2_with fail
 refine((aa HD) _ (aa HW1)).mono ?_
 rintro e W2 ⟨A9,c9,l9,m9,rfl,f9,hb2⟩
 have F9:=ae f9
 clear f9
 have hb2':=az (aa HB1) hb2
 obtain⟨hc2,hf2⟩:=fq hb2'
 have hw2:=az hw0 hb2'
 have HB2:=ae hb2';have HW2:=ae hw2
 clear hb2 hb2' hw2 hc1 hf1
 go_wp2_with fail
 refine((aa HS2) A9 c9 l9 m9 _ (aa F9)).mono ?_
 rintro e W3 ⟨x2,ok2,rfl,hok2,hx2,hb3⟩
 have acn:=az (aa HB2) hb3
 obtain⟨hc3,hf3⟩:=fq acn
 have hw3:=az hw0 acn
 have OK2:=bg hok2;have X2:=ae hx2;have HW3:=ae hw3
 have hg9 : ∀ u0 u1:Vq,Below w.heap.size w ((W3.setCell ⟨w.heap.size+1,0,none⟩ u0).setCell ⟨w.heap.size+1,1,none⟩ u1):=fun u0 u1=>hw3.grown (qa _ _ _ _) hw3.size (fun k hk=>by injection hk with hk;omega)
 have HG9:=ae hg9
 clear hok2 hx2 hb3 acn hw3 hc2 hf2 hg9 zf HS2 HD HB1 HB2 HW1 HW2
 cases ok1<;>cases ok2
 ·
  have hn : ¬ uw q:=fun h=>by have:=(aa HT).2.1 h;have h2:=Uv OK1.out.symm;omega
  have HN:=bg ((aa HT).1.2 hn);clear hn;go_wp2_with fail;exact bodyPost_ret (v := .tuple #[.agg #[.int .i64 0,.int .i64 0],.bool false]) (by simp[results,results125,go_sem,hc3,p0,p1,q1]) rfl ⟨0,0,false,rfl,(aa HG9) _ _,.inr ⟨rfl,HN.out⟩⟩
 ·
  have hn : ¬ uw q:=fun h=>by have:=(aa HT).2.1 h;have h2:=Uv OK1.out.symm;omega
  have HN:=bg ((aa HT).1.2 hn);clear hn;go_wp2_with fail;exact bodyPost_ret (v := .tuple #[.agg #[.int .i64 0,.int .i64 0],.bool false]) (by simp[results,results125,go_sem,hc3,p0,p1,q1]) rfl ⟨0,0,false,rfl,(aa HG9) _ _,.inr ⟨rfl,HN.out⟩⟩
 ·
  have hn : ¬ uw q:=fun h=>by have:=(aa HT).2.1 h;have h2:=Uv OK2.out.symm;omega
  have HN:=bg ((aa HT).1.2 hn);clear hn;go_wp2_with fail;exact bodyPost_ret (v := .tuple #[.agg #[.int .i64 0,.int .i64 0],.bool false]) (by simp[results,results125,go_sem,hc3,p0,p1,q1]) rfl ⟨0,0,false,rfl,(aa HG9) _ _,.inr ⟨rfl,HN.out⟩⟩
 ·
  have e1:=(aa X1) rfl;have e2:=(aa X2) rfl;subst e1 e2
  by_cases hfit:uw q
  ·
   have HN:=bg ((aa HT).1.1 hfit);obtain⟨a1,a2⟩:=(aa HT).2.1 hfit;have d1:decide (q.num < -1000000000000)=false:=dw om;have d2:decide (1000000000000<q.num)=false:=dw om;have d3:decide ((1000000000000:Int)<(q.den:Int))=false:=dw om;clear hfit;go_wp2_with fail
   all_goals first|omega|skip
   exact bodyPost_ret (v := .tuple #[.agg #[.int .i64 q.num,.int .i64 q.den],.bool true]) (by simp[results,results125,go_sem,hc3,p0,p1,q1]) rfl ⟨q.num,q.den,true,rfl,(aa HG9) _ _,.inl ⟨rfl,HN.out⟩⟩
  ·
   have HN:=bg ((aa HT).1.2 hfit);have hor:q.num < -1000000000000∨1000000000000<q.num∨(1000000000000:Int)<(q.den:Int):=by
    have h1:=(aa HT).2.2
    by_cases a:q.num < -1000000000000
    ·
     exact .inl a
    by_cases b:1000000000000<q.num
    ·
     exact .inr (.inl b)
    by_cases c:(1000000000000:Int)<(q.den:Int)
    ·
     exact .inr (.inr c)
    exact absurd (h1 ⟨by omega,by omega⟩) hfit
   clear hfit;go_wp2_with fail
   all_goals first|omega|skip
   all_goals exact bodyPost_ret (v := .tuple #[.agg #[.int .i64 0,.int .i64 0],.bool false]) (by simp[results,results125,go_sem,hc3,p0,p1,q1]) rfl ⟨0,0,false,rfl,(aa HG9) _ _,.inr ⟨rfl,HN.out⟩⟩

namespace Sb
theorem ail (h:bz [.r x] W v) : ∃ A1 c1 l1 m1 A2 c2 l2 m2,v = .agg #[.slice A1 (List.length l1) c1,.bool m1,.slice A2 (List.length l2) c2,.bool m2]∧QV W A1 c1 l1 m1 A2 c2 l2 m2 x:=by
 obtain⟨cs,rfl,h⟩:=h
 obtain⟨A1,c1,l1,m1,A2,c2,l2,m2,r,rfl,h1,h⟩:=h.bay
 cases h
 exact⟨_,_,_,_,_,_,_,_,rfl,h1⟩
theorem blj (h:bz [.r x] W v):Ra x W v:=by
 obtain⟨A1,c1,l1,m1,A2,c2,l2,m2,rfl,h1⟩:=ail h
 exact⟨_,_,_,_,_,_,_,_,rfl,h1⟩
theorem cnc (h:Ra x W v):bz [.r x] W v:=by
 obtain⟨A1,c1,l1,m1,A2,c2,l2,m2,rfl,h1⟩:=h
 exact⟨_,rfl,gy.r h1 rfl⟩
theorem ato {w:Wq} {e:Ending} (h:gp (Ra q) w e w'):gp (bz [.r q]) w e w':=by
 obtain⟨u,h1,h2,h3⟩:=h
 exact⟨u,h1,h2,cnc h3⟩
def Ad (K:Nat) (x:Rat):Prop:=Bt dz K x∧K≤1000000
theorem afe (ok:qi n d):Ad 2 (jw n d):=⟨cei ok,by omega⟩
def Wm:Wq→Vq→Prop:=fun W v => ∃ n d:Int,bz [.v (.int .i64 n),.v (.int .i64 d)] W v
theorem Wy:yu il Wm:=fun w w' v hb ⟨n,d,h⟩=>⟨n,d,Ae _ _ _ _ hb h⟩
variable {W:Wq} {v0 v1:Vq} {x y:Rat} {K:Nat}
theorem bma (hx:Ad K x) (hy:Ad K y) (h0:bz [.r x] W v0) (h1:bz [.r y] W v1):Calls prog 62 #[v0,v1] W (gp (bz [.r (x*y)]) W) :=
 (Go.Proofs.YtfgeaakhlcaibaaGreatDoor.aih hx.1 hy.1 (by have:=hx.2;omega) W v0 v1 (blj h0) (blj h1)).mono fun e w' h=>ato h
theorem bwb (h0:bz [.v (.int .i64 n),.v (.int .i64 d)] W v0):Calls prog 70 #[v0] W (gp (ax (.bool (decide (qi n d)))) W):=by
 rw[afu h0]
 exact(ccr n d W).mono fun e w' h=>bfg h
theorem apj (hf:uw x) (h0:bz [.r x] W v0):Calls prog 125 #[v0] W (gp (ko [bz [.v (.int .i64 x.num),.v (.int .i64 (x.den:Int))],ax (.bool true)]) W):=by
 obtain⟨A1,c1,l1,m1,A2,c2,l2,m2,rfl,h1⟩:=ail h0
 refine(axm A1 c1 l1 m1 A2 c2 l2 m2 x W h1).mono fun e w' ⟨n,d,ok,he,hb,hc⟩ => ?_
 have ht:jf x=⟨x.num,x.den,0⟩:=if_pos hf
 rw[ht]at hc
 rcases hc with⟨rfl,h2⟩|⟨_,h2⟩
 ·
  injection h2 with e1 e2 e3;subst e1 e2;exact⟨_,he,hb,[_,_],rfl,_,_,rfl,Gw _ _ _,_,_,rfl,rfl,rfl⟩
 ·
  injection h2 with e1 e2 e3;omega
theorem bcu (hf : ¬ uw x) (h0:bz [.r x] W v0):Calls prog 125 #[v0] W (gp (ko [Wm,ax (.bool false)]) W):=by
 obtain⟨A1,c1,l1,m1,A2,c2,l2,m2,rfl,h1⟩:=ail h0
 refine(axm A1 c1 l1 m1 A2 c2 l2 m2 x W h1).mono fun e w' ⟨n,d,ok,he,hb,hc⟩ => ?_
 have ht:jf x=⟨0,0,3⟩:=if_neg hf
 rw[ht]at hc
 rcases hc with⟨_,h2⟩|⟨rfl,h2⟩
 ·
  injection h2 with e1 e2 e3;omega
 ·
  exact⟨_,he,hb,[_,_],rfl,_,_,rfl,⟨n,d,Gw _ _ _⟩,_,_,rfl,rfl,rfl⟩
theorem Zn:1<dz:=by rw[fu];omega
theorem ahb (hd:d≠0) (hn:je dz K n) (hdd:je dz K d):Bt dz K (Rat.divInt n d):=by
 obtain⟨h1,h2⟩:=Lg n d hd
 exact⟨by rw[h1];exact hn.tdiv _,by rw[h2];exact hdd.tdiv _⟩
theorem Ad.mono (h:Ad K x) (hk:K≤L) (hl:L≤1000000):Ad L x:=⟨⟨h.1.1.mono Zn hk,h.1.2.mono Zn hk⟩,hl⟩
theorem Ad.mul (hx:Ad K x) (hy:Ad K y) (h:K+K≤1000000):Ad (K+K) (x*y):=by
 refine⟨?_,h⟩
 rw[acx]
 have d1:=x.den_nz;have d2:=y.den_nz
 exact ahb (agn om om) (hx.1.1.mul hy.1.1) (hx.1.2.mul hy.1.2)
theorem Ad.add (hx:Ad K x) (hy:Ad K y) (h:K+K+1≤1000000):Ad (K+K+1) (x+y):=by
 refine⟨?_,h⟩
 rw[aqr]
 have d1:=x.den_nz;have d2:=y.den_nz
 exact ahb (agn om om) ((hx.1.1.mul hy.1.2).add Zn (hy.1.1.mul hx.1.2)) ((hx.1.2.mul hy.1.2).mono Zn om)
theorem Ad.neg (hx:Ad K x):Ad K (-x):=⟨⟨by rw[ajm];exact hx.1.1.neg,by rw[ajn];exact hx.1.2⟩,hx.2⟩
theorem Ad.sub (hx:Ad K x) (hy:Ad K y) (h:K+K+1≤1000000):Ad (K+K+1) (x-y):=by rw[Rat.sub_eq_add_neg];exact hx.add hy.neg h
theorem Ad.inv (hx:Ad K x) (h0:x.num≠0):Ad K (x⁻¹):=by
 have hp:=acy x h0
 refine⟨?_,hx.2⟩
 by_cases hn:x.num<0
 ·
  exact⟨by rw[(hp.1 hn).1];exact hx.1.2.neg,by rw[(hp.1 hn).2];exact hx.1.1.neg⟩
 ·
  exact⟨by rw[(hp.2 hn).1];exact hx.1.2,by rw[(hp.2 hn).2];exact hx.1.1⟩
theorem cmo (h:je dz (K+1) z) (hK:K+1≤1000000):Ad (K+1) (Rat.divInt z 1):=⟨ahb (by omega) h (je.of_le (by rw[fu];omega) Zn om),hK⟩
section
variable {W:Wq} {v0 v1:Vq} {x y:Rat} {K:Nat}
theorem bay (hx:Ad (K+1) x) (hn:x.num≠0) (h0:bz [.r x] W v0):Calls prog 90 #[v0] W (gp (bz [.r (x⁻¹)]) W):=by
 obtain⟨A1,c1,l1,m1,A2,c2,l2,m2,rfl,h1⟩:=ail h0
 refine(bpe (K+1) A1 c1 l1 m1 A2 c2 l2 m2 x W h1 hx.1 om (by have:=hx.2;omega) hn).mono fun e w' h => ?_
 have h2:=ato (att h)
 rwa[Rat.div_def,show Rat.divInt 1 1=1 from rfl,Rat.one_mul]at h2
theorem atr (n:Int) (b1 : -9223372036854775808≤n) (b2:n≤9223372036854775807) (W:Wq):Calls prog 95 #[.int .i64 n] W (gp (bz [.r (Rat.divInt n 1)]) W) :=
 (Go.Proofs.YtfgeaakhlcaibaaGreatDoor.cnp n b1 b2 W).mono fun e w' h=>ato h
end
end Sb




structure NbW (w wr:Wq) (b0 b1 l0 l1:Int):Prop where
 below:Below w.heap.size w wr
 x:wr.heap[w.heap.size]? = some (.cells #[.int .i64 22,.int .i64 7] 23 (0,0))
 lo:wr.heap[w.heap.size+1]? = some (.cells #[.int .i64 0,.int .i64 0] 23 (0,0))
 hi:wr.heap[w.heap.size+2]? = some (.cells #[.int .i64 0,.int .i64 0] 23 (0,0))
 bef:wr.heap[w.heap.size+3]? = some (.cells #[.int .i64 b0,.int .i64 b1] 23 (0,0))
 last:wr.heap[w.heap.size+4]? = some (.cells #[.int .i64 l0,.int .i64 l1] 23 (0,0))
theorem NbW.step {w:Wq} {l1:Int} (h:NbW w wr b0 b1 l0 l1) (hb:Below wr.heap.size wr w'):NbW w w' b0 b1 l0 l1 :=
 ⟨az h.below hb,(hb.block _ (lt_of_block h.x)).trans h.x,(hb.block _ (lt_of_block h.lo)).trans h.lo,(hb.block _ (lt_of_block h.hi)).trans h.hi,(hb.block _ (lt_of_block h.bef)).trans h.bef,(hb.block _ (lt_of_block h.last)).trans h.last⟩
theorem NbW.set {w:Wq} {l1:Int} (h:NbW w wr b0 b1 l0 l1) (u0 u1 v0 v1:Int) :
  NbW w ((((wr.setCell ⟨w.heap.size+3,0,none⟩ (.int .i64 u0)).setCell ⟨w.heap.size+3,1,none⟩ (.int .i64 u1)).setCell ⟨w.heap.size+4,0,none⟩ (.int .i64 v0)).setCell ⟨w.heap.size+4,1,none⟩ (.int .i64 v1)) u0 u1 v0 v1:=by
 have g1:=qa wr (w.heap.size+3) (.int .i64 u0) (.int .i64 u1)
 have g2:=qa ((wr.setCell ⟨w.heap.size+3,0,none⟩ (.int .i64 u0)).setCell ⟨w.heap.size+3,1,none⟩ (.int .i64 u1)) (w.heap.size+4) (.int .i64 v0) (.int .i64 v1)
 have s1:=g1.size
 have old : ∀ k,k<w.heap.size+3→((((wr.setCell ⟨w.heap.size+3,0,none⟩ (.int .i64 u0)).setCell ⟨w.heap.size+3,1,none⟩ (.int .i64 u1)).setCell ⟨w.heap.size+4,0,none⟩ (.int .i64 v0)).setCell ⟨w.heap.size+4,1,none⟩ (.int .i64 v1)).heap[k]? = wr.heap[k]? := fun k hk=>by
  have hl:=lt_of_block h.last;exact(g2.block k om (fun e=>by injection e with e;omega)).trans (g1.block k om (fun e=>by injection e with e;omega))
 have hl:=lt_of_block h.last
 have e1:=ahe (u0 := .int .i64 u0) (u1 := .int .i64 u1) h.bef
 refine⟨(h.below.grown g1 h.below.size (fun k hk=>by injection hk with hk;omega)).grown g2 (by have:=h.below.size;omega) (fun k hk=>by injection hk with hk;omega),(old _ om).trans h.x,(old _ om).trans h.lo,(old _ om).trans h.hi,?_,?_⟩
 ·
  exact(g2.block _ (lt_of_block e1) (fun e=>by injection e with e;omega)).trans e1
 ·
  exact ahe ((g1.block _ hl (fun e=>by injection e with e;omega)).trans h.last)

structure IQ (w:Wq) (s1a:Int) (bbb:Bool) (Jp:Option Addr) (c1a:Nat) (Jl:List Nat) (s1b:Int) (bba:Bool) (Kj:Option Addr) (Ke:Nat) (Kc:List Nat) (q:Rat):Prop where
 n:iy w s1a bbb Jp c1a Jl q.num
 d:iy w s1b bba Kj Ke Kc (q.den:Int)
theorem IQ.below {w:Wq} {s1a:Int} {bbb:Bool} {Jp:Option Addr} {c1a:Nat} {Jl:List Nat} {s1b:Int} {bba:Bool} {Kj:Option Addr} {Ke:Nat} {Kc:List Nat} (h:IQ w s1a bbb Jp c1a Jl s1b bba Kj Ke Kc q) (hb:Below w.heap.size w w'):IQ w' s1a bbb Jp c1a Jl s1b bba Kj Ke Kc q:=⟨h.n.below hb,h.d.below hb⟩
theorem blp {a0 a1 a2 a3 a4 a5 u4 u5:Vq} {T:TypeId} (h:W.heap[b]? = some (.cells #[a0,a1,a2,a3,a4,a5] T (0,0))):((((((W.setCell ⟨b,0,none⟩ u0).setCell ⟨b,1,none⟩ u1).setCell ⟨b,2,none⟩ u2).setCell ⟨b,3,none⟩ u3).setCell ⟨b,4,none⟩ u4).setCell ⟨b,5,none⟩ u5).heap[b]? = some (.cells #[u0,u1,u2,u3,u4,u5] T (0,0)):=by
 simp[World.setCell,avs,h]

namespace Sb
section
variable {W:Wq} {v0 v1:Vq} {K:Nat}
end
theorem cno (h:x.num≠0) (h0:bz [.q x] W v0):Calls prog 94 #[v0] W (gp (bz [.q (x⁻¹)]) W):=cbi (biw W x h) h0
theorem Sm.sub (hx:Sm K x) (hy:Sm K y) (h:K+K+1≤1000000) (w:Wq) (hT:yg w):Sm (K+K+1) (x-y):=⟨(cee hT x y hx.1 hy.1 (by have:=abh;omega)).2,h⟩
theorem Sm.inv (hx:Sm K x) (h:x.num≠0):Sm K (x⁻¹):=⟨hx.1.inv h,hx.2⟩
end Sb


namespace Sb
def Li (f:Nat→Int):Prop := ∀ j,j<7 → -9≤f j∧f j≤9
instance (f:Nat→Int):Decidable (Li f):=by unfold Li;infer_instance
theorem bfo (z:Int) (w:Wq):Calls prog 167 #[.int .i64 z] w (gp (ax (.bool (decide (z < -9∨9<z)))) w):=by
 obtain⟨o,ho⟩ : ∃ o,o=decide (z < -9∨9<z):=⟨_,rfl⟩
 rw[← ho]
 have HR:=ae ho
 clear ho
 go_enter func167,ntmps167
 go_upto_region 1 with fail
 have hO:=(Own.nil w)
 have HO:=ae hO
 clear hO
 by_cases g1:z < -9
 ·
  have k1:decide (z < -9)=true:=dm g1;have hr:o=true:=by rw[aa HR];exact dm om
  subst hr;go_upto_region 1 with fail;refine fw 7 [_,_,_,_,_,_,_] [] HO (dh aF (au (wu rfl (aT 0) (fe _) rfl k1) (dh (aT 1) (ve (ve (au (qj rfl (aT 2) (fe _)) (Ak (aT 5) ai))))))) ?_
  intro v1 V1 hG1 hv1 hne1;simp only[ay,Act.put,tA,exv (hv1 5 de),exv (hv1 6 de)];replace HO:=ae hG1.1;clear hG1 hv1 hne1;go_wp2_with fail;exact Ka results167 rfl (aa HO).bel rfl
 ·
  by_cases g2:9<z
  ·
   have k1:decide (z < -9)=false:=dw g1;have k2:decide (9<z)=true:=dm g2;have hr:o=true:=by rw[aa HR];exact dm om
   subst hr;go_upto_region 1 with fail;refine fw 7 [_,_,_,_,_,_,_] [] HO (dh aF (au (wu rfl (aT 0) (fe _) rfl k1) (dh (aT 1) (ku (jh rfl aF) (ku (Lp rfl (aT 3) (fe _) rfl k2) (au (mh rfl (aT 2) (aT 4)) (Ak (aT 5) ai))))))) ?_
   intro v1 V1 hG1 hv1 hne1;simp only[ay,Act.put,tA,exv (hv1 5 de),exv (hv1 6 de)];replace HO:=ae hG1.1;clear hG1 hv1 hne1;go_wp2_with fail;exact Ka results167 rfl (aa HO).bel rfl
  ·
   have k1:decide (z < -9)=false:=dw g1;have k2:decide (9<z)=false:=dw g2;have hr:o=false:=by rw[aa HR];exact dw om
   subst hr;go_upto_region 1 with fail;refine fw 7 [_,_,_,_,_,_,_] [] HO (dh aF (au (wu rfl (aT 0) (fe _) rfl k1) (dh (aT 1) (ku (jh rfl aF) (ku (Lp rfl (aT 3) (fe _) rfl k2) (au (mh rfl (aT 2) (aT 4)) (Ak (aT 5) ai))))))) ?_
   intro v1 V1 hG1 hv1 hne1;simp only[ay,Act.put,tA,exv (hv1 5 de),exv (hv1 6 de)];replace HO:=ae hG1.1;clear hG1 hv1 hne1;go_wp2_with fail;exact Ka results167 rfl (aa HO).bel rfl
theorem byp {post:List lg} {b0:Nat} (o:Int) (w:Wq) (hb:zn w b0 TB (.k (eK f)::post))
  (ho:((∀ j,j<7 → -9≤f j∧f j≤9)→o = -1)∧(∀ k:Nat,k<7→(f k < -9∨9<f k)→(∀ j,j<k → -9≤f j∧f j≤9)→o=(k:Int))) :
  Calls prog 204 #[.slice (some ⟨b0,0,none⟩) 7 7,.func (.func 167) #[] #[]] w (gp (ax (.int .i64 o)) w):=by
 have HB:=ae hb
 have HR:=ae ho
 clear hb ho
 go_enter func204,ntmps204
 go_upto_region 1 with fail
 have hO:=(Own.nil w)
 have HO:=ae hO
 clear hO
 go_wp2_with fail
 go_loopw [8] (fun vk wr => ∃ k:Nat,k≤7∧vk = .int .i64 ((k:Nat):Int)∧(∀ j,j<k → -9≤f j∧f j≤9)∧Hid (Own w [] wr)) (fun vk _=>7-(intOf vk).toNat)
 case atStart=>exact⟨0,by omega,rfl,(by intro j hj;omega),HO⟩
 case round =>
  obtain⟨k,hk,rfl,hall,HO⟩:=hrel;have HK:=ae hk;have HAL:=ae hall;clear hk hall
  by_cases g1:k<7
  ·
   have d1:decide ((k:Int)<7)=true:=dm om;have Bv:=ae g1;clear g1;go_upto_region 2 with fail;refine fw 1 [_] [] HO (au (wu rfl aF aF rfl d1) ai) ?_
   intro v1 V1 hG1 hv1 hne1;simp only[ay,Act.put,tA,exv (hv1 0 de)];replace HO:=ae hG1.1;clear hG1 hv1 hne1;clear d1;go_upto_region 3 with fail;refine fw 2 [_,_] [] HO (dh aF (Ak (aT 0) ai)) ?_
   intro v2 V2 hG2 hv2 hne2;simp only[ay,Act.put,tA,show v2 0 = .int .i64 (k:Int)from hv2 0 de,show v2 1 = .int .i64 (k:Int)from hv2 1 de];replace HO:=ae hG2.1;clear hG2 hv2 hne2
   by_cases g2:f k < -9∨9<f k
   ·
    have k2:decide (f k < -9∨9<f k)=true:=dm g2;go_upto_region 4 with fail;refine fw 6 [_,_,_,_,_,_] [] HO (dh aF (dh aF (dh aF (au (bqf (i:=k) (m:=7) rfl (aT 1) (aT 2) (aa Bv) (by simp;rfl)) (au (bzw (f:=f) (b:=b0) (TB:=TB) (post:=post) (fun W h=>(aa HB).below h.1.bel) rfl (aT 3) (aa Bv) rfl) (au (bco func167 kr rfl iw.step (aT 0) (aT 4) (fun W v0 hG h0=>by cases h0;exact k2 ▸ bfo _ W)) ai)))))) ?_
    intro v3 V3 hG3 hv3 ji;simp only[ay,Act.put,tA,exv (hv3 5 de)];replace HO:=ae hG3.1;clear hG3 hv3 ji;clear k2;have hr:o=(k:Int):=(aa HR).2 k (aa Bv) g2 (aa HAL);subst hr;go_upto_region 5 with fail;refine fw 2 [_,_] [] HO (dh aF (Ak (aT 0) ai)) ?_
    intro v4 V4 hG4 hv4 ma;simp only[ay,Act.put,tA,show v4 0 = .int .i64 (k:Int)from hv4 0 de,show v4 1 = .int .i64 (k:Int)from hv4 1 de];replace HO:=ae hG4.1;clear hG4 hv4 ma;go_wp2_with fail;exact Ka results204 rfl (aa HO).bel rfl
   ·
    have k2:decide (f k < -9∨9<f k)=false:=dw g2;go_upto_region 4 with fail;refine fw 6 [_,_,_,_,_,_] [] HO (dh aF (dh aF (dh aF (au (bqf (i:=k) (m:=7) rfl (aT 1) (aT 2) (aa Bv) (by simp;rfl)) (au (bzw (f:=f) (b:=b0) (TB:=TB) (post:=post) (fun W h=>(aa HB).below h.1.bel) rfl (aT 3) (aa Bv) rfl) (au (bco func167 kr rfl iw.step (aT 0) (aT 4) (fun W v0 hG h0=>by cases h0;exact k2 ▸ bfo _ W)) ai)))))) ?_
    intro v3 V3 hG3 hv3 ji;simp only[ay,Act.put,tA,exv (hv3 5 de)];replace HO:=ae hG3.1;clear hG3 hv3 ji;clear k2;have HN:=ae (show ∀ j,j<k+1 → -9≤f j∧f j≤9 from fun j hj=>by
     rcases ajr.1 hj with h|rfl
     ·
      exact(aa HAL) j h
     ·
      omega)
    clear g2;go_wp2_with fail
    go_roundw
    case rel =>
     exact⟨k+1,by have:=aa Bv;omega,He (aa Bv) om,aa HN,HO⟩
    case measure =>
     have h1:=aa Bv;clear HO;rw[Ih h1 om];exact measS h1
  ·
   obtain rfl:k=7:=by have:=aa HK;omega
   have hr:o = -1:=(aa HR).1 (aa HAL);subst hr;clear g1;go_upto_region 2 with fail;refine fw 1 [_] [] HO (au (wu rfl aF aF rfl rfl) ai) ?_
   intro v1 V1 hG1 hv1 hne1;simp only[ay,Act.put,tA,exv (hv1 0 de)];replace HO:=ae hG1.1;clear hG1 hv1 hne1;go_upto_region 7 with fail;refine fw 1 [_] [] HO (Ak (fe _) ai) ?_
   intro v2 V2 hG2 hv2 hne2;simp only[ay,Act.put,tA,show v2 0 = .int .i64 (-1)from hv2 0 de];replace HO:=ae hG2.1;clear hG2 hv2 hne2;go_wp2_with fail;exact Ka results204 rfl (aa HO).bel rfl
theorem ckd (f:Nat→Int) : ∃ o:Int,(((∀ j,j<7 → -9≤f j∧f j≤9)→o = -1)∧(∀ k:Nat,k<7→(f k < -9∨9<f k)→(∀ j,j<k → -9≤f j∧f j≤9)→o=(k:Int)))∧decide (0≤o)=decide (¬ Li f):=by
 by_cases h:Li f
 ·
  exact⟨-1,⟨fun _=>rfl,fun k hk hb _=>by have:=h k hk;omega⟩,by rw[dw (fun hn : ¬ Li f=>hn h)];rfl⟩
 ·
  have hex : ∃ k,k<7∧(f k < -9∨9<f k) ∧ ∀ j,j<k → -9≤f j∧f j≤9:=by
   have key : ∀ n,n≤7→(∀ j,j<n → -9≤f j∧f j≤9) ∨ ∃ k,k<7∧(f k < -9∨9<f k) ∧ ∀ j,j<k → -9≤f j∧f j≤9:=by
    intro n
    induction n with
    | zero=>exact fun _ => .inl (by intro j hj;omega)
    | succ n ih =>
     intro hn
     rcases ih om with h1|h1
     ·
      by_cases h2 : -9≤f n∧f n≤9
      ·
       exact .inl fun j hj=>by
        rcases ajr.1 hj with h3|rfl
        ·
         exact h1 j h3
        ·
         exact h2
      ·
       exact .inr ⟨n,by omega,by omega,h1⟩
     ·
      exact .inr h1
   rcases key 7 om with h1|h1
   ·
    exact absurd h1 h
   ·
    exact h1
  obtain⟨k,hk,hb,ha⟩:=hex;refine⟨(k:Int),⟨fun h1=>absurd h1 h,fun k' hk' hb' ha' => ?_⟩,by rw[dm om,dm h]⟩
  rcases Nat.lt_trichotomy k k' with h1|h1|h1
  ·
   have:=ha' k h1;omega
  ·
   rw[h1]
  ·
   have:=ha k' h1;omega
theorem bnt {post:List lg} {b0:Nat} (c:Bool) (w:Wq) (hb:zn w b0 TB (.k (eK f)::post)) (hc:decide (¬ Li f)=c) :
  Calls prog 168 #[.slice (some ⟨b0,0,none⟩) 7 7,.func (.func 167) #[] #[]] w (gp (ax (.bool c)) w):=by
 obtain⟨o,hr,hd⟩:=ckd f
 rw[hc]at hd
 have HB:=ae hb
 have HR:=ae hr
 have HC:=ae hd
 clear hb hr hc hd
 go_enter func168,ntmps168
 go_upto_region 1 with fail
 have hO:=(Own.nil w)
 have HO:=ae hO
 clear hO
 refine fw 5 [_,_,_,_,_] [] HO (dh aF (dh aF (au (sc2 func204 (aT 0) (aT 1) (fun W v0 v1 hG h0 h1=>by cases h0;cases h1;exact byp o W ((aa HB).below hG.bel) (aa HR))) (au (cms rfl (aT 2) (fe _) rfl (aa HC)) (Ak (aT 3) ai))))) ?_
 intro v1 V1 hG1 hv1 hne1
 simp only[ay,Act.put,tA,show v1 3 = .bool c from hv1 3 de,show v1 4 = .bool c from hv1 4 de]
 replace HO:=ae hG1.1
 clear hG1 hv1 hne1
 go_wp2_with fail
 exact Ka results168 rfl (aa HO).bel rfl
theorem bns (d:Bool) (w:Wq) (u0:Vq) (h0:bz [.k (eK f)] w u0) (hd:decide (Li f)=d) :
  Calls prog 96 #[u0] w (gp (ax (.bool d)) w):=by
 obtain⟨c,hc⟩ : ∃ c,decide (¬ Li f)=c:=⟨_,rfl⟩
 have HC:=ae hc
 have HD:=ae (show(!c)=d by rw[← hc,← hd,decide_not,Bool.not_not])
 clear hc hd
 have hu0:=cns h0
 subst hu0
 go_enter func96,ntmps96
 go_upto_region 1 with fail
 have hO:=(Own.push (T:=42) (ls:=[.k (eK f)]) (Own.nil w) (gy.e rfl) (w.heap.size) rfl)
 generalize w.alloc (.cells #[.int .i64 (f 0),.int .i64 (f 1),.int .i64 (f 2),.int .i64 (f 3),.int .i64 (f 4),.int .i64 (f 5),.int .i64 (f 6)] 42)=W0 at *
 have HO:=ae hO
 clear hO
 go_upto_region 2 with fail
 refine fw 5 [_,_,_,_,_] [] HO (au (bvg (b:=w.heap.size) (f:=f) (post:=[]) (fun W h=>iw.box me0 h) rfl aF rfl) (dh aF (au (sc2 func168 (aT 0) (aT 1) (fun W v0 v1 hG h0 h1=>by cases h0;cases h1;exact bnt c W (iw.box me0 hG) (aa HC))) (au (tq rfl (aT 2) rfl (aa HD)) (Ak (aT 3) ai))))) ?_
 intro v1 V1 hG1 hv1 hne1
 simp only[ay,Act.put,tA,show v1 3 = .bool d from hv1 3 de,show v1 4 = .bool d from hv1 4 de]
 replace HO:=ae hG1.1
 clear hG1 hv1 hne1
 go_wp2_with fail
 exact Ka results96 rfl (aa HO).bel rfl
end Sb


namespace Sb
theorem aba {B:Nat} (hB:1<B) (h:je B K z) : ∀ n:Nat,je B (K*n+1) (z^n)
 | 0=>by rw[bak];exact je.of_le (by show 1<B;omega) hB om
 | n+1=>by
  have:=(aba hB h n).mul h;rw[bal,Nat.mul_succ,bbl];exact this
theorem axv (x:Rat) (m:Nat):x^(m+1)=x^m*x:=Rat.pow_succ x m
theorem axu (x:Rat):x^0=1:=Rat.pow_zero x
theorem Xb (x:Rat) (m:Nat):(x^m).num=x.num^m∧((x^m).den:Int)=(x.den:Int)^m:=⟨rfl,Int.natCast_pow _ _⟩
theorem Sm.pow (h:Sm K x) (m:Nat) (hm:K*m+1≤1000000):Sm (K*m+1) (x^m) :=
 ⟨⟨by rw[(Xb x m).1];exact aba zg h.1.1 m,by rw[(Xb x m).2];exact aba zg h.1.2 m⟩,hm⟩
theorem Ad.pow (h:Ad K x) (m:Nat) (hm:K*m+1≤1000000):Ad (K*m+1) (x^m) :=
 ⟨⟨by rw[(Xb x m).1];exact aba Zn h.1.1 m,by rw[(Xb x m).2];exact aba Zn h.1.2 m⟩,hm⟩
theorem chm {a b:Rat} (e:a=b) (h:Calls prog F vs W (gp (bz [.r a]) W)):Calls prog F vs W (gp (bz [.r b]) W):=e ▸ h
theorem cqn {b:Int} (e:a=b) (h:Calls prog F vs W (gp (bz [.z a]) W)):Calls prog F vs W (gp (bz [.z b]) W):=e ▸ h
theorem cqm (h:bz [.z x.num,.z (x.den:Int)] W v):bz [.q x] W v:=by
 obtain⟨s1,n1,A1,c1,l1,s2,n2,A2,c2,l2,rfl,f1,f2⟩:=acv h
 exact⟨_,rfl,gy.q f1 f2 rfl⟩
theorem cgb {w:Wq} {e:Ending} (h:gp (bz [.z q.num,.z (q.den:Int)]) w e w'):gp (bz [.q q]) w e w':=by
 obtain⟨u,h1,h2,h3⟩:=h
 exact⟨u,h1,h2,cqm h3⟩
theorem kle (h:K*m+1≤1000000) (hk:k<m):K≤K*m+1:=by
 have:K*1≤K*m:=Bo K om
 omega
theorem btl {x:Int} (sx:je eu K x) (hK:K*m+1≤1000000) (hm:m≤1000000) (w:Wq) (u0:Vq) (h0:bz [.z x] w u0) :
  Calls prog 139 #[u0,.int .i64 (m:Int)] w (gp (bz [.z (x^m)]) w):=by
 have HS:=ae (And.intro sx (And.intro hK hm))
 clear sx hK hm
 obtain⟨Vf,Ma,Ig,c0a,Hz,rfl,f0a⟩:=auy h0
 go_enter func139,ntmps139
 go_upto_region 1 with fail
 have hO:=(Own.push (T:=77) (ls:=zZ) (Own.push (T:=77) (ls:=[.z x]) (Own.nil w) (gy.z f0a rfl) (w.heap.size) rfl) (gy.below (by repeat (first|exact df _ _|refine ic ?_ _)) (gy.vs w [.int .i64 0,.bool false,.slice none 0 0] rfl)) (w.heap.size+1) (by simp only[yw]))
 generalize (w.alloc (.cells #[.int .i64 Vf,.bool Ma,.slice Ig (List.length Hz) c0a] 77)).alloc (.cells #[.int .i64 0,.bool false,.slice none 0 0] 77)=W0 at *
 have HO:=ae hO
 clear hO
 refine fw 2 [bz [.z (x^0)],qw 77 zZ W0.heap.size] [1] HO (au (sc1 func137 (fe _) (fun W v0 hG h0=>by cases h0;exact cqn (by rw[bak]) (ckq 1 om om W))) (Am adr ai)) ?_
 intro v1 V1 hG1 hv1 hne1
 obtain⟨csw,e1,Zr,hz1⟩:=(show qw 77 zZ W0.heap.size V1 (v1 1)from hv1 1 de)
 simp only[ay,Act.put,tA,e1]
 have hO:=hG1.1
 replace hO:=Own.add (aa HO) hG1.2 Zr hz1
 clear Zr hz1
 refine kg hO 0 Oj (hv1 0 de) ?_
 clear hO
 intro Ep hO hk0
 replace HO:=ae hO
 clear hO hG1 hv1 hne1 hk0
 try clear e1
 go_upto_region 2 with fail
 refine fw 2 [_,_] [] HO (dh aF (dh (fe _) ai)) ?_
 intro v2 V2 hG2 hv2 hne2
 simp only[ay,Act.put,tA,show v2 0 = .int .i64 (m:Int)from hv2 0 de,exv (hv2 1 de)]
 replace HO:=ae hG2.1
 clear hG2 hv2 hne2
 go_wp2_with fail
 go_loopw [8] (fun vk wr => ∃ k:Nat,k≤m∧vk = .int .i64 ((k:Nat):Int)∧Hid (Own w [(csw,77,[.z (x^k)]),(w.heap.size+1,77,zZ),(w.heap.size,77,[.z x])] wr)) (fun vk _=>m-(intOf vk).toNat)
 case atStart=>exact⟨0,by omega,rfl,HO⟩
 case round =>
  obtain⟨k,hk,rfl,HO⟩:=hrel;have HK:=ae hk;clear hk
  by_cases g1:(k:Int)<(m:Int)
  ·
   have d1:decide ((k:Int)<(m:Int))=true:=dm g1;have qp:=ae (show k<m by omega);go_upto_region 3 with fail;refine fw 1 [_] [] HO (au (wu rfl aF aF rfl d1) ai) ?_
   intro v3 V3 hG3 hv3 ji;simp only[ay,Act.put,tA,exv (hv3 0 de)];replace HO:=ae hG3.1;clear hG3 hv3 ji;clear d1 g1;go_upto_region 4 with fail;refine fw 3 [_,_,_] [] HO (xh zq me0 aF (xh zq Ed aF (au (sc2 func147 (aT 0) (aT 1) (fun W v0 v1 hG h0 h1=>cks (afl (aba zg (aa HS).1 k |>.mono zg (aev (Bo K (aa HK)))) ((aa HS).1.mono zg (kle (aa HS).2.1 (aa qp))) (by have:=(aa HS).2.1;have:=abh;omega) (bal x k)) h0 h1)) ai))) ?_
   intro v4 V4 hG4 hv4 ma;simp only[ay,Act.put,tA];have hO:=hG4.1;refine kg hO 0 Oj (hv4 2 de) ?_
   clear hO;intro Dy hO hk0;replace HO:=ae hO;clear hO hG4 hv4 ma hk0;go_wp2_with fail
   go_roundw
   case rel =>
    exact⟨k+1,by have:=aa qp;omega,He (aa qp) (aa HS).2.2,HO⟩
   case measure =>
    have h1:=aa qp;have h2:=(aa HS).2.2;clear HO;rw[Ih h1 h2];exact measS h1
  ·
   have d1:decide ((k:Int)<(m:Int))=false:=dw g1;obtain rfl:k=m:=by have:=aa HK;omega
   go_upto_region 3 with fail;refine fw 1 [_] [] HO (au (wu rfl aF aF rfl d1) ai) ?_
   intro v3 V3 hG3 hv3 ji;simp only[ay,Act.put,tA,exv (hv3 0 de)];replace HO:=ae hG3.1;clear hG3 hv3 ji;clear d1 g1;go_upto_region 6 with fail;refine fw 1 [_] [] HO (xh zq me0 aF ai) ?_
   intro v4 V4 hG4 hv4 ma;simp only[ay,Act.put,tA];have hO:=hG4.1;refine kg hO 1 Oj (hv4 0 de) ?_
   clear hO;intro Dy hO hk0;replace HO:=ae hO;clear hO hG4 hv4 ma hk0;go_wp2_with fail;exact Ga results139 cem rfl (aa HO) uq rfl rfl
theorem bqx {q:Int} (sp:je eu K p) (sq:je eu K q) (hK:K*m+1≤1000000) (hm:m≤1000000) (w:Wq) (u0:Vq) (h0:bz [.z p,.z q] w u0) :
  Calls prog 68 #[u0,.int .i64 (m:Int)] w (gp (bz [.z (p^m),.z (q^m)]) w):=by
 have HS:=ae (And.intro sp (And.intro sq (And.intro hK hm)))
 clear sp sq hK hm
 obtain⟨Vf,Ma,Ig,c0a,Hz,Yq,Yx,Oi,c0b,Od,rfl,f0a,Oe⟩:=acv h0
 go_enter func68,ntmps68
 go_upto_region 1 with fail
 have hO:=(Own.push (T:=79) (ls:=zQ) (Own.push (T:=79) (ls:=[.z p,.z q]) (Own.nil w) (gy.z f0a (gy.z Oe rfl)) (w.heap.size) rfl) (gy.below (by repeat (first|exact df _ _|refine ic ?_ _)) (gy.vs w [.int .i64 0,.bool false,.slice none 0 0,.int .i64 0,.bool false,.slice none 0 0] rfl)) (w.heap.size+1) (by simp only[yw]))
 generalize (w.alloc (.cells #[.int .i64 Vf,.bool Ma,.slice Ig (List.length Hz) c0a,.int .i64 Yq,.bool Yx,.slice Oi (List.length Od) c0b] 79)).alloc (.cells #[.int .i64 0,.bool false,.slice none 0 0,.int .i64 0,.bool false,.slice none 0 0] 79)=W0 at *
 have HO:=ae hO
 clear hO
 have d1:decide ((m:Int)<0)=false:=dw om
 refine fw 2 [_,_] [] HO (dh aF (au (wu rfl (aT 0) (fe _) rfl d1) ai)) ?_
 intro v1 V1 hG1 hv1 hne1
 simp only[ay,Act.put,tA,exv (hv1 1 de)]
 replace HO:=ae hG1.1
 clear hG1 hv1 hne1
 clear d1
 go_upto_region 3 with fail
 refine Nw 9 [_,_,_,_,_,_,_,_,_] [] HO (au (Px (b:=w.heap.size) (off:=0) rfl aF rfl rfl) (Ea zq uq (aT 0) [] [.z p] [.z q] (dh aF (au (sc2 func139 (aT 1) (aT 2) (fun W v0 v1 hG h0 h1=>by cases h1;exact btl (aa HS).1 (aa HS).2.2.1 (aa HS).2.2.2 W _ h0)) (au (Jj (b:=w.heap.size) (off:=0) rfl aF rfl rfl) (Ea zq uq (aT 4) [.z p] [.z q] [] (dh aF (au (sc2 func139 (aT 5) (aT 6) (fun W v0 v1 hG h0 h1=>by cases h1;exact btl (aa HS).2.1 (aa HS).2.2.1 (aa HS).2.2.2 W _ h0)) (au (Gu awv rfl (aT 3) (aT 7) rfl rfl rfl) ai))))))))) ?_
 intro v2 V2 hG2 hv2 hne2
 simp only[ay,Act.put,tA]
 have hO:=hG2.1
 refine kg hO 0 Ty (hv2 8 de) ?_
 clear hO
 intro Oy hO hk0
 replace HO:=ae hO
 clear hO hG2 hv2 hne2 hk0
 go_wp2_with fail
 exact Ga results68 abe rfl (aa HO) me0 rfl rfl
theorem cbg {a:Rat} (e:a=x^m) (sx:Sm K x) (hK:K*m+1≤1000000) (hm:m≤1000000) (w:Wq) (u0:Vq) (h0:bz [.q x] w u0) :
  Calls prog 68 #[u0,.int .i64 (m:Int)] w (gp (bz [.q a]) w):=by
 subst e
 refine(bqx (m:=m) sx.1.1 sx.1.2 hK hm w u0 (cqx h0)).mono fun e w' h=>cgb ?_
 rw[(Xb x m).1,(Xb x m).2]
 exact h
theorem cqz (h:K*m+1≤1000000) (hk:k≤m):K*k+1≤1000000:=by
 have:K*k≤K*m:=Bo K hk
 omega
theorem bph (sx:Ad K x) (hK:K*m+1≤1000000) (hm:m≤1000000) (w:Wq) (u0:Vq) (h0:bz [.r x] w u0) :
  Calls prog 71 #[u0,.int .i64 (m:Int)] w (gp (bz [.r (x^m)]) w):=by
 have HS:=ae (And.intro sx (And.intro hK hm))
 clear sx hK hm
 obtain⟨Ig,c0a,Hz,m0a,B0a,d0a,k0a,Ma,rfl,f0a⟩:=ail h0
 go_enter func71,ntmps71
 go_upto_region 1 with fail
 have hO:=(Own.push (T:=68) (ls:=zX) (Own.push (T:=68) (ls:=[.r x]) (Own.nil w) (gy.r f0a rfl) (w.heap.size) rfl) (gy.below (by repeat (first|exact df _ _|refine ic ?_ _)) (gy.vs w [.slice none 0 0,.bool false,.slice none 0 0,.bool false] rfl)) (w.heap.size+1) (by simp only[yw]))
 generalize (w.alloc (.cells #[.slice Ig (List.length Hz) c0a,.bool m0a,.slice B0a (List.length k0a) d0a,.bool Ma] 68)).alloc (.cells #[.slice none 0 0,.bool false,.slice none 0 0,.bool false] 68)=W0 at *
 have HO:=ae hO
 clear hO
 have d1:decide ((m:Int)<0)=false:=dw om
 refine fw 2 [_,_] [] HO (dh aF (au (wu rfl (aT 0) (fe _) rfl d1) ai)) ?_
 intro v1 V1 hG1 hv1 hne1
 simp only[ay,Act.put,tA,exv (hv1 1 de)]
 replace HO:=ae hG1.1
 clear hG1 hv1 hne1
 clear d1
 go_upto_region 3 with fail
 refine fw 2 [_,_] [1] HO (au (sc1 func95 (fe _) (fun W v0 hG h0=>by cases h0;exact chm (axu x).symm (atr 1 om om W))) (Am ann ai)) ?_
 intro v2 V2 hG2 hv2 hne2
 obtain⟨csv,e1,Zr,hz1⟩:=(show qw 68 zX V1.heap.size V2 (v2 1)from hv2 1 de)
 simp only[ay,Act.put,tA,e1]
 have hO:=hG2.1
 replace hO:=Own.add (aa HO) hG2.2 Zr hz1
 clear Zr hz1
 refine kg hO 0 Cv (hv2 0 de) ?_
 clear hO
 intro Oy hO hk0
 replace HO:=ae hO
 clear hO hG2 hv2 hne2 hk0
 try clear e1
 go_upto_region 4 with fail
 refine fw 1 [_] [] HO (Ak (fe _) ai) ?_
 intro v3 V3 hG3 hv3 ji
 simp only[ay,Act.put,tA,exv (hv3 0 de)]
 replace HO:=ae hG3.1
 clear hG3 hv3 ji
 go_wp2_with fail
 go_loopw [6] (fun vk wr => ∃ k:Nat,k≤m∧vk = .int .i64 ((k:Nat):Int)∧Hid (Own w [(csv,68,[.r (x^k)]),(w.heap.size+1,68,zX),(w.heap.size,68,[.r x])] wr)) (fun vk _=>m-(intOf vk).toNat)
 case atStart=>exact⟨0,by omega,rfl,HO⟩
 case round =>
  obtain⟨k,hk,rfl,HO⟩:=hrel;have HK:=ae hk;clear hk
  by_cases g1:(k:Int)<(m:Int)
  ·
   have d1:decide ((k:Int)<(m:Int))=true:=dm g1;have qp:=ae (show k<m by omega);go_upto_region 5 with fail;refine fw 3 [_,_,_] [] HO (dh aF (dh aF (au (wu rfl (aT 0) (aT 1) rfl d1) ai))) ?_
   intro v4 V4 hG4 hv4 ma;simp only[ay,Act.put,tA,exv (hv4 2 de)];replace HO:=ae hG4.1;clear hG4 hv4 ma;clear d1 g1;go_upto_region 7 with fail;refine fw 3 [_,_,_] [] HO (xh Dt me0 aF (xh Dt Ed aF (au (sc2 func62 (aT 0) (aT 1) (fun W v0 v1 hG h0 h1=>chm (axv x k).symm (bma (K:=K*m+1) (Ad.mono (Ad.pow (aa HS).1 k (cqz (aa HS).2.1 (aa HK))) (aev (Bo K (aa HK))) (aa HS).2.1) (Ad.mono (aa HS).1 (kle (aa HS).2.1 (aa qp)) (aa HS).2.1) h0 h1))) ai))) ?_
   intro v5 V5 mo hv5 hne5;simp only[ay,Act.put,tA];have hO:=mo.1;refine kg hO 0 Cv (hv5 2 de) ?_
   clear hO;intro Jv hO hk0;replace HO:=ae hO;clear hO mo hv5 hne5 hk0;go_wp2_with fail
   go_roundw
   case rel =>
    exact⟨k+1,by have:=aa qp;omega,He (aa qp) (aa HS).2.2,HO⟩
   case measure =>
    have h1:=aa qp;have h2:=(aa HS).2.2;clear HO;rw[Ih h1 h2];exact measS h1
  ·
   have d1:decide ((k:Int)<(m:Int))=false:=dw g1;obtain rfl:k=m:=by have:=aa HK;omega
   go_upto_region 5 with fail;refine fw 3 [_,_,_] [] HO (dh aF (dh aF (au (wu rfl (aT 0) (aT 1) rfl d1) ai))) ?_
   intro v4 V4 hG4 hv4 ma;simp only[ay,Act.put,tA,exv (hv4 2 de)];replace HO:=ae hG4.1;clear hG4 hv4 ma;clear d1 g1;go_upto_region 8 with fail;refine fw 1 [_] [] HO (xh Dt me0 aF ai) ?_
   intro v5 V5 mo hv5 hne5;simp only[ay,Act.put,tA];have hO:=mo.1;refine kg hO 1 Cv (hv5 0 de) ?_
   clear hO;intro Jv hO hk0;replace HO:=ae hO;clear hO mo hv5 hne5 hk0;go_wp2_with fail;exact Ga results71 Om rfl (aa HO) uq rfl rfl
theorem bzy {a:Rat} (e:a=x^m) (sx:Ad K x) (hK:K*m+1≤1000000) (hm:m≤1000000) (w:Wq) (u0:Vq) (h0:bz [.r x] w u0):Calls prog 71 #[u0,.int .i64 (m:Int)] w (gp (bz [.r a]) w):=e ▸ bph sx hK hm w u0 h0
end Sb


namespace Sb
theorem bvm {w:Wq} {d:Option Tmp} {x:Operand} {tb:TypeId} (hm:m≤1000000) (h:ρ x = .int .i64 (-(m:Int))) :
  (execOp ρ { dst:=d,op := .unOp .neg 3 x,type:=ty,pos:=pos,after:=af,guard:=gd}).run prog w = .ok (.value (.int .i64 (m:Int))) w:=by
 have hw:wrap64 (-(-(m:Int)))=(m:Int):=by rw[Int.neg_neg];exact Cs _ om
 rw[Int.neg_neg]at hw
 simp only[execOp,h]
 have hw2:IntKind.i64.wrap (m:Int)=(m:Int):=Es _ om
 simp[go_sem,underlying3,hw,hw2]
theorem bqd {n:Nat} {d:Nat} {x:Operand} (hm:m≤1000000) (hal:al.contains k=false) (hx:cu l n T a0 k x (ax (.int .i64 (-(m:Int))))) (hT:T k=ax (.int .i64 (m:Int))) :
  ib prog Q l n T G il al a0 k { dst:=some d,op := .unOp .neg 3 x,type:=ty,pos:=pos,after:=af,guard:=gd}:=by
 intro a w hG hO hN
 exact wvz (bvm (tb:=0) hm (hx a w hO hN)) hG hal (by rw[hT];rfl)
noncomputable def Ec (x:Rat) (k:Int):Rat:=if k<0 then x⁻¹^(-k).toNat else x^k.toNat
theorem bxe (h:0<x):0<x⁻¹:=Rat.inv_pos.2 h
theorem apl (h:0<x) : ∀ m:Nat,0<x^m
 | 0=>by rw[axu];decide
 | m+1=>by rw[axv];exact Rat.mul_pos (apl h m) h
theorem bwh (h:0<x) (k:Int):0<Ec x k:=by
 unfold Ec
 split
 ·
  exact apl (bxe h) _
 ·
  exact apl h _
theorem Qu (h:0<x):x.num≠0:=fun e=>by
 have h2:x=0:=by rw[← avb x,e];exact Rat.zero_divInt _
 rw[h2]at h
 exact absurd h de
theorem Sm.Ec (h:Sm K x) (h0:x.num≠0) {k:Int} (hk : -(b:Int)≤k∧k≤b) (hm:K*b+1≤1000000):Sm (K*b+1) (Sb.Ec x k):=by
 have le : ∀ j:Nat,j≤b→K*j+1≤K*b+1:=fun j hj=>aev (Bo K hj)
 unfold Sb.Ec
 split
 ·
  exact((h.inv h0).pow _ (xy (le _ om) hm)).mono (le _ om) hm
 ·
  exact(h.pow _ (xy (le _ om) hm)).mono (le _ om) hm
theorem Ad.Ec (h:Ad K x) (h0:x.num≠0) {k:Int} (hk : -(b:Int)≤k∧k≤b) (hm:K*b+1≤1000000):Ad (K*b+1) (Sb.Ec x k):=by
 have le : ∀ j:Nat,j≤b→K*j+1≤K*b+1:=fun j hj=>aev (Bo K hj)
 unfold Sb.Ec
 split
 ·
  exact Ad.mono ((h.inv h0).pow _ (xy (le _ om) hm)) (le _ om) hm
 ·
  exact Ad.mono (h.pow _ (xy (le _ om) hm)) (le _ om) hm
theorem bhq {a:Rat} (sx:Sm K x) (h0n:x.num≠0) (h1m:0<m) (hK:K*m+1≤1000000) (hm:m≤1000000) (e:a=x⁻¹^m) (w:Wq) (u0:Vq) (h0:bz [.q x] w u0) :
  Calls prog 68 #[u0,.int .i64 (-(m:Int))] w (gp (bz [.q a]) w):=by
 have HS:=ae (And.intro sx (And.intro h0n (And.intro h1m (And.intro hK (And.intro hm e)))))
 clear sx h0n h1m hK hm e
 obtain⟨Vf,Ma,Ig,c0a,Hz,Yq,Yx,Oi,c0b,Od,rfl,f0a,Oe⟩:=Sn h0
 go_enter func68,ntmps68
 go_upto_region 1 with fail
 have hO:=(Own.push (T:=79) (ls:=zQ) (Own.push (T:=79) (ls:=[.q x]) (Own.nil w) (gy.q f0a Oe rfl) (w.heap.size) rfl) (gy.below (by repeat (first|exact df _ _|refine ic ?_ _)) (gy.vs w [.int .i64 0,.bool false,.slice none 0 0,.int .i64 0,.bool false,.slice none 0 0] rfl)) (w.heap.size+1) (by simp only[yw]))
 generalize (w.alloc (.cells #[.int .i64 Vf,.bool Ma,.slice Ig (List.length Hz) c0a,.int .i64 Yq,.bool Yx,.slice Oi (List.length Od) c0b] 79)).alloc (.cells #[.int .i64 0,.bool false,.slice none 0 0,.int .i64 0,.bool false,.slice none 0 0] 79)=W0 at *
 have HO:=ae hO
 clear hO
 have d1:decide (-(m:Int)<0)=true:=dm (by have:=(aa HS).2.2.1;omega)
 refine fw 2 [_,_] [] HO (dh aF (au (wu rfl (aT 0) (fe _) rfl d1) ai)) ?_
 intro v1 V1 hG1 hv1 hne1
 simp only[ay,Act.put,tA,exv (hv1 1 de)]
 replace HO:=ae hG1.1
 clear hG1 hv1 hne1
 clear d1
 go_upto_region 2 with fail
 refine fw 5 [_,_,_,_,_] [] HO (xh Ro uq aF (au (sc1 func94 (aT 0) (fun W v0 hG h0=>cno (aa HS).2.1 h0)) (dh aF (au (bqd (aa HS).2.2.2.2.1 rfl (aT 2) rfl) (au (sc2 func68 (aT 1) (aT 3) (fun W v0 v1 hG h0 h1=>by cases h1;exact cbg (aa HS).2.2.2.2.2 (Sm.inv (aa HS).1 (aa HS).2.1) (aa HS).2.2.2.1 (aa HS).2.2.2.2.1 W _ h0)) ai))))) ?_
 intro v2 V2 hG2 hv2 hne2
 simp only[ay,Act.put,tA]
 have hO:=hG2.1
 refine kg hO 0 Ty (hv2 4 de) ?_
 clear hO
 intro Oy hO hk0
 replace HO:=ae hO
 clear hO hG2 hv2 hne2 hk0
 go_wp2_with fail
 exact Ga results68 abe rfl (aa HO) me0 rfl rfl
theorem btk {k:Int} (sx:Sm K x) (h0n:x.num≠0) (hk : -(b:Int)≤k∧k≤b) (hK:K*b+1≤1000000) (hb:b≤1000000) (w:Wq) (u0:Vq) (h0:bz [.q x] w u0) :
  Calls prog 68 #[u0,.int .i64 k] w (gp (bz [.q (Ec x k)]) w):=by
 have le : ∀ j:Nat,j≤b→K*j+1≤1000000:=fun j hj=>xy (aev (Bo K hj)) hK
 unfold Ec
 split
 ·
  rename_i h;have e:k = -(((-k).toNat:Nat):Int):=by omega
  generalize (-k).toNat=m at *;subst e;exact bhq sx h0n om (le _ om) om rfl w u0 h0
 ·
  rename_i h;have e:k=((k.toNat:Nat):Int):=by omega
  generalize k.toNat=m at *;subst e;exact cbg rfl sx (le _ om) om w u0 h0
theorem bhf {a:Rat} (sx:Ad (K+1) x) (h0n:x.num≠0) (h1m:0<m) (hK:(K+1)*m+1≤1000000) (hm:m≤1000000) (e:a=x⁻¹^m) (w:Wq) (u0:Vq) (h0:bz [.r x] w u0) :
  Calls prog 71 #[u0,.int .i64 (-(m:Int))] w (gp (bz [.r a]) w):=by
 have HS:=ae (And.intro sx (And.intro h0n (And.intro h1m (And.intro hK (And.intro hm e)))))
 clear sx h0n h1m hK hm e
 obtain⟨Ig,c0a,Hz,m0a,B0a,d0a,k0a,Ma,rfl,f0a⟩:=ail h0
 go_enter func71,ntmps71
 go_upto_region 1 with fail
 have hO:=(Own.push (T:=68) (ls:=zX) (Own.push (T:=68) (ls:=[.r x]) (Own.nil w) (gy.r f0a rfl) (w.heap.size) rfl) (gy.below (by repeat (first|exact df _ _|refine ic ?_ _)) (gy.vs w [.slice none 0 0,.bool false,.slice none 0 0,.bool false] rfl)) (w.heap.size+1) (by simp only[yw]))
 generalize (w.alloc (.cells #[.slice Ig (List.length Hz) c0a,.bool m0a,.slice B0a (List.length k0a) d0a,.bool Ma] 68)).alloc (.cells #[.slice none 0 0,.bool false,.slice none 0 0,.bool false] 68)=W0 at *
 have HO:=ae hO
 clear hO
 have d1:decide (-(m:Int)<0)=true:=dm (by have:=(aa HS).2.2.1;omega)
 refine fw 2 [_,_] [] HO (dh aF (au (wu rfl (aT 0) (fe _) rfl d1) ai)) ?_
 intro v1 V1 hG1 hv1 hne1
 simp only[ay,Act.put,tA,exv (hv1 1 de)]
 replace HO:=ae hG1.1
 clear hG1 hv1 hne1
 clear d1
 go_upto_region 2 with fail
 refine fw 5 [_,_,_,_,_] [] HO (xh Dt uq aF (au (sc1 func90 (aT 0) (fun W v0 hG h0=>bay (aa HS).1 (aa HS).2.1 h0)) (dh aF (au (bqd (aa HS).2.2.2.2.1 rfl (aT 2) rfl) (au (sc2 func71 (aT 1) (aT 3) (fun W v0 v1 hG h0 h1=>by cases h1;exact bzy (aa HS).2.2.2.2.2 (Ad.inv (aa HS).1 (aa HS).2.1) (aa HS).2.2.2.1 (aa HS).2.2.2.2.1 W _ h0)) ai))))) ?_
 intro v2 V2 hG2 hv2 hne2
 simp only[ay,Act.put,tA]
 have hO:=hG2.1
 refine kg hO 0 Cv (hv2 4 de) ?_
 clear hO
 intro Oy hO hk0
 replace HO:=ae hO
 clear hO hG2 hv2 hne2 hk0
 go_wp2_with fail
 exact Ga results71 Om rfl (aa HO) me0 rfl rfl
theorem brg {k:Int} (sx:Ad (K+1) x) (h0n:x.num≠0) (hk : -(b:Int)≤k∧k≤b) (hK:(K+1)*b+1≤1000000) (hb:b≤1000000) (w:Wq) (u0:Vq) (h0:bz [.r x] w u0) :
  Calls prog 71 #[u0,.int .i64 k] w (gp (bz [.r (Ec x k)]) w):=by
 have le : ∀ j:Nat,j≤b→(K+1)*j+1≤1000000:=fun j hj=>xy (aev (Bo (K+1) hj)) hK
 unfold Ec
 split
 ·
  rename_i h;have e:k = -(((-k).toNat:Nat):Int):=by omega
  generalize (-k).toNat=m at *;subst e;exact bhf sx h0n om (le _ om) om rfl w u0 h0
 ·
  rename_i h;have e:k=((k.toNat:Nat):Int):=by omega
  generalize k.toNat=m at *;subst e;exact bzy rfl sx (le _ om) om w u0 h0
end Sb

end Go.Proofs.YtfgeaakhlcaibaaGreatDoor
