/- Texts beneath a law of layer 1. -/
import Derived.Test.YtfgeaakhlcaibaaGreatDoorDc7
import Derived.ChangeKeysEq
import Derived.MapKept
import Derived.Lib.Strings
import Derived.Lib.IndexLaws
import Derived.Lib.CutLaws
set_option maxRecDepth 100000
set_option maxHeartbeats 16000000
namespace Go.Proofs.YtfgeaakhlcaibaaGreatDoor
open Go.RowKit
open Go.Proofs.Tryz
open Go renaming World → Wq
open Go renaming Value → Vq
variable {f h g:Nat→Int} {w W:Wq} {x:Operand} {s:ByteArray} {r n k d F B:Nat} {ty:TypeId} {pos:String} {af:Array Edge} {gd:Option (Nat×Bool)} {e u v m p z:Int} {b:UInt8} {ls:List UInt8} {L:List (ByteArray×Vq)} {a y q:Rat} {Q:Exit→Act→Wq→Prop} {l:List Oper} {T:Nat→Wq→Vq→Prop} {G:Wq→Prop} {al:List Nat} {a0:Act} {v0 u0 u1 u2 u3:Vq} {ρ:Operand→Vq} {ats:Array TypeId} {c:Bool}

namespace Sb
def okU (f:Nat→Int) (n d:Int):Prop:=Li f∧qi n d∧1≤n
instance (f:Nat→Int) (n d:Int):Decidable (okU f n d):=by unfold okU;infer_instance
def blc (f:Nat→Int) (n d:Int):Int:=if okU f n d then 0 else 1
structure Xy where
 f:Nat→Int
 n:Int
 d:Int
 e:Int
abbrev Kg (t:Xy):Wq→Vq→Prop:=ko [bz [.k (eK t.f),iv t.n,iv t.d],ax (.int .i64 t.e)]
def xk (f:Nat→Int) (x:Rat):Xy:=if Li f then(if (jf x).e=0 then⟨f,(jf x).n,(jf x).d,0⟩else⟨z7,0,0,(jf x).e⟩)else⟨z7,0,0,3⟩
theorem btj {x:Rat} (h0:bz [.q x] W v0):Calls prog 69 #[v0] W (gp (ko [bz [.v (.int .i64 (jf x).n),.v (.int .i64 (jf x).d)],ax (.int .i64 (jf x).e)]) W) :=
 (cnm h0).mono fun e w' ⟨u,h1,h2,h3⟩=>⟨u,h1,h2,by rw[h3];exact⟨[_,_],rfl,_,_,rfl,Gw _ _ _,_,_,rfl,rfl,rfl⟩⟩
theorem cbj {n d:Int} (ok:qi n d) (w:Wq) (u0:Vq) (h0:bz [.k (eK f),iv n,iv d] w u0):Calls prog 103 #[u0] w (gp (bz [.k (eK f),.q (jw n d)]) w):=by
 have Mw:=ae ok
 clear ok
 have hu0:=abl h0
 subst hu0
 go_enter func103,ntmps103
 go_upto_region 1 with fail
 have hO:=(Own.push (T:=118) (ls:=zM) (Own.push (T:=44) (ls:=[.k (eK f),iv n,iv d]) (Own.nil w) (gy.e (gy.v (xc _) (gy.v (xc _) rfl))) (w.heap.size) rfl) (gy.below (by repeat (first|exact df _ _|refine ic ?_ _)) (gy.vs w [.int .i64 0,.int .i64 0,.int .i64 0,.int .i64 0,.int .i64 0,.int .i64 0,.int .i64 0,.int .i64 0,.bool false,.slice none 0 0,.int .i64 0,.bool false,.slice none 0 0] rfl)) (w.heap.size+1) (by simp only[yw]))
 generalize (w.alloc (.cells #[.int .i64 (f 0),.int .i64 (f 1),.int .i64 (f 2),.int .i64 (f 3),.int .i64 (f 4),.int .i64 (f 5),.int .i64 (f 6),.int .i64 n,.int .i64 d] 44)).alloc (.cells #[.int .i64 0,.int .i64 0,.int .i64 0,.int .i64 0,.int .i64 0,.int .i64 0,.int .i64 0,.int .i64 0,.bool false,.slice none 0 0,.int .i64 0,.bool false,.slice none 0 0] 118)=W0 at *
 have HO:=ae hO
 clear hO
 refine Nw 6 [_,_,_,_,_,_] [] HO (au (Uf (b:=w.heap.size) (off:=0) rfl aF rfl rfl) (Ea Vl uq (aT 0) [] [.k (eK f)] [iv n,iv d] (au (Ue (b:=w.heap.size) (off:=0) rfl aF rfl rfl) (Ea Js uq (aT 2) [.k (eK f)] [iv n,iv d] [] (au (sc1 func67 (aT 3) (fun W v0 hG h0=>ckp (aa Mw) h0)) (au (Gu cey rfl (aT 1) (aT 4) rfl rfl rfl) ai)))))) ?_
 intro v1 V1 hG1 hv1 hne1
 simp only[ay,Act.put,tA]
 have hO:=hG1.1
 refine kg hO 0 Bc (hv1 5 de) ?_
 clear hO
 intro Ep hO hk0
 replace HO:=ae hO
 clear hO hG1 hv1 hne1 hk0
 go_wp2_with fail
 exact Ga results103 Km rfl (aa HO) me0 rfl rfl
theorem axz {x:Rat} {n:Int} (w:Wq) (u0:Vq) (h0:bz [.k (eK f),.q x] w u0) (hh : ∀ j,j<7→wrap64 (f j*n)=h j)
  (hp : ∀ W v0,Below w.heap.size w W→bz [.q x] W v0→Calls prog 68 #[v0,.int .i64 n] W (gp (bz [.q a]) W)) :
  Calls prog 104 #[u0,.int .i64 n] w (gp (bz [.k (eK h),.q a]) w):=by
 have HH:=ae hh
 have HP:=ae hp
 clear hh hp
 obtain⟨Vf,Ma,Ig,c0a,Hz,Yq,Yx,Oi,c0b,Od,rfl,f0a,Oe⟩:=ant h0
 go_enter func104,ntmps104
 go_upto_region 1 with fail
 have hO:=(Own.push (T:=118) (ls:=zM) (Own.push (T:=118) (ls:=[.k (eK f),.q x]) (Own.nil w) (gy.e (gy.q f0a Oe rfl)) (w.heap.size) rfl) (gy.below (by repeat (first|exact df _ _|refine ic ?_ _)) (gy.vs w [.int .i64 0,.int .i64 0,.int .i64 0,.int .i64 0,.int .i64 0,.int .i64 0,.int .i64 0,.int .i64 0,.bool false,.slice none 0 0,.int .i64 0,.bool false,.slice none 0 0] rfl)) (w.heap.size+1) (by simp only[yw]))
 generalize (w.alloc (.cells #[.int .i64 (f 0),.int .i64 (f 1),.int .i64 (f 2),.int .i64 (f 3),.int .i64 (f 4),.int .i64 (f 5),.int .i64 (f 6),.int .i64 Vf,.bool Ma,.slice Ig (List.length Hz) c0a,.int .i64 Yq,.bool Yx,.slice Oi (List.length Od) c0b] 118)).alloc (.cells #[.int .i64 0,.int .i64 0,.int .i64 0,.int .i64 0,.int .i64 0,.int .i64 0,.int .i64 0,.int .i64 0,.bool false,.slice none 0 0,.int .i64 0,.bool false,.slice none 0 0] 118)=W0 at *
 have HO:=ae hO
 clear hO
 go_wp2_with fail
 go_loopw [6] (fun vk wr => ∃ k:Nat,k≤7∧vk = .int .i64 ((k:Nat):Int)∧Hid (Own w [(w.heap.size+1,118,zM),(w.heap.size,118,[.k (eK (Nb f h k)),.q x])] wr)) (fun vk _=>7-(intOf vk).toNat)
 case atStart=>exact⟨0,by omega,rfl,by rw[aka];exact HO⟩
 case round =>
  obtain⟨k,hk,rfl,HO⟩:=hrel;have HK:=ae hk;clear hk
  by_cases g1:k<7
  ·
   have d1:decide ((k:Int)<7)=true:=dm om;have Bv:=ae g1;clear g1;go_upto_region 2 with fail;refine fw 1 [_] [] HO (au (wu rfl aF (fe _) rfl d1) ai) ?_
   intro v1 V1 hG1 hv1 hne1;simp only[ay,Act.put,tA,exv (hv1 0 de)];replace HO:=ae hG1.1;clear hG1 hv1 hne1;clear d1;go_upto_region 3 with fail;refine fw 2 [_,_] [] HO (dh aF (Ak (aT 0) ai)) ?_
   intro v2 V2 hG2 hv2 hne2;simp only[ay,Act.put,tA,show v2 0 = .int .i64 (k:Int)from hv2 0 de,show v2 1 = .int .i64 (k:Int)from hv2 1 de];replace HO:=ae hG2.1;clear hG2 hv2 hne2;go_upto_region 4 with fail;refine fw 8 [_,_,_,_,_,_,_,_] [] HO (dh aF (au (Kz (b:=w.heap.size) (off:=0) rfl aF rfl rfl) (au (Lx (b:=w.heap.size) (k:=k) rfl (aT 1) (aT 0) (aa Bv) rfl) (au (aaj (f:=(Nb f h k)) uq rfl (aT 2) (aa Bv) (avu f h k) rfl) (dh aF (au (akp rfl (aT 3) (aT 4) ((aa HH) k (aa Bv)) rfl) (au (Kz (b:=w.heap.size) (off:=0) rfl aF rfl rfl) (au (Lx (b:=w.heap.size) (k:=k) rfl (aT 6) (aT 0) (aa Bv) rfl) ai)))))))) ?_
   intro v3 V3 hG3 hv3 ji;simp only[ay,Act.put,tA,show v3 5 = .int .i64 (h k)from hv3 5 de,show v3 7 = .pointer (some ⟨w.heap.size,k,none⟩)from hv3 7 de];have hO:=hG3.1;refine asy (f:=(Nb f h k)) (g:=(Nb f h (k+1))) (k:=k) (v:=(h k)) hO 1 [.q x] rfl (aa Bv) rfl rfl (akb f h k) ?_
   intro Gc rf hk0;replace hO:=rf;clear rf;replace HO:=ae hO;clear hO hG3 hv3 ji hk0;go_wp2_with fail
   go_roundw
   case rel =>
    exact⟨k+1,by have:=aa Bv;omega,He (aa Bv) om,HO⟩
   case measure =>
    have h1:=aa Bv;clear HO;rw[Ih h1 om];exact measS h1
  ·
   obtain rfl:k=7:=by have:=aa HK;omega
   clear g1;rw[aoz]at HO;go_upto_region 2 with fail;refine fw 1 [_] [] HO (au (wu rfl aF (fe _) rfl rfl) ai) ?_
   intro v1 V1 hG1 hv1 hne1;simp only[ay,Act.put,tA,exv (hv1 0 de)];replace HO:=ae hG1.1;clear hG1 hv1 hne1;go_upto_region 6 with fail;refine fw 5 [_,_,_,_,_] [] HO (au (Py (b:=w.heap.size) (off:=0) rfl aF rfl rfl) (Ea Ro uq (aT 0) [.k (eK h)] [.q x] [] (dh aF (au (sc2 func68 (aT 1) (aT 2) (fun W v0 v1 hG h0 h1=>by cases h1;exact aa HP W v0 hG.bel h0)) (au (Py (b:=w.heap.size) (off:=0) rfl aF rfl rfl) ai))))) ?_
   intro v2 V2 hG2 hv2 hne2;simp only[ay,Act.put,tA,show v2 4 = .pointer (some ⟨w.heap.size,7,none⟩)from hv2 4 de];have hO:=hG2.1;refine asz hO 1 [.k (eK h)] [.q x] [.q a] [] rfl Ty rfl (show bz [.q a] V2 (v2 3)from hv2 3 de) rfl rfl rfl ?_
   intro Oy rf hk0;replace hO:=rf;clear rf;replace HO:=ae hO;clear hO hG2 hv2 hne2 hk0;go_upto_region 7 with fail;refine fw 1 [_] [] HO (xh Vk uq aF ai) ?_
   intro v3 V3 hG3 hv3 ji;simp only[ay,Act.put,tA];have hO:=hG3.1;refine kg hO 0 Bc (hv3 0 de) ?_
   clear hO;intro Gc hO hk0;replace HO:=ae hO;clear hO hG3 hv3 ji hk0;go_wp2_with fail;exact Ga results104 Km rfl (aa HO) me0 rfl rfl
theorem cqy {x:Rat} {v1:Vq} (h : ∀ W v0 v1,Below w.heap.size w W→bz [.q x] W v0→bz [.q y] W v1→Calls prog F #[v0,v1] W (gp (bz [.q a]) W)) (hb:Below w.heap.size w W) (h0:bz [.q x] W v0) (h1:bz [.q y] W v1):Calls prog F #[v0,v1] W (gp (bz [.q a]) W):=h W v0 v1 hb h0 h1
theorem Ym {x:Rat} (w:Wq) (u0:Vq) (h0:bz [.k (eK f),.q x] w u0) (u1:Vq) (h1:bz [.k (eK g),.q y] w u1) (hh : ∀ j,j<7→wrap64 (f j+g j)=h j)
  (hp : ∀ W v0 v1,Below w.heap.size w W→bz [.q x] W v0→bz [.q y] W v1→Calls prog 108 #[v0,v1] W (gp (bz [.q a]) W)) :
  Calls prog 119 #[u0,u1] w (gp (bz [.k (eK h),.q a]) w):=by
 have HH:=ae hh
 have HP:=ae hp
 clear hh hp
 obtain⟨Vf,Ma,Ig,c0a,Hz,Yq,Yx,Oi,c0b,Od,rfl,f0a,Oe⟩:=ant h0
 obtain⟨s1a,n1a,Jp,c1a,Jl,s1b,n1b,Kj,Ke,Kc,rfl,f1a,f1b⟩:=ant h1
 go_enter func119,ntmps119
 go_upto_region 1 with fail
 have hO:=(Own.push (T:=118) (ls:=zM) (Own.push (T:=118) (ls:=[.k (eK g),.q y]) (Own.push (T:=118) (ls:=[.k (eK f),.q x]) (Own.nil w) (gy.e (gy.q f0a Oe rfl)) (w.heap.size) rfl) (gy.below (by repeat (first|exact df _ _|refine ic ?_ _)) (gy.e (gy.q f1a f1b rfl))) (w.heap.size+1) (by simp only[yw])) (gy.below (by repeat (first|exact df _ _|refine ic ?_ _)) (gy.vs w [.int .i64 0,.int .i64 0,.int .i64 0,.int .i64 0,.int .i64 0,.int .i64 0,.int .i64 0,.int .i64 0,.bool false,.slice none 0 0,.int .i64 0,.bool false,.slice none 0 0] rfl)) (w.heap.size+2) (by simp only[yw]))
 generalize ((w.alloc (.cells #[.int .i64 (f 0),.int .i64 (f 1),.int .i64 (f 2),.int .i64 (f 3),.int .i64 (f 4),.int .i64 (f 5),.int .i64 (f 6),.int .i64 Vf,.bool Ma,.slice Ig (List.length Hz) c0a,.int .i64 Yq,.bool Yx,.slice Oi (List.length Od) c0b] 118)).alloc (.cells #[.int .i64 (g 0),.int .i64 (g 1),.int .i64 (g 2),.int .i64 (g 3),.int .i64 (g 4),.int .i64 (g 5),.int .i64 (g 6),.int .i64 s1a,.bool n1a,.slice Jp (List.length Jl) c1a,.int .i64 s1b,.bool n1b,.slice Kj (List.length Kc) Ke] 118)).alloc (.cells #[.int .i64 0,.int .i64 0,.int .i64 0,.int .i64 0,.int .i64 0,.int .i64 0,.int .i64 0,.int .i64 0,.bool false,.slice none 0 0,.int .i64 0,.bool false,.slice none 0 0] 118)=W0 at *
 have HO:=ae hO
 clear hO
 refine fw 3 [_,_,_] [] HO (au (Kz (b:=w.heap.size+1) (off:=0) rfl aF rfl rfl) (au (cmq (f:=g) Vl uq rfl (aT 0) rfl) (dh (fe _) ai))) ?_
 intro v1 V1 hG1 hv1 hne1
 simp only[ay,Act.put,tA,show v1 1=aV g from hv1 1 de,exv (hv1 2 de)]
 replace HO:=ae hG1.1
 clear hG1 hv1 hne1
 go_wp2_with fail
 go_loopw [9] (fun vk wr => ∃ k:Nat,k≤7∧vk = .int .i64 ((k:Nat):Int)∧Hid (Own w [(w.heap.size+2,118,zM),(w.heap.size+1,118,[.k (eK g),.q y]),(w.heap.size,118,[.k (eK (Nb f h k)),.q x])] wr)) (fun vk _=>7-(intOf vk).toNat)
 case atStart=>exact⟨0,by omega,rfl,by rw[aka];exact HO⟩
 case round =>
  obtain⟨k,hk,rfl,HO⟩:=hrel;have HK:=ae hk;clear hk
  by_cases g1:k<7
  ·
   have d1:decide ((k:Int)<7)=true:=dm om;have Bv:=ae g1;clear g1;go_upto_region 2 with fail;refine fw 1 [_] [] HO (au (wu rfl aF (fe _) rfl d1) ai) ?_
   intro v2 V2 hG2 hv2 hne2;simp only[ay,Act.put,tA,exv (hv2 0 de)];replace HO:=ae hG2.1;clear hG2 hv2 hne2;clear d1;go_upto_region 3 with fail;refine fw 4 [_,_,_,_] [] HO (dh aF (au (cmr (f:=g) (k:=k) rfl aF aF (aa Bv) rfl) (Ak (aT 0) (Ak (aT 1) ai)))) ?_
   intro v3 V3 hG3 hv3 ji;simp only[ay,Act.put,tA,show v3 0 = .int .i64 (k:Int)from hv3 0 de,show v3 1 = .int .i64 (g k)from hv3 1 de,show v3 2 = .int .i64 (k:Int)from hv3 2 de,show v3 3 = .int .i64 (g k)from hv3 3 de];replace HO:=ae hG3.1;clear hG3 hv3 ji;go_upto_region 4 with fail;refine fw 8 [_,_,_,_,_,_,_,_] [] HO (dh aF (au (Kz (b:=w.heap.size) (off:=0) rfl aF rfl rfl) (au (Lx (b:=w.heap.size) (k:=k) rfl (aT 1) (aT 0) (aa Bv) rfl) (au (aaj (f:=(Nb f h k)) Ed rfl (aT 2) (aa Bv) (avu f h k) rfl) (dh aF (au (atm rfl (aT 3) (aT 4) ((aa HH) k (aa Bv)) rfl) (au (Kz (b:=w.heap.size) (off:=0) rfl aF rfl rfl) (au (Lx (b:=w.heap.size) (k:=k) rfl (aT 6) (aT 0) (aa Bv) rfl) ai)))))))) ?_
   intro v4 V4 hG4 hv4 ma;simp only[ay,Act.put,tA,show v4 5 = .int .i64 (h k)from hv4 5 de,show v4 7 = .pointer (some ⟨w.heap.size,k,none⟩)from hv4 7 de];have hO:=hG4.1;refine asy (f:=(Nb f h k)) (g:=(Nb f h (k+1))) (k:=k) (v:=(h k)) hO 2 [.q x] rfl (aa Bv) rfl rfl (akb f h k) ?_
   intro Dy rf hk0;replace hO:=rf;clear rf;replace HO:=ae hO;clear hO hG4 hv4 ma hk0;go_wp2_with fail
   go_roundw
   case rel =>
    exact⟨k+1,by have:=aa Bv;omega,He (aa Bv) om,HO⟩
   case measure =>
    have h1:=aa Bv;clear HO;rw[Ih h1 om];exact measS h1
  ·
   obtain rfl:k=7:=by have:=aa HK;omega
   clear g1;rw[aoz]at HO;go_upto_region 2 with fail;refine fw 1 [_] [] HO (au (wu rfl aF (fe _) rfl rfl) ai) ?_
   intro v2 V2 hG2 hv2 hne2;simp only[ay,Act.put,tA,exv (hv2 0 de)];replace HO:=ae hG2.1;clear hG2 hv2 hne2;go_upto_region 6 with fail;refine fw 6 [_,_,_,_,_,_] [] HO (au (Py (b:=w.heap.size) (off:=0) rfl aF rfl rfl) (Ea Ro Ed (aT 0) [.k (eK h)] [.q x] [] (au (Py (b:=w.heap.size+1) (off:=0) rfl aF rfl rfl) (Ea Ro uq (aT 2) [.k (eK g)] [.q y] [] (au (sc2 func108 (aT 1) (aT 3) (fun W v0 v1 hG h0 h1=>cqy (aa HP) hG.bel h0 h1)) (au (Py (b:=w.heap.size) (off:=0) rfl aF rfl rfl) ai)))))) ?_
   intro v3 V3 hG3 hv3 ji;simp only[ay,Act.put,tA,show v3 5 = .pointer (some ⟨w.heap.size,7,none⟩)from hv3 5 de];have hO:=hG3.1;refine asz hO 2 [.k (eK h)] [.q x] [.q a] [] rfl Ty rfl (show bz [.q a] V3 (v3 4)from hv3 4 de) rfl rfl rfl ?_
   intro Gc rf hk0;replace hO:=rf;clear rf;replace HO:=ae hO;clear hO hG3 hv3 ji hk0;go_upto_region 7 with fail;refine fw 1 [_] [] HO (xh Vk Ed aF ai) ?_
   intro v4 V4 hG4 hv4 ma;simp only[ay,Act.put,tA];have hO:=hG4.1;refine kg hO 0 Bc (hv4 0 de) ?_
   clear hO;intro Dy hO hk0;replace HO:=ae hO;clear hO hG4 hv4 ma hk0;go_wp2_with fail;exact Ga results119 Km rfl (aa HO) me0 rfl rfl
theorem bjo {x:Rat} (w:Wq) (u0:Vq) (h0:bz [.k (eK f),.q x] w u0):Calls prog 105 #[u0] w (gp (Kg (xk f x)) w):=by
 obtain⟨t,ht⟩ : ∃ t,t=xk f x:=⟨_,rfl⟩
 rw[← ht]
 have HR:=ae ht
 clear ht
 obtain⟨Vf,Ma,Ig,c0a,Hz,Yq,Yx,Oi,c0b,Od,rfl,f0a,Oe⟩:=ant h0
 go_enter func105,ntmps105
 go_upto_region 1 with fail
 have hO:=(Own.push (T:=44) (ls:=zU) (Own.push (T:=118) (ls:=[.k (eK f),.q x]) (Own.nil w) (gy.e (gy.q f0a Oe rfl)) (w.heap.size) rfl) (gy.below (by repeat (first|exact df _ _|refine ic ?_ _)) (gy.vs w [.int .i64 0,.int .i64 0,.int .i64 0,.int .i64 0,.int .i64 0,.int .i64 0,.int .i64 0,.int .i64 0,.int .i64 0] rfl)) (w.heap.size+1) (by simp only[yw]))
 generalize (w.alloc (.cells #[.int .i64 (f 0),.int .i64 (f 1),.int .i64 (f 2),.int .i64 (f 3),.int .i64 (f 4),.int .i64 (f 5),.int .i64 (f 6),.int .i64 Vf,.bool Ma,.slice Ig (List.length Hz) c0a,.int .i64 Yq,.bool Yx,.slice Oi (List.length Od) c0b] 118)).alloc (.cells #[.int .i64 0,.int .i64 0,.int .i64 0,.int .i64 0,.int .i64 0,.int .i64 0,.int .i64 0,.int .i64 0,.int .i64 0] 44)=W0 at *
 have HO:=ae hO
 clear hO
 by_cases g1:Li f
 ·
  by_cases g2:(jf x).e=0
  ·
   have k1:decide (Li f)=true:=dm g1;have k2:((jf x).e != 0)=false:=by simp[bne,Iw.2 g2]
   have hr:t=⟨f,(jf x).n,(jf x).d,0⟩:=by rw[aa HR];unfold xk;rw[if_pos g1,if_pos g2]
   subst hr;clear HR;go_upto_region 1 with fail;refine fw 4 [_,_,_,_] [] HO (au (Kz (b:=w.heap.size) (off:=0) rfl aF rfl rfl) (Ea Vl uq (aT 0) [] [.k (eK f)] [.q x] (au (sc1 func96 (aT 1) (fun W v0 hG h0=>bns _ W _ h0 k1)) (au (tq rfl (aT 2) rfl rfl) ai)))) ?_
   intro v1 V1 hG1 hv1 hne1;simp only[ay,Act.put,tA,exv (hv1 3 de)];replace HO:=ae hG1.1;clear hG1 hv1 hne1;go_upto_region 3 with fail;refine fw 7 [_,_,_,_,_,_,_] [6] HO (au (Py (b:=w.heap.size) (off:=0) rfl aF rfl rfl) (Ea Ro uq (aT 0) [.k (eK f)] [.q x] [] (au (sc1 func69 (aT 1) (fun W v0 hG h0=>btj h0)) (dh (aT 2) (pq [bz [iv (jf x).n,iv (jf x).d],ax (.int .i64 (jf x).e)] (aT 3) (pq _ (aT 3) (Am Lr ai))))))) ?_
   intro v2 V2 hG2 hv2 hne2;obtain⟨csu,e6,ym,Bg⟩:=(show qw 23 zR V1.heap.size V2 (v2 6)from hv2 6 de)
   simp only[ay,Act.put,tA,show v2 5 = .int .i64 (jf x).e from hv2 5 de,e6];have hO:=hG2.1;replace hO:=Own.add (aa HO) hG2.2 ym Bg;clear ym Bg;refine kg hO 0 Gg (hv2 4 de) ?_
   clear hO;intro Oy hO hk0;replace HO:=ae hO;clear hO hG2 hv2 hne2 hk0;try clear e6;go_upto_region 4 with fail;refine fw 2 [_,_] [] HO (dh aF (au (aff rfl (aT 0) (fe _) rfl k2) ai)) ?_
   intro v3 V3 hG3 hv3 ji;simp only[ay,Act.put,tA,exv (hv3 1 de)];replace HO:=ae hG3.1;clear hG3 hv3 ji;go_upto_region 6 with fail;refine fw 4 [_,_,_,_] [] HO (au (Kz (b:=w.heap.size) (off:=0) rfl aF rfl rfl) (Ea Vl Ed (aT 0) [] [.k (eK f)] [.q x] (xh Js me0 aF (au (Gu afs rfl (aT 1) (aT 2) rfl rfl rfl) ai)))) ?_
   intro v4 V4 hG4 hv4 ma;simp only[ay,Act.put,tA];have hO:=hG4.1;refine kg hO 1 vv (hv4 3 de) ?_
   clear hO;intro Dy hO hk0;replace HO:=ae hO;clear hO hG4 hv4 ma hk0;go_wp2_with fail;exact vo results105 Bq rfl rfl (aa HO) uq rfl rfl
  ·
   have k1:decide (Li f)=true:=dm g1;have k2:((jf x).e != 0)=true:=by simp[bne,oo.2 g2]
   have hr:t=⟨z7,0,0,(jf x).e⟩:=by rw[aa HR];unfold xk;rw[if_pos g1,if_neg g2]
   subst hr;clear HR;go_upto_region 1 with fail;refine fw 4 [_,_,_,_] [] HO (au (Kz (b:=w.heap.size) (off:=0) rfl aF rfl rfl) (Ea Vl uq (aT 0) [] [.k (eK f)] [.q x] (au (sc1 func96 (aT 1) (fun W v0 hG h0=>bns _ W _ h0 k1)) (au (tq rfl (aT 2) rfl rfl) ai)))) ?_
   intro v1 V1 hG1 hv1 hne1;simp only[ay,Act.put,tA,exv (hv1 3 de)];replace HO:=ae hG1.1;clear hG1 hv1 hne1;go_upto_region 3 with fail;refine fw 7 [_,_,_,_,_,_,_] [6] HO (au (Py (b:=w.heap.size) (off:=0) rfl aF rfl rfl) (Ea Ro uq (aT 0) [.k (eK f)] [.q x] [] (au (sc1 func69 (aT 1) (fun W v0 hG h0=>btj h0)) (dh (aT 2) (pq [bz [iv (jf x).n,iv (jf x).d],ax (.int .i64 (jf x).e)] (aT 3) (pq _ (aT 3) (Am Lr ai))))))) ?_
   intro v2 V2 hG2 hv2 hne2;obtain⟨csu,e6,ym,Bg⟩:=(show qw 23 zR V1.heap.size V2 (v2 6)from hv2 6 de)
   simp only[ay,Act.put,tA,show v2 5 = .int .i64 (jf x).e from hv2 5 de,e6];have hO:=hG2.1;replace hO:=Own.add (aa HO) hG2.2 ym Bg;clear ym Bg;refine kg hO 0 Gg (hv2 4 de) ?_
   clear hO;intro Oy hO hk0;replace HO:=ae hO;clear hO hG2 hv2 hne2 hk0;try clear e6;go_upto_region 4 with fail;refine fw 2 [_,_] [] HO (dh aF (au (aff rfl (aT 0) (fe _) rfl k2) ai)) ?_
   intro v3 V3 hG3 hv3 ji;simp only[ay,Act.put,tA,exv (hv3 1 de)];replace HO:=ae hG3.1;clear hG3 hv3 ji;go_upto_region 5 with fail;refine fw 2 [_,_] [] HO (au (Pv rfl rfl) (dh aF ai)) ?_
   intro v4 V4 hG4 hv4 ma;simp only[ay,Act.put,tA,show v4 1 = .int .i64 (jf x).e from hv4 1 de];have hO:=hG4.1;refine kg hO 1 vv (hv4 0 de) ?_
   clear hO;intro Dy hO hk0;replace HO:=ae hO;clear hO hG4 hv4 ma hk0;go_wp2_with fail;exact vo results105 Bq rfl rfl (aa HO) uq rfl rfl
 ·
  have k1:decide (Li f)=false:=dw g1;have hr:t=⟨z7,0,0,3⟩:=by rw[aa HR];exact if_neg g1
  subst hr;clear HR;go_upto_region 1 with fail;refine fw 4 [_,_,_,_] [] HO (au (Kz (b:=w.heap.size) (off:=0) rfl aF rfl rfl) (Ea Vl uq (aT 0) [] [.k (eK f)] [.q x] (au (sc1 func96 (aT 1) (fun W v0 hG h0=>bns _ W _ h0 k1)) (au (tq rfl (aT 2) rfl rfl) ai)))) ?_
  intro v1 V1 hG1 hv1 hne1;simp only[ay,Act.put,tA,exv (hv1 3 de)];replace HO:=ae hG1.1;clear hG1 hv1 hne1;go_upto_region 2 with fail;refine fw 1 [_] [] HO (au (Pv rfl rfl) ai) ?_
  intro v2 V2 hG2 hv2 hne2;simp only[ay,Act.put,tA];have hO:=hG2.1;refine kg hO 0 vv (hv2 0 de) ?_
  clear hO;intro Oy hO hk0;replace HO:=ae hO;clear hO hG2 hv2 hne2 hk0;go_wp2_with fail;exact vo results105 Bq rfl rfl (aa HO) me0 rfl rfl
end Sb


namespace Sb
def cak (f g:Nat→Int):Prop:=f 0=g 0∧f 1=g 1∧f 2=g 2∧f 3=g 3∧f 4=g 4∧f 5=g 5∧f 6=g 6
instance (f g:Nat→Int):Decidable (cak f g):=by unfold cak;infer_instance
theorem bxf:(prog.info? 3).map (fun i=>i.size)=some 1:=by kernel_rfl
end Sb


namespace Sb
theorem bjp {n d:Int} (w:Wq) (u0:Vq) (h0:bz [.k (eK f),iv n,iv d] w u0):Calls prog 31 #[u0] w (gp (ax (.int .i64 (blc f n d))) w):=by
 obtain⟨v,hv⟩ : ∃ v,v=blc f n d:=⟨_,rfl⟩
 rw[← hv]
 have HV:=ae hv
 clear hv
 have hu0:=abl h0
 subst hu0
 go_enter func31,ntmps31
 go_upto_region 1 with fail
 have hO:=(Own.push (T:=44) (ls:=[.k (eK f),iv n,iv d]) (Own.nil w) (gy.e (gy.v (xc _) (gy.v (xc _) rfl))) (w.heap.size) rfl)
 generalize w.alloc (.cells #[.int .i64 (f 0),.int .i64 (f 1),.int .i64 (f 2),.int .i64 (f 3),.int .i64 (f 4),.int .i64 (f 5),.int .i64 (f 6),.int .i64 n,.int .i64 d] 44)=W0 at *
 have HO:=ae hO
 clear hO

 go_wp2_with fail
 go_loopw [3] (fun vk wr => ∃ k:Nat,k≤7∧vk = .int .i64 ((k:Nat):Int)∧(∀ j,j<k → -9≤f j∧f j≤9)∧Hid (Own w [(w.heap.size,44,[.k (eK f),iv n,iv d])] wr)) (fun vk _=>7-(intOf vk).toNat)
 case atStart=>exact⟨0,by omega,rfl,(by intro j hj;omega),HO⟩
 case round =>
  obtain⟨k,hk,rfl,hall,HO⟩:=hrel;have HK:=ae hk;have HAL:=ae hall;clear hk hall
  by_cases g1:k<7
  ·
   have d1:decide ((k:Int)<7)=true:=dm om;have Bv:=ae g1;clear g1;go_upto_region 2 with fail;refine fw 2 [_,_] [] HO (dh aF (au (wu rfl (aT 0) (fe _) rfl d1) ai)) ?_
   intro v1 V1 hG1 hv1 hne1;simp only[ay,Act.put,tA,exv (hv1 1 de)];replace HO:=ae hG1.1;clear hG1 hv1 hne1;clear d1
   by_cases g2:f k < -9
   ·
    have k2:decide (f k < -9)=true:=dm g2;have hv:v=1:=by rw[aa HV];exact if_neg (fun h=>by have:=h.1 k (aa Bv);omega)
    subst hv;clear HV;go_upto_region 4 with fail;refine fw 12 [_,_,_,_,_,_,_,_,_,_,_,_] [] HO (dh aF (au (Uf (b:=w.heap.size) (off:=0) rfl aF rfl rfl) (au (Lx (b:=w.heap.size) (k:=k) rfl (aT 1) (aT 0) (aa Bv) rfl) (au (aaj (f:=f) me0 rfl (aT 2) (aa Bv) rfl rfl) (au (wu rfl (aT 3) (fe _) rfl k2) (dh (aT 4) (ve (ve (ve (ve (ve (au (qj rfl (aT 5) (fe _)) ai)))))))))))) ?_
    intro v2 V2 hG2 hv2 hne2;simp only[ay,Act.put,tA,exv (hv2 11 de)];replace HO:=ae hG2.1;clear hG2 hv2 hne2;go_upto_region 5 with fail;refine fw 1 [_] [] HO (Ak (fe _) ai) ?_
    intro v3 V3 hG3 hv3 ji;simp only[ay,Act.put,tA,exv (hv3 0 de)];replace HO:=ae hG3.1;clear hG3 hv3 ji;go_wp2_with fail;exact Ka results31 rfl (aa HO).bel rfl
   ·
    by_cases g3:9<f k
    ·
     have k2:decide (f k < -9)=false:=dw g2;have k3:decide (9<f k)=true:=dm g3;have hv:v=1:=by rw[aa HV];exact if_neg (fun h=>by have:=h.1 k (aa Bv);omega)
     subst hv;clear HV;go_upto_region 4 with fail;refine fw 12 [_,_,_,_,_,_,_,_,_,_,_,_] [] HO (dh aF (au (Uf (b:=w.heap.size) (off:=0) rfl aF rfl rfl) (au (Lx (b:=w.heap.size) (k:=k) rfl (aT 1) (aT 0) (aa Bv) rfl) (au (aaj (f:=f) me0 rfl (aT 2) (aa Bv) rfl rfl) (au (wu rfl (aT 3) (fe _) rfl k2) (dh (aT 4) (ku (jh rfl aF) (ku (Uf (b:=w.heap.size) (off:=0) rfl aF rfl rfl) (ku (Lx (b:=w.heap.size) (k:=k) rfl (aT 7) (aT 6) (aa Bv) rfl) (ku (aaj (f:=f) me0 rfl (aT 8) (aa Bv) rfl rfl) (ku (Lp rfl (aT 9) (fe _) rfl k3) (au (mh rfl (aT 5) (aT 10)) ai)))))))))))) ?_
     intro v2 V2 hG2 hv2 hne2;simp only[ay,Act.put,tA,exv (hv2 11 de)];replace HO:=ae hG2.1;clear hG2 hv2 hne2;go_upto_region 5 with fail;refine fw 1 [_] [] HO (Ak (fe _) ai) ?_
     intro v3 V3 hG3 hv3 ji;simp only[ay,Act.put,tA,exv (hv3 0 de)];replace HO:=ae hG3.1;clear hG3 hv3 ji;go_wp2_with fail;exact Ka results31 rfl (aa HO).bel rfl
    ·
     have k2:decide (f k < -9)=false:=dw g2;have k3:decide (9<f k)=false:=dw g3;have HN:=ae (show ∀ j,j<k+1 → -9≤f j∧f j≤9 from fun j hj=>by
      rcases ajr.1 hj with h|rfl
      ·
       exact(aa HAL) j h
      ·
       omega)
     clear g2 g3;go_upto_region 4 with fail;refine fw 12 [_,_,_,_,_,_,_,_,_,_,_,_] [] HO (dh aF (au (Uf (b:=w.heap.size) (off:=0) rfl aF rfl rfl) (au (Lx (b:=w.heap.size) (k:=k) rfl (aT 1) (aT 0) (aa Bv) rfl) (au (aaj (f:=f) me0 rfl (aT 2) (aa Bv) rfl rfl) (au (wu rfl (aT 3) (fe _) rfl k2) (dh (aT 4) (ku (jh rfl aF) (ku (Uf (b:=w.heap.size) (off:=0) rfl aF rfl rfl) (ku (Lx (b:=w.heap.size) (k:=k) rfl (aT 7) (aT 6) (aa Bv) rfl) (ku (aaj (f:=f) me0 rfl (aT 8) (aa Bv) rfl rfl) (ku (Lp rfl (aT 9) (fe _) rfl k3) (au (mh rfl (aT 5) (aT 10)) ai)))))))))))) ?_
     intro v2 V2 hG2 hv2 hne2;simp only[ay,Act.put,tA,exv (hv2 11 de)];replace HO:=ae hG2.1;clear hG2 hv2 hne2;clear k2 k3;go_wp2_with fail
     go_roundw
     case rel =>
      exact⟨k+1,by have:=aa Bv;omega,He (aa Bv) om,aa HN,HO⟩
     case measure =>
      have h1:=aa Bv;clear HO;rw[Ih h1 om];exact measS h1
  ·
   obtain rfl:k=7:=by have:=aa HK;omega
   clear g1;have HF:=ae (show Li f from aa HAL);clear HAL;go_upto_region 2 with fail;refine fw 2 [_,_] [] HO (dh aF (au (wu rfl (aT 0) (fe _) rfl rfl) ai)) ?_
   intro v1 V1 hG1 hv1 hne1;simp only[ay,Act.put,tA,exv (hv1 1 de)];replace HO:=ae hG1.1;clear hG1 hv1 hne1
   by_cases g2:qi n d
   ·
    by_cases g3:n≤0
    ·
     have k2:decide (qi n d)=true:=dm g2;have k3:decide (n≤0)=true:=dm g3;have hv:v=1:=by rw[aa HV];exact if_neg (fun h=>absurd h.2.2 om)
     subst hv;clear HV;go_upto_region 6 with fail;refine fw 10 [_,_,_,_,_,_,_,_,_,_] [] HO (au (Ue (b:=w.heap.size) (off:=0) rfl aF rfl rfl) (Ea Js me0 (aT 0) [.k (eK f)] [iv n,iv d] [] (au (sc1 func70 (aT 1) (fun W v0 hG h0=>k2 ▸ bwb h0)) (au (tq rfl (aT 2) rfl rfl) (dh (aT 3) (ku (Ue (b:=w.heap.size) (off:=0) rfl aF rfl rfl) (ku (akq (b:=w.heap.size) (off:=7) rfl (aT 5) rfl rfl) (ku (Jd Fe me0 (aT 6) [.k (eK f)] [iv d] rfl) (ku (atl rfl (aT 7) (fe _) rfl k3) (au (mh rfl (aT 4) (aT 8)) ai)))))))))) ?_
     intro v2 V2 hG2 hv2 hne2;simp only[ay,Act.put,tA,exv (hv2 9 de)];replace HO:=ae hG2.1;clear hG2 hv2 hne2;go_upto_region 7 with fail;refine fw 1 [_] [] HO (Ak (fe _) ai) ?_
     intro v3 V3 hG3 hv3 ji;simp only[ay,Act.put,tA,exv (hv3 0 de)];replace HO:=ae hG3.1;clear hG3 hv3 ji;go_wp2_with fail;exact Ka results31 rfl (aa HO).bel rfl
    ·
     have k2:decide (qi n d)=true:=dm g2;have k3:decide (n≤0)=false:=dw g3;have hv:v=0:=by rw[aa HV];exact if_pos ⟨aa HF,g2,by omega⟩
     subst hv;clear HV;go_upto_region 6 with fail;refine fw 10 [_,_,_,_,_,_,_,_,_,_] [] HO (au (Ue (b:=w.heap.size) (off:=0) rfl aF rfl rfl) (Ea Js me0 (aT 0) [.k (eK f)] [iv n,iv d] [] (au (sc1 func70 (aT 1) (fun W v0 hG h0=>k2 ▸ bwb h0)) (au (tq rfl (aT 2) rfl rfl) (dh (aT 3) (ku (Ue (b:=w.heap.size) (off:=0) rfl aF rfl rfl) (ku (akq (b:=w.heap.size) (off:=7) rfl (aT 5) rfl rfl) (ku (Jd Fe me0 (aT 6) [.k (eK f)] [iv d] rfl) (ku (atl rfl (aT 7) (fe _) rfl k3) (au (mh rfl (aT 4) (aT 8)) ai)))))))))) ?_
     intro v2 V2 hG2 hv2 hne2;simp only[ay,Act.put,tA,exv (hv2 9 de)];replace HO:=ae hG2.1;clear hG2 hv2 hne2;go_upto_region 8 with fail;refine fw 1 [_] [] HO (Ak (fe _) ai) ?_
     intro v3 V3 hG3 hv3 ji;simp only[ay,Act.put,tA,exv (hv3 0 de)];replace HO:=ae hG3.1;clear hG3 hv3 ji;go_wp2_with fail;exact Ka results31 rfl (aa HO).bel rfl
   ·
    have k2:decide (qi n d)=false:=dw g2;have hv:v=1:=by rw[aa HV];exact if_neg (fun h=>g2 h.2.1)
    subst hv;clear HV;go_upto_region 6 with fail;refine fw 10 [_,_,_,_,_,_,_,_,_,_] [] HO (au (Ue (b:=w.heap.size) (off:=0) rfl aF rfl rfl) (Ea Js me0 (aT 0) [.k (eK f)] [iv n,iv d] [] (au (sc1 func70 (aT 1) (fun W v0 hG h0=>k2 ▸ bwb h0)) (au (tq rfl (aT 2) rfl rfl) (dh (aT 3) (ve (ve (ve (ve (au (qj rfl (aT 4) (fe _)) ai)))))))))) ?_
    intro v2 V2 hG2 hv2 hne2;simp only[ay,Act.put,tA,exv (hv2 9 de)];replace HO:=ae hG2.1;clear hG2 hv2 hne2;go_upto_region 7 with fail;refine fw 1 [_] [] HO (Ak (fe _) ai) ?_
    intro v3 V3 hG3 hv3 ji;simp only[ay,Act.put,tA,exv (hv3 0 de)];replace HO:=ae hG3.1;clear hG3 hv3 ji;go_wp2_with fail;exact Ka results31 rfl (aa HO).bel rfl
theorem blv {pp:Nat→Int} {x y2:Rat} (w:Wq) (u0:Vq) (h0:bz [.k (eK f),.r x] w u0) (u1:Vq) (h1:bz [.k (eK g),.r y] w u1) (hh:(∀ j,j<7→wrap64 (m*g j)=pp j)∧(∀ j,j<7→wrap64 (f j+pp j)=h j))
  (hp : ∀ W v0,Below w.heap.size w W→bz [.r y] W v0→Calls prog 71 #[v0,.int .i64 m] W (gp (bz [.r y2]) W))
  (hq : ∀ W v0 v1,Below w.heap.size w W→bz [.r x] W v0→bz [.r y2] W v1→Calls prog 62 #[v0,v1] W (gp (bz [.r a]) W)) :
  Calls prog 101 #[u0,u1,.int .i64 m] w (gp (bz [.k (eK h),.r a]) w):=by
 have HH:=ae hh
 have HP:=ae hp
 have HQ:=ae hq
 clear hh hp hq
 obtain⟨Ig,c0a,Hz,m0a,B0a,d0a,k0a,Ma,rfl,f0a⟩:=awx h0
 obtain⟨Jp,c1a,Jl,Yz,B1a,d1a,k1a,n1a,rfl,f1a⟩:=awx h1
 go_enter func101,ntmps101
 go_upto_region 1 with fail
 have hO:=(Own.push (T:=113) (ls:=zV) (Own.push (T:=113) (ls:=[.k (eK g),.r y]) (Own.push (T:=113) (ls:=[.k (eK f),.r x]) (Own.nil w) (gy.e (gy.r f0a rfl)) (w.heap.size) rfl) (gy.below (by repeat (first|exact df _ _|refine ic ?_ _)) (gy.e (gy.r f1a rfl))) (w.heap.size+1) (by simp only[yw])) (gy.below (by repeat (first|exact df _ _|refine ic ?_ _)) (gy.vs w [.int .i64 0,.int .i64 0,.int .i64 0,.int .i64 0,.int .i64 0,.int .i64 0,.int .i64 0,.slice none 0 0,.bool false,.slice none 0 0,.bool false] rfl)) (w.heap.size+2) (by simp only[yw]))
 generalize ((w.alloc (.cells #[.int .i64 (f 0),.int .i64 (f 1),.int .i64 (f 2),.int .i64 (f 3),.int .i64 (f 4),.int .i64 (f 5),.int .i64 (f 6),.slice Ig (List.length Hz) c0a,.bool m0a,.slice B0a (List.length k0a) d0a,.bool Ma] 113)).alloc (.cells #[.int .i64 (g 0),.int .i64 (g 1),.int .i64 (g 2),.int .i64 (g 3),.int .i64 (g 4),.int .i64 (g 5),.int .i64 (g 6),.slice Jp (List.length Jl) c1a,.bool Yz,.slice B1a (List.length k1a) d1a,.bool n1a] 113)).alloc (.cells #[.int .i64 0,.int .i64 0,.int .i64 0,.int .i64 0,.int .i64 0,.int .i64 0,.int .i64 0,.slice none 0 0,.bool false,.slice none 0 0,.bool false] 113)=W0 at *
 have HO:=ae hO
 clear hO
 refine fw 1 [_] [] HO (Ak (fe _) ai) ?_
 intro v1 V1 hG1 hv1 hne1
 simp only[ay,Act.put,tA,exv (hv1 0 de)]
 replace HO:=ae hG1.1
 clear hG1 hv1 hne1
 go_wp2_with fail
 go_loopw [7] (fun vk wr => ∃ k:Nat,k≤7∧vk = .int .i64 ((k:Nat):Int)∧Hid (Own w [(w.heap.size+2,113,zV),(w.heap.size+1,113,[.k (eK g),.r y]),(w.heap.size,113,[.k (eK (Nb f h k)),.r x])] wr)) (fun vk _=>7-(intOf vk).toNat)
 case atStart=>exact⟨0,by omega,rfl,by rw[aka];exact HO⟩
 case round =>
  obtain⟨k,hk,rfl,HO⟩:=hrel;have HK:=ae hk;clear hk
  by_cases g1:k<7
  ·
   have d1:decide ((k:Int)<7)=true:=dm om;have Bv:=ae g1;clear g1;go_upto_region 2 with fail;refine fw 2 [_,_] [] HO (dh aF (au (wu rfl (aT 0) (fe _) rfl d1) ai)) ?_
   intro v2 V2 hG2 hv2 hne2;simp only[ay,Act.put,tA,exv (hv2 1 de)];replace HO:=ae hG2.1;clear hG2 hv2 hne2;clear d1;go_upto_region 4 with fail;refine Nw 13 [_,_,_,_,_,_,_,_,_,_,_,_,_] [] HO (dh aF (au (Pw (b:=w.heap.size) (off:=0) rfl aF rfl rfl) (au (Lx (b:=w.heap.size) (k:=k) rfl (aT 1) (aT 0) (aa Bv) rfl) (au (aaj (f:=(Nb f h k)) Ed rfl (aT 2) (aa Bv) (avu f h k) rfl) (dh aF (dh aF (au (Pw (b:=w.heap.size+1) (off:=0) rfl aF rfl rfl) (au (Lx (b:=w.heap.size+1) (k:=k) rfl (aT 6) (aT 5) (aa Bv) rfl) (au (aaj (f:=g) uq rfl (aT 7) (aa Bv) rfl rfl) (au (akp rfl (aT 4) (aT 8) ((aa HH).1 k (aa Bv)) rfl) (au (atm rfl (aT 3) (aT 9) ((aa HH).2 k (aa Bv)) rfl) (au (Pw (b:=w.heap.size) (off:=0) rfl aF rfl rfl) (au (Lx (b:=w.heap.size) (k:=k) rfl (aT 11) (aT 0) (aa Bv) rfl) ai))))))))))))) ?_
   intro v3 V3 hG3 hv3 ji;simp only[ay,Act.put,tA,show v3 10 = .int .i64 (h k)from hv3 10 de,show v3 12 = .pointer (some ⟨w.heap.size,k,none⟩)from hv3 12 de];have hO:=hG3.1;refine asy (f:=(Nb f h k)) (g:=(Nb f h (k+1))) (k:=k) (v:=(h k)) hO 2 [.r x] rfl (aa Bv) rfl rfl (akb f h k) ?_
   intro Gc rf hk0;replace hO:=rf;clear rf;replace HO:=ae hO;clear hO hG3 hv3 ji hk0;go_wp2_with fail
   go_roundw
   case rel =>
    exact⟨k+1,by have:=aa Bv;omega,He (aa Bv) om,HO⟩
   case measure =>
    have h1:=aa Bv;clear HO;rw[Ih h1 om];exact measS h1
  ·
   obtain rfl:k=7:=by have:=aa HK;omega
   clear g1;rw[aoz]at HO;go_upto_region 2 with fail;refine fw 2 [_,_] [] HO (dh aF (au (wu rfl (aT 0) (fe _) rfl rfl) ai)) ?_
   intro v2 V2 hG2 hv2 hne2;simp only[ay,Act.put,tA,exv (hv2 1 de)];replace HO:=ae hG2.1;clear hG2 hv2 hne2;go_upto_region 5 with fail;refine Nw 8 [_,_,_,_,_,_,_,_] [] HO (au (Ky (b:=w.heap.size) (off:=0) rfl aF rfl rfl) (Ea Dt Ed (aT 0) [.k (eK h)] [.r x] [] (au (Ky (b:=w.heap.size+1) (off:=0) rfl aF rfl rfl) (Ea Dt uq (aT 2) [.k (eK g)] [.r y] [] (dh aF (au (sc2 func71 (aT 3) (aT 4) (fun W v0 v1 hG h0 h1=>by cases h1;exact aa HP W v0 hG.bel h0)) (au (sc2 func62 (aT 1) (aT 5) (fun W v0 v1 hG h0 h1=>aa HQ W v0 v1 hG.bel h0 h1)) (au (Ky (b:=w.heap.size) (off:=0) rfl aF rfl rfl) ai)))))))) ?_
   intro v3 V3 hG3 hv3 ji;simp only[ay,Act.put,tA,show v3 7 = .pointer (some ⟨w.heap.size,7,none⟩)from hv3 7 de];have hO:=hG3.1;refine asz hO 2 [.k (eK h)] [.r x] [.r a] [] rfl Cv rfl (show bz [.r a] V3 (v3 6)from hv3 6 de) rfl rfl rfl ?_
   intro Gc rf hk0;replace hO:=rf;clear rf;replace HO:=ae hO;clear hO hG3 hv3 ji hk0;go_upto_region 6 with fail;refine fw 1 [_] [] HO (xh Zb Ed aF ai) ?_
   intro v4 V4 hG4 hv4 ma;simp only[ay,Act.put,tA];have hO:=hG4.1;refine kg hO 0 Aw (hv4 0 de) ?_
   clear hO;intro Dy hO hk0;replace HO:=ae hO;clear hO hG4 hv4 ma hk0;go_wp2_with fail;exact Ga results101 Ik rfl (aa HO) me0 rfl rfl
theorem chc {d:Option Tmp} (h:ρ x = .agg #[u0,u1,u2,u3]) :
  (execOp ρ { dst:=d,op := .build 113 #[(1,x)],type:=ty,pos:=pos,after:=af,guard:=gd}).run prog w = .ok (.value (.agg #[.int .i64 0,.int .i64 0,.int .i64 0,.int .i64 0,.int .i64 0,.int .i64 0,.int .i64 0,u0,u1,u2,u3])) w:=by
 simp only[execOp]
 simp[go_sem,h]
 try rfl
theorem cqs (hal:al.contains k=false) (hx:cu l n T a0 k x (bz [.r q])) (hT:T k=bz [.k (eK z7),.r q]) :
  ib prog Q l n T G il al a0 k { dst:=some d,op := .build 113 #[(1,x)],type:=ty,pos:=pos,after:=af,guard:=gd}:=by
 intro a w hG hO hN
 obtain⟨A1,c1,l1,m1,A2,c2,l2,m2,e1,g1⟩:=ail (hx a w hO hN)
 have hr:=chc (w:=w) (d:=some d) (ty:=ty) (pos:=pos) (af:=af) (gd:=gd) e1
 exact wvz hr hG hal (by rw[hT];exact⟨_,rfl,gy.e (f:=z7) (gy.r g1 rfl)⟩)
theorem bti (w:Wq):Calls prog 106 #[] w (gp (bz [.k (eK z7),.r (Rat.divInt 1 1)]) w):=by
 go_enter func106,ntmps106
 go_upto_region 1 with fail
 have hO:=(Own.push (T:=113) (ls:=zV) (Own.nil w) (gy.vs w [.int .i64 0,.int .i64 0,.int .i64 0,.int .i64 0,.int .i64 0,.int .i64 0,.int .i64 0,.slice none 0 0,.bool false,.slice none 0 0,.bool false] rfl) (w.heap.size) rfl)
 generalize w.alloc (.cells #[.int .i64 0,.int .i64 0,.int .i64 0,.int .i64 0,.int .i64 0,.int .i64 0,.int .i64 0,.slice none 0 0,.bool false,.slice none 0 0,.bool false] 113)=W0 at *
 have HO:=ae hO
 clear hO
 refine fw 2 [_,_] [] HO (au (sc1 func95 (fe _) (fun W v0 hG h0=>by cases h0;exact atr 1 om om W)) (au (cqs rfl (aT 0) rfl) ai)) ?_
 intro v1 V1 hG1 hv1 hne1
 simp only[ay,Act.put,tA]
 have hO:=hG1.1
 refine kg hO 0 Aw (hv1 1 de) ?_
 clear hO
 intro Ep hO hk0
 replace HO:=ae hO
 clear hO hG1 hv1 hne1 hk0
 go_wp2_with fail
 exact Ga results106 Ik rfl (aa HO) me0 rfl rfl
theorem bsx {x:Rat} (t:Xy) (w:Wq) (u0:Vq) (h0:bz [.k (eK f),.r x] w u0)
  (hr:(¬ uw x→t=⟨z7,0,0,3⟩)∧(uw x→okU f x.num (x.den:Int)→t=⟨f,x.num,x.den,0⟩)∧(uw x → ¬ okU f x.num (x.den:Int)→t=⟨z7,0,0,3⟩)) :
  Calls prog 102 #[u0] w (gp (Kg t) w):=by
 have HR:=ae hr
 clear hr
 obtain⟨Ig,c0a,Hz,m0a,B0a,d0a,k0a,Ma,rfl,f0a⟩:=awx h0
 go_enter func102,ntmps102
 go_upto_region 1 with fail
 have hO:=(Own.push (T:=44) (ls:=zU) (Own.push (T:=113) (ls:=[.k (eK f),.r x]) (Own.nil w) (gy.e (gy.r f0a rfl)) (w.heap.size) rfl) (gy.below (by repeat (first|exact df _ _|refine ic ?_ _)) (gy.vs w [.int .i64 0,.int .i64 0,.int .i64 0,.int .i64 0,.int .i64 0,.int .i64 0,.int .i64 0,.int .i64 0,.int .i64 0] rfl)) (w.heap.size+1) (by simp only[yw]))
 generalize (w.alloc (.cells #[.int .i64 (f 0),.int .i64 (f 1),.int .i64 (f 2),.int .i64 (f 3),.int .i64 (f 4),.int .i64 (f 5),.int .i64 (f 6),.slice Ig (List.length Hz) c0a,.bool m0a,.slice B0a (List.length k0a) d0a,.bool Ma] 113)).alloc (.cells #[.int .i64 0,.int .i64 0,.int .i64 0,.int .i64 0,.int .i64 0,.int .i64 0,.int .i64 0,.int .i64 0,.int .i64 0] 44)=W0 at *
 have HO:=ae hO
 clear hO
 by_cases g0:uw x
 ·
  by_cases g1:okU f x.num (x.den:Int)
  ·
   have k1:blc f x.num (x.den:Int)=0:=if_pos g1;have hr:t=⟨f,x.num,x.den,0⟩:=(aa HR).2.1 g0 g1;subst hr;clear HR;have HF:=ae g0;clear g0;go_upto_region 1 with fail;refine fw 7 [_,_,_,_,_,_,_] [6] HO (au (Ky (b:=w.heap.size) (off:=0) rfl aF rfl rfl) (Ea Dt uq (aT 0) [.k (eK f)] [.r x] [] (au (sc1 func125 (aT 1) (fun W v0 hG h0=>apj (aa HF) h0)) (dh (aT 2) (pq [bz [iv x.num,iv (x.den:Int)],ax (.bool true)] (aT 3) (pq _ (aT 3) (Am Lr ai))))))) ?_
   intro v1 V1 hG1 hv1 hne1;obtain⟨aeh,e6,ym,Bg⟩:=(show qw 23 zR W0.heap.size V1 (v1 6)from hv1 6 de)
   simp only[ay,Act.put,tA,exv (hv1 5 de),e6];have hO:=hG1.1;replace hO:=Own.add (aa HO) hG1.2 ym Bg;clear ym Bg;refine kg hO 0 Gg (hv1 4 de) ?_
   clear hO;intro Ep hO hk0;replace HO:=ae hO;clear hO hG1 hv1 hne1 hk0;try clear e6;go_upto_region 2 with fail;refine fw 5 [_,_,_,_,_] [4] HO (au (Pw (b:=w.heap.size) (off:=0) rfl aF rfl rfl) (Ea Vl Ed (aT 0) [] [.k (eK f)] [.r x] (xh Js me0 aF (au (Gu afs rfl (aT 1) (aT 2) rfl rfl rfl) (Am Ng ai))))) ?_
   intro v2 V2 hG2 hv2 hne2;obtain⟨byv,e4,hge4,Mq⟩:=(show qw 44 zU Ep.heap.size V2 (v2 4)from hv2 4 de)
   simp only[ay,Act.put,tA,e4];have hO:=hG2.1;replace hO:=Own.add (aa HO) hG2.2 hge4 Mq;clear hge4 Mq;refine kg hO 0 vv (hv2 3 de) ?_
   clear hO;intro Oy hO hk0;replace HO:=ae hO;clear hO hG2 hv2 hne2 hk0;try clear e4;go_upto_region 3 with fail;refine fw 7 [_,_,_,_,_,_,_] [] HO (dh aF (au (tq rfl (aT 0) rfl rfl) (dh (aT 1) (ku (El Zc me0 aF [] [.k (eK f),iv x.num,iv (x.den:Int)] []) (ku (Ei func31 kr rfl iw.step (aT 3) (fun W v0 hG h0=>k1 ▸ bjp W _ h0)) (ku (aff rfl (aT 4) (fe _) rfl rfl) (au (mh rfl (aT 2) (aT 5)) ai))))))) ?_
   intro v3 V3 hG3 hv3 ji;simp only[ay,Act.put,tA,exv (hv3 6 de)];replace HO:=ae hG3.1;clear hG3 hv3 ji;go_upto_region 5 with fail;refine fw 1 [_] [] HO (xh Zc me0 aF ai) ?_
   intro v4 V4 hG4 hv4 ma;simp only[ay,Act.put,tA];have hO:=hG4.1;refine kg hO 2 vv (hv4 0 de) ?_
   clear hO;intro Dy hO hk0;replace HO:=ae hO;clear hO hG4 hv4 ma hk0;go_wp2_with fail;exact vo results102 Bq rfl rfl (aa HO) Ed rfl rfl
  ·
   have k1:blc f x.num (x.den:Int)=1:=if_neg g1;have hr:t=⟨z7,0,0,3⟩:=(aa HR).2.2 g0 g1;subst hr;clear HR;have HF:=ae g0;clear g0;go_upto_region 1 with fail;refine fw 7 [_,_,_,_,_,_,_] [6] HO (au (Ky (b:=w.heap.size) (off:=0) rfl aF rfl rfl) (Ea Dt uq (aT 0) [.k (eK f)] [.r x] [] (au (sc1 func125 (aT 1) (fun W v0 hG h0=>apj (aa HF) h0)) (dh (aT 2) (pq [bz [iv x.num,iv (x.den:Int)],ax (.bool true)] (aT 3) (pq _ (aT 3) (Am Lr ai))))))) ?_
   intro v1 V1 hG1 hv1 hne1;obtain⟨aeh,e6,ym,Bg⟩:=(show qw 23 zR W0.heap.size V1 (v1 6)from hv1 6 de)
   simp only[ay,Act.put,tA,exv (hv1 5 de),e6];have hO:=hG1.1;replace hO:=Own.add (aa HO) hG1.2 ym Bg;clear ym Bg;refine kg hO 0 Gg (hv1 4 de) ?_
   clear hO;intro Ep hO hk0;replace HO:=ae hO;clear hO hG1 hv1 hne1 hk0;try clear e6;go_upto_region 2 with fail;refine fw 5 [_,_,_,_,_] [4] HO (au (Pw (b:=w.heap.size) (off:=0) rfl aF rfl rfl) (Ea Vl Ed (aT 0) [] [.k (eK f)] [.r x] (xh Js me0 aF (au (Gu afs rfl (aT 1) (aT 2) rfl rfl rfl) (Am Ng ai))))) ?_
   intro v2 V2 hG2 hv2 hne2;obtain⟨byv,e4,hge4,Mq⟩:=(show qw 44 zU Ep.heap.size V2 (v2 4)from hv2 4 de)
   simp only[ay,Act.put,tA,e4];have hO:=hG2.1;replace hO:=Own.add (aa HO) hG2.2 hge4 Mq;clear hge4 Mq;refine kg hO 0 vv (hv2 3 de) ?_
   clear hO;intro Oy hO hk0;replace HO:=ae hO;clear hO hG2 hv2 hne2 hk0;try clear e4;go_upto_region 3 with fail;refine fw 7 [_,_,_,_,_,_,_] [] HO (dh aF (au (tq rfl (aT 0) rfl rfl) (dh (aT 1) (ku (El Zc me0 aF [] [.k (eK f),iv x.num,iv (x.den:Int)] []) (ku (Ei func31 kr rfl iw.step (aT 3) (fun W v0 hG h0=>k1 ▸ bjp W _ h0)) (ku (aff rfl (aT 4) (fe _) rfl rfl) (au (mh rfl (aT 2) (aT 5)) ai))))))) ?_
   intro v3 V3 hG3 hv3 ji;simp only[ay,Act.put,tA,exv (hv3 6 de)];replace HO:=ae hG3.1;clear hG3 hv3 ji;go_upto_region 4 with fail;refine fw 1 [_] [] HO (au (Pv rfl rfl) ai) ?_
   intro v4 V4 hG4 hv4 ma;simp only[ay,Act.put,tA];have hO:=hG4.1;refine kg hO 2 vv (hv4 0 de) ?_
   clear hO;intro Dy hO hk0;replace HO:=ae hO;clear hO hG4 hv4 ma hk0;go_wp2_with fail;exact vo results102 Bq rfl rfl (aa HO) Ed rfl rfl
 ·
  have hr:t=⟨z7,0,0,3⟩:=(aa HR).1 g0;subst hr;clear HR;have HF:=ae g0;clear g0;go_upto_region 1 with fail;refine yc 7 26 (ui [ax (.pointer (some ⟨w.heap.size,7,none⟩)),bz [.r x],ko [Wm,ax (.bool false)],ko [Wm,ax (.bool false)],Wm,ax (.bool false),qw 23 zR W0.heap.size]) (iw w _ W0) il [6] kr rfl (qm.pick ⟨fo _,Ae _,rq ⟨(Wy),(fo _),trivial⟩,rq ⟨(Wy),(fo _),trivial⟩,Wy,fo _,Nf _ _ _,trivial⟩) (iw.begin (aa HO))
   (au (Ky (b:=w.heap.size) (off:=0) rfl aF rfl rfl)
   (au (El Dt uq (aT 0) [.k (eK f)] [.r x] [])
   (au (sc1 func125 (aT 1) (fun W v0 hG h0=>bcu (aa HF) h0))
   (au (jh rfl (aT 2))
   (au (xq (ts:=[Wm,ax (.bool false)]) rfl (aT 3) (sw rfl) rfl)
   (au (xq (ts:=[Wm,ax (.bool false)]) rfl (aT 3) (sw rfl) rfl)
   (au (Ud Lr rfl iw.step iw.size rfl (Yv (by intro j hj;simp at hj;(repeat' (first|(rcases hj with rfl|hj)))<;>first|(subst hj;exact⟨_,_,_,rfl⟩)|exact⟨_,_,_,rfl⟩)))
   ai))))))) ?_
  intro v1 V1 hG1 hv1 hne1;obtain⟨aeh,e6,ym,Bg⟩:=(show qw 23 zR W0.heap.size V1 (v1 6)from hv1 6 de)
  simp only[ay,Act.put,tA,exv (hv1 5 de),e6];have hO:=hG1.1;replace hO:=Own.add (aa HO) hG1.2 ym Bg;clear ym Bg;obtain⟨cmg,cmi,hy4⟩:=(show Wm V1 (v1 4)from hv1 4 de)
  refine kg hO 0 Gg (show bz [iv cmg,iv cmi] V1 (v1 4)from hy4) ?_
  clear hO;intro Ep hO hk0;replace HO:=ae hO;clear hO hG1 hv1 hne1 hk0;try clear e6;go_upto_region 2 with fail;refine fw 5 [_,_,_,_,_] [4] HO (au (Pw (b:=w.heap.size) (off:=0) rfl aF rfl rfl) (Ea Vl Ed (aT 0) [] [.k (eK f)] [.r x] (xh Js me0 aF (au (Gu afs rfl (aT 1) (aT 2) rfl rfl rfl) (Am Ng ai))))) ?_
  intro v2 V2 hG2 hv2 hne2;obtain⟨byv,e4,hge4,Mq⟩:=(show qw 44 zU Ep.heap.size V2 (v2 4)from hv2 4 de)
  simp only[ay,Act.put,tA,e4];have hO:=hG2.1;replace hO:=Own.add (aa HO) hG2.2 hge4 Mq;clear hge4 Mq;refine kg hO 0 vv (hv2 3 de) ?_
  clear hO;intro Oy hO hk0;replace HO:=ae hO;clear hO hG2 hv2 hne2 hk0;try clear e4;go_upto_region 3 with fail;refine fw 7 [_,_,_,_,_,_,_] [] HO (dh aF (au (tq rfl (aT 0) rfl rfl) (dh (aT 1) (ve (ve (ve (au (qj rfl (aT 2) (fe _)) ai))))))) ?_
  intro v3 V3 hG3 hv3 ji;simp only[ay,Act.put,tA,exv (hv3 6 de)];replace HO:=ae hG3.1;clear hG3 hv3 ji;go_upto_region 4 with fail;refine fw 1 [_] [] HO (au (Pv rfl rfl) ai) ?_
  intro v4 V4 hG4 hv4 ma;simp only[ay,Act.put,tA];have hO:=hG4.1;refine kg hO 2 vv (hv4 0 de) ?_
  clear hO;intro Dy hO hk0;replace HO:=ae hO;clear hO hG4 hv4 ma hk0;go_wp2_with fail;exact vo results102 Bq rfl rfl (aa HO) Ed rfl rfl
end Sb


namespace Sb
theorem ceh {n d:Int} (h:okU f n d):0<jw n d:=by
 have h1:=(Tu h.2.1).1
 have h2:0<(jw n d).num:=by rw[h1];have:=h.2.2;omega
 have h3:0≤jw n d:=ajl.1 om
 refine Rat.lt_of_le_of_ne h3 (fun e => ?_)
 rw[← e]at h2
 exact absurd h2 de
end Sb


namespace Sb
theorem bsy {x:Rat} (hx:0<x):(¬ uw x→xk f x=⟨z7,0,0,3⟩)∧(uw x→okU f x.num (x.den:Int)→xk f x=⟨f,x.num,x.den,0⟩)∧(uw x → ¬ okU f x.num (x.den:Int)→xk f x=⟨z7,0,0,3⟩):=by
 have hn:1≤x.num:=by
  have h1:0≤x.num:=ajl.2 (Rat.le_of_lt hx);have h2:=Qu hx;omega
 refine⟨fun h => ?_,fun h ho => ?_,fun h ho => ?_⟩
 ·
  have e:jf x=⟨0,0,3⟩:=if_neg h;unfold xk;rw[e]
  split
  ·
   rfl
  ·
   rfl
 ·
  have e:jf x=⟨x.num,x.den,0⟩:=if_pos h;unfold xk;rw[e,if_pos ho.1,if_pos rfl]
 ·
  unfold xk;rw[if_neg (fun k=>ho ⟨k,avf h,hn⟩)]
theorem btm {x:Rat} (hx:0<x) (w:Wq) (u0:Vq) (h0:bz [.k (eK f),.r x] w u0):Calls prog 102 #[u0] w (gp (Kg (xk f x)) w):=bsx _ w u0 h0 (bsy hx)
end Sb


namespace Sb
end Sb


namespace Sb
variable {Q:Exit→Act→Wq→Prop} {l:List Oper} {n:Nat} {T:Nat→Wq→Vq→Prop} {G:Wq→Prop} {al:List Nat} {a0:Act} {k d:Nat} {ty:TypeId} {pos:String} {af:Array Edge} {gd:Option (Nat×Bool)}
theorem byk (d:Nat) (f:Nat→Int) (w:Wq):(Op.equalIn (d+2) 42 (.agg #[Value.int .i64 (f 0),Value.int .i64 (f 1),Value.int .i64 (f 2),Value.int .i64 (f 3),Value.int .i64 (f 4),Value.int .i64 (f 5),Value.int .i64 (f 6)]) (.agg #[Value.int .i64 (f 0),Value.int .i64 (f 1),Value.int .i64 (f 2),Value.int .i64 (f 3),Value.int .i64 (f 4),Value.int .i64 (f 5),Value.int .i64 (f 6)])).run prog w = .ok true w:=by
 obtain⟨i,hi⟩ : ∃ i,prog.info? 3=some i:=by
  have:=bxf
  cases h:prog.info? 3 with
  | none=>rw[h]at this;cases this
  | some i=>exact⟨i,rfl⟩
 have hc:prog.cellsOf 3=1:=by kernel_rfl
 have key:=fun w=>run_equalIn_array (P:=prog) (w:=w) (d+1) (t:=42) (e:=3) (n:=7) #[Value.int .i64 (f 0),Value.int .i64 (f 1),Value.int .i64 (f 2),Value.int .i64 (f 3),Value.int .i64 (f 4),Value.int .i64 (f 5),Value.int .i64 (f 6)] #[Value.int .i64 (f 0),Value.int .i64 (f 1),Value.int .i64 (f 2),Value.int .i64 (f 3),Value.int .i64 (f 4),Value.int .i64 (f 5),Value.int .i64 (f 6)] underlying42 hi
 rw[hc,show List.range 7=[0,1,2,3,4,5,6]by rfl]at key
 have step : ∀ (a:Int) (w:Wq),(Op.equalIn (d+1) 3 (.int .i64 a) (.int .i64 a)).run prog w = .ok true w:=fun a w=>by
  unfold Op.equalIn;simp[go_sem]
 have hp : ∀ (i:Nat) (w:Wq),i<7→(part 3 #[Value.int .i64 (f 0),Value.int .i64 (f 1),Value.int .i64 (f 2),Value.int .i64 (f 3),Value.int .i64 (f 4),Value.int .i64 (f 5),Value.int .i64 (f 6)] (i*1)).run prog w = .ok (.int .i64 (f i)) w:=fun i w hi=>by
  have hc:i=0∨i=1∨i=2∨i=3∨i=4∨i=5∨i=6:=by omega
  rcases hc with rfl|rfl|rfl|rfl|rfl|rfl|rfl<;>simp[go_sem]
 have it : ∀ (i:Nat) (is:List Nat) (w:Wq),i<7→(Op.eqItems (d+1) 3 1 #[Value.int .i64 (f 0),Value.int .i64 (f 1),Value.int .i64 (f 2),Value.int .i64 (f 3),Value.int .i64 (f 4),Value.int .i64 (f 5),Value.int .i64 (f 6)] #[Value.int .i64 (f 0),Value.int .i64 (f 1),Value.int .i64 (f 2),Value.int .i64 (f 3),Value.int .i64 (f 4),Value.int .i64 (f 5),Value.int .i64 (f 6)] (i::is)).run prog w=(Op.eqItems (d+1) 3 1 #[Value.int .i64 (f 0),Value.int .i64 (f 1),Value.int .i64 (f 2),Value.int .i64 (f 3),Value.int .i64 (f 4),Value.int .i64 (f 5),Value.int .i64 (f 6)] #[Value.int .i64 (f 0),Value.int .i64 (f 1),Value.int .i64 (f 2),Value.int .i64 (f 3),Value.int .i64 (f 4),Value.int .i64 (f 5),Value.int .i64 (f 6)] is).run prog w:=fun i is w hi=>by
  simp only[Op.eqItems,ajk,hp _ _ hi,Result.andThen_ok,step]
  simp
 refine(key w).trans ?_
 rw[it 0 _ _ om,it 1 _ _ om,it 2 _ _ om,it 3 _ _ om,it 4 _ _ om,it 5 _ _ om,it 6 _ _ om]
 simp[Op.eqItems]
abbrev Dg (f:Nat→Int) (n d:Int):Vq := .agg #[.int .i64 (f 0),.int .i64 (f 1),.int .i64 (f 2),.int .i64 (f 3),.int .i64 (f 4),.int .i64 (f 5),.int .i64 (f 6),.int .i64 n,.int .i64 d]
theorem byj (k:Nat) (n d:Int) (w:Wq):(Op.equalIn (k+2) 23 (.agg #[.int .i64 n,.int .i64 d]) (.agg #[.int .i64 n,.int .i64 d])).run prog w = .ok true w:=by
 unfold Op.equalIn
 simp[go_sem]
theorem byi (k:Nat) (f:Nat→Int) (n d:Int) (w:Wq):(Op.equalIn (k+3) 44 (Dg f n d) (Dg f n d)).run prog w = .ok true w:=by
 have h1:=fun w=>byk k f w
 have h2:=fun w=>byj k n d w
 unfold Op.equalIn
 simp[go_sem,h1,h2]
def bgx (f:Nat→Int) (n d e:Int):Wq→Vq→Prop:=fun W v => ∃ b1 b2,v = .func (.func 97) #[] #[.pointer (some ⟨b1,0,none⟩),.pointer (some ⟨b2,0,none⟩)]∧zn W b1 44 [.k (eK f),iv n,iv d]∧zn W b2 24 [iv e]
theorem cbf {n d:Int} (w:Wq) (u0:Vq) (h0:bz [.k (eK f),iv n,iv d] w u0) (u1:Vq) (h1:ax (.int .i64 e) w u1):Calls prog 32 #[u0,u1] w (gp (bgx f n d e) w):=by
 have hu0:=abl h0
 subst hu0
 cases h1
 clear h0
 have hmf : ∀ (fn:Fn) (first cap:Array Vq) (w:Wq),(Instr.makeFunc fn first cap).run prog w = .ok (.func fn first cap) w:=fun _ _ _ _=>rfl
 go_enter func32,ntmps32
 go_wp2_with fail
 have n1:=heap_alloc_new w (.cells #[.int .i64 (f 0),.int .i64 (f 1),.int .i64 (f 2),.int .i64 (f 3),.int .i64 (f 4),.int .i64 (f 5),.int .i64 (f 6),.int .i64 n,.int .i64 d] 44)
 have hb:=ic (df w.heap.size w) (.cells #[.int .i64 (f 0),.int .i64 (f 1),.int .i64 (f 2),.int .i64 (f 3),.int .i64 (f 4),.int .i64 (f 5),.int .i64 (f 6),.int .i64 n,.int .i64 d] 44)
 have sz:(w.alloc (.cells #[.int .i64 (f 0),.int .i64 (f 1),.int .i64 (f 2),.int .i64 (f 3),.int .i64 (f 4),.int .i64 (f 5),.int .i64 (f 6),.int .i64 n,.int .i64 d] 44)).heap.size=w.heap.size+1:=by simp only[yw]
 generalize w.alloc (.cells #[.int .i64 (f 0),.int .i64 (f 1),.int .i64 (f 2),.int .i64 (f 3),.int .i64 (f 4),.int .i64 (f 5),.int .i64 (f 6),.int .i64 n,.int .i64 d] 44)=W1 at *
 have n2:=heap_alloc_new W1 (.cells #[.int .i64 e] 24)
 have hb2:=ic (df W1.heap.size W1) (.cells #[.int .i64 e] 24)
 generalize W1.alloc (.cells #[.int .i64 e] 24)=W2 at *
 rw[sz]at n2
 have b1:zn W1 w.heap.size 44 [.k (eK f),iv n,iv d]:=⟨_,n1,gy.e (gy.v (xc _) (gy.v (xc _) rfl))⟩
 exact bodyPost_ret (v := .func (.func 97) #[] #[.pointer (some ⟨w.heap.size,0,none⟩),.pointer (some ⟨w.heap.size+1,0,none⟩)]) (by simp[results,results32,go_sem]) rfl
  ⟨_,rfl,az hb hb2,_,_,rfl,b1.below hb2,⟨_,n2,gy.v (xc _) rfl⟩⟩
theorem bis {y:Operand} (hal:al.contains k=false) (hx:cu l n T a0 k x (bz [.k (eK f),iv u,iv v])) (hy:cu l n T a0 k y (bz [.k (eK f),iv u,iv v])) (hT:T k=ax (.bool true)) :
  ib prog Q l n T G il al a0 k { dst:=some d,op := .binOp .eql 44 x y 44,type:=ty,pos:=pos,after:=af,guard:=gd}:=by
 intro a w hG hO hN
 have h1:=abl (hx a w hO hN)
 have h2:=abl (hy a w hO hN)
 have key:=fun w=>byi 9997 f u v w
 have hr:(execOp a.eval { dst:=some d,op := .binOp .eql 44 x y 44,type:=ty,pos:=pos,after:=af,guard:=gd}).run prog w = .ok (.value (.bool true)) w:=by
  simp only[execOp,h1,h2];simp[go_sem,key]
 exact wvz hr hG hal (by rw[hT];rfl)
theorem cha {b:Nat} (hb : ∀ W,G W→zn W b 24 [iv e]) (hal:al.contains k=false) (hx:cu l n T a0 k x (ax (.pointer (some ⟨b,0,none⟩)))) (hT:T k=ax (.int .i64 e)) :
  ib prog Q l n T G il al a0 k { dst:=some d,op := .load 24 x,type:=ty,pos:=pos,after:=af,guard:=gd}:=by
 intro a w hG hO hN
 have hp:a.eval x = .pointer (some ⟨b,0,none⟩):=hx a w hO hN
 obtain⟨cs,h1,h2⟩:=hb w hG
 obtain⟨v,rfl,h3⟩:=h2.Jc
 have hc:w.cell? ⟨b,0,none⟩=some (.int .i64 e):=by simp[World.cell?,h1]
 have hr:(execOp a.eval { dst:=some d,op := .load 24 x,type:=ty,pos:=pos,after:=af,guard:=gd}).run prog w = .ok (.value (.int .i64 e)) w:=by
  simp only[execOp,hp];simp[go_sem,hc]
 exact wvz hr hG hal (by rw[hT];rfl)
theorem bqa {n d:Int} {b1 b2:Nat} (w:Wq) (hb:zn w b1 44 [.k (eK f),iv n,iv d]∧zn w b2 24 [iv e]) (u0:Vq) (h0:bz [.k (eK f),iv n,iv d] w u0) :
  Calls prog 97 #[u0,.int .i64 e,.pointer (some ⟨b1,0,none⟩),.pointer (some ⟨b2,0,none⟩)] w (gp (ax (.bool true)) w):=by
 have HB:=ae hb
 clear hb
 have hu0:=abl h0
 subst hu0
 go_enter func97,ntmps97
 go_upto_region 1 with fail
 have hO:=(Own.push (T:=44) (ls:=[.k (eK f),iv n,iv d]) (Own.nil w) (gy.e (gy.v (xc _) (gy.v (xc _) rfl))) (w.heap.size) rfl)
 generalize w.alloc (.cells #[.int .i64 (f 0),.int .i64 (f 1),.int .i64 (f 2),.int .i64 (f 3),.int .i64 (f 4),.int .i64 (f 5),.int .i64 (f 6),.int .i64 n,.int .i64 d] 44)=W0 at *
 have HO:=ae hO
 clear hO
 refine fw 9 [_,_,_,_,_,_,_,_,_] [] HO (au (bcl (b:=b1) (off:=0) (TB:=44) (pre:=[]) (mid:=[.k (eK f),iv n,iv d]) (post:=[]) Zc rfl aF (fun W h=>(aa HB).1.below h.1.bel) rfl rfl rfl) (xh Zc me0 aF (au (bis rfl (aT 0) (aT 1) rfl) (dh (aT 2) (ku (cha (b:=b2) (fun W h=>(aa HB).2.below h.1.bel) rfl aF rfl) (ku (jh rfl aF) (ku (Yp rfl (aT 4) (aT 5) rfl (Yc _)) (au (qj rfl (aT 3) (aT 6)) (Ak (aT 7) ai))))))))) ?_
 intro v1 V1 hG1 hv1 hne1
 simp only[ay,Act.put,tA,exv (hv1 7 de),exv (hv1 8 de)]
 replace HO:=ae hG1.1
 clear hG1 hv1 hne1
 go_wp2_with fail
 exact Ka results97 rfl (aa HO).bel rfl
end Sb


namespace Sb
theorem bca {n d:Int}:yu il (bgx f n d e):=by
 rintro w w' v hb ⟨b1,b2,rfl,h1,h2⟩
 exact⟨b1,b2,rfl,h1.below hb,h2.below hb⟩
theorem bqr {P:Program} {cap:Array Vq} (hF : ∀ (vs:Array Vq) (w:Wq),(callFunc F vs).run P w = .ok (.enter F vs) w) {a:Act} {d:Option Tmp} {xs:Array Operand} (hx:a.eval x = .func (.func F) #[] cap) :
  (execOp a.eval { dst:=d,op := .call { callee := .value x,args:=xs,argTypes:=ats},type:=ty,pos:=pos,after:=af,guard:=gd}).run P w = .ok (.enter F (xs.map a.eval++cap)) w:=by
 have h:=hF (#[]++xs.map a.eval++cap) w
 rw[avt]at h
 rw[← h]
 simp only[execOp,resolve,hx,Deferred.ofValue,invoke]
 simp only[pure_bind,avt]
theorem biu {x1 x2:Operand} (hal:al.contains k=false) (Qe : ∀ W W',G W→il W W'→G W') (hf:cu l n T a0 k x (bgx f u v e)) (h1:cu l n T a0 k x1 (bz [.k (eK f),iv u,iv v])) (h2:cu l n T a0 k x2 (ax (.int .i64 e))) (hT:T k=ax (.bool true)) :
  ib prog Q l n T G il al a0 k { dst:=some d,op := .call { callee := .value x,args:=#[x1,x2],argTypes:=ats},type:=ty,pos:=pos,after:=af,guard:=gd}:=by
 intro a w hG hO hN
 obtain⟨b1,b2,e1,B1,B2⟩:=hf a w hO hN
 have e2:a.eval x2 = .int .i64 e:=h2 a w hO hN
 refine Wv (bqr (Oo func97 kr) e1) ?_
 simp only[Rk,Gr,Rl,e2]
 refine(bqa w ⟨B1,B2⟩ (a.eval x1) (h1 a w hO hN)).mono ?_
 rintro e w' ⟨u,rfl,hb,ht⟩
 exact⟨u,rfl,u,rfl,Qe _ _ hG hb,hb,by rw[hT];exact ht,fun h=>by rw[hal]at h;cases h⟩
end Sb

namespace Sb
def ents:List (ByteArray×Vq)→Nat→List MapEntry
 | [],_=>[]
 | (k,v)::l,j=>{ key := .string k,val:=v,born:=j}::ents l (j+1)
def Cm (W:Wq) (r:Nat) (l:List (ByteArray×Vq)):Prop:=W.heap[r]? = some (.map (ents l 0).toArray l.length)
def findT (s:ByteArray):List (ByteArray×Vq)→Option Vq
 | []=>none
 | (k,v)::l=>if s=k then some v else findT s l
theorem Cm.below {W':Wq} {l:List (ByteArray×Vq)} (h:Cm W r l) (hb:Below W.heap.size W W'):Cm W' r l:=(hb.block _ (lt_of_block h)).trans h
theorem ayy : ∀ (l:List (ByteArray×Vq)) (k:ByteArray) (v:Vq) (j:Nat),ents (l++[(k,v)]) j=ents l j++[{ key := .string k,val:=v,born:=j+l.length}]
 | [],_,_,_=>rfl
 | (k',v')::l,k,v,j=>by
  rw[Ut,ents,ayy l k v (j+1),ents,Db,show j+1+l.length=j+(l.length+1)by omega];rfl
theorem alp (s:ByteArray) : ∀ (l:List (ByteArray×Vq)) (i j:Nat),∃ o,Instr.findNow .string (.string s) (ents l j) i=some o∧o.map (·.2)=findT s l
 | [],_,_=>⟨none,rfl,rfl⟩
 | (k,v)::l,i,j=>by
  by_cases h:s=k
  ·
   subst h;refine⟨some (i,v),?_,?_⟩
   ·
    have hb:(s==s)=true:=(MapKept.bytes_beq s s).2 rfl;rw[ents,Instr.findNow];simp only[Instr.sameNow,hb]
   ·
    rw[findT,if_pos rfl];rfl
  ·
   obtain⟨o,h1,h2⟩:=alp s l (i+1) (j+1);refine⟨o,?_,?_⟩
   ·
    have hb:(s==k)=false:=by rw[Bool.eq_false_iff];exact fun e=>h ((MapKept.bytes_beq s k).1 e)
    rw[ents,Instr.findNow];simp only[Instr.sameNow,hb,h1]
   ·
    rw[findT,if_neg h,h2]
theorem bdm (k:ByteArray) (e:Bool) (w:Wq):(Instr.checkKey e 10000 9 (.string k)).run prog w = .ok () w :=
 MapKept.run_checkKey (n:=9999) underlying9 (show MapKept.IsKey .string (.string k)by simp[MapKept.IsKey]) e
theorem blr {l:List (ByteArray×Vq)} {k:ByteArray} {v:Vq} (h:Cm w r l) (hk:findT k l=none) :
  (Instr.mapUpdate 136 (.map (some r)) (.string k) v).run prog w = .ok () { w with heap:=w.heap.setIfInBounds r (.map (ents (l++[(k,v)]) 0).toArray (l.length+1))}:=by
 obtain⟨o,h1,h2⟩:=alp k l 0 0
 have ho:o=none:=by
  cases o with
  | none=>rfl
  | some p=>rw[hk]at h2;cases h2
 subst ho
 have hf:=asj (P:=prog) (w:=w) underlying9 h1
 have hg:=asi (P:=prog) h
 have hs:=MapKept.run_setObj_map (P:=prog) (.map (ents (l++[(k,v)]) 0).toArray (l.length+1)) h
 have hc:=bdm k false w
 have he:(ents l 0).toArray.push { key := .string k,val:=v,born:=l.length}=(ents (l++[(k,v)]) 0).toArray:=by rw[ayy];simp
 unfold Instr.mapUpdate
 simp only[ajk,run_underlying underlying136,Result.andThen,hg,hc,hf,he,hs]
theorem bvo {l:List (ByteArray×Vq)} (h:Cm w r l) :
  (Instr.lookup 136 (.map (some r)) (.string s) true).run prog w = .ok (.tuple #[(findT s l).getD (Dg z7 0 0),.bool (findT s l).isSome]) w:=by
 obtain⟨o,h1,h2⟩:=alp s l 0 0
 have hf:=asj (P:=prog) (w:=w) underlying9 h1
 have hg:=asi (P:=prog) h
 have hc:=bdm s (ents l 0).toArray.isEmpty w
 have hz:(zeroValue 44).run prog w = .ok (Dg z7 0 0) w:=by simp[go_sem,Dg,z7]
 unfold Instr.lookup
 simp only[ajk,run_underlying underlying136,Result.andThen,hg,hc,hf,Sem.run_pure]
 rw[← h2]
 cases o with
 | none=>simp[Result.andThen,hz]
 | some p=>simp
theorem Cm.set {l:List (ByteArray×Vq)} {k:ByteArray} {v:Vq} (h:Cm w r l):Cm { w with heap:=w.heap.setIfInBounds r (.map (ents (l++[(k,v)]) 0).toArray (l.length+1))} r (l++[(k,v)]):=by
 have:=(bbn (o' := .map (ents (l++[(k,v)]) 0).toArray (l.length+1)) h).1
 unfold Cm
 rw[this,Bj];rfl
end Sb

namespace Sb
theorem als {o:Obj} (h:Below w.heap.size w W) (hr:w.heap.size≤r):Below w.heap.size w { W with heap:=W.heap.setIfInBounds r o} :=
 ⟨h.os,h.tape,h.output,by simpa using h.size,fun k hk=>by simpa [Array.getElem?_setIfInBounds,show r≠k by omega]using h.block k hk⟩
def Co:List (ByteArray×Vq):=[(⟨#[109]⟩,.agg #[.int .i64 1,.int .i64 0,.int .i64 0,.int .i64 0,.int .i64 0,.int .i64 0,.int .i64 0,.int .i64 1,.int .i64 1]),(⟨#[107,103]⟩,.agg #[.int .i64 0,.int .i64 1,.int .i64 0,.int .i64 0,.int .i64 0,.int .i64 0,.int .i64 0,.int .i64 1,.int .i64 1]),(⟨#[115]⟩,.agg #[.int .i64 0,.int .i64 0,.int .i64 1,.int .i64 0,.int .i64 0,.int .i64 0,.int .i64 0,.int .i64 1,.int .i64 1]),(⟨#[65]⟩,.agg #[.int .i64 0,.int .i64 0,.int .i64 0,.int .i64 1,.int .i64 0,.int .i64 0,.int .i64 0,.int .i64 1,.int .i64 1]),(⟨#[75]⟩,.agg #[.int .i64 0,.int .i64 0,.int .i64 0,.int .i64 0,.int .i64 1,.int .i64 0,.int .i64 0,.int .i64 1,.int .i64 1]),(⟨#[109,111,108]⟩,.agg #[.int .i64 0,.int .i64 0,.int .i64 0,.int .i64 0,.int .i64 0,.int .i64 1,.int .i64 0,.int .i64 1,.int .i64 1]),(⟨#[99,100]⟩,.agg #[.int .i64 0,.int .i64 0,.int .i64 0,.int .i64 0,.int .i64 0,.int .i64 0,.int .i64 1,.int .i64 1,.int .i64 1]),(⟨#[103]⟩,.agg #[.int .i64 0,.int .i64 1,.int .i64 0,.int .i64 0,.int .i64 0,.int .i64 0,.int .i64 0,.int .i64 1,.int .i64 1000]),(⟨#[72,122]⟩,.agg #[.int .i64 0,.int .i64 0,.int .i64 (-1),.int .i64 0,.int .i64 0,.int .i64 0,.int .i64 0,.int .i64 1,.int .i64 1]),(⟨#[78]⟩,.agg #[.int .i64 1,.int .i64 1,.int .i64 (-2),.int .i64 0,.int .i64 0,.int .i64 0,.int .i64 0,.int .i64 1,.int .i64 1]),(⟨#[80,97]⟩,.agg #[.int .i64 (-1),.int .i64 1,.int .i64 (-2),.int .i64 0,.int .i64 0,.int .i64 0,.int .i64 0,.int .i64 1,.int .i64 1]),(⟨#[74]⟩,.agg #[.int .i64 2,.int .i64 1,.int .i64 (-2),.int .i64 0,.int .i64 0,.int .i64 0,.int .i64 0,.int .i64 1,.int .i64 1]),(⟨#[87]⟩,.agg #[.int .i64 2,.int .i64 1,.int .i64 (-3),.int .i64 0,.int .i64 0,.int .i64 0,.int .i64 0,.int .i64 1,.int .i64 1]),(⟨#[67]⟩,.agg #[.int .i64 0,.int .i64 0,.int .i64 1,.int .i64 1,.int .i64 0,.int .i64 0,.int .i64 0,.int .i64 1,.int .i64 1]),(⟨#[86]⟩,.agg #[.int .i64 2,.int .i64 1,.int .i64 (-3),.int .i64 (-1),.int .i64 0,.int .i64 0,.int .i64 0,.int .i64 1,.int .i64 1]),(⟨#[79,104,109]⟩,.agg #[.int .i64 2,.int .i64 1,.int .i64 (-3),.int .i64 (-2),.int .i64 0,.int .i64 0,.int .i64 0,.int .i64 1,.int .i64 1]),(⟨#[83]⟩,.agg #[.int .i64 (-2),.int .i64 (-1),.int .i64 3,.int .i64 2,.int .i64 0,.int .i64 0,.int .i64 0,.int .i64 1,.int .i64 1]),(⟨#[70]⟩,.agg #[.int .i64 (-2),.int .i64 (-1),.int .i64 4,.int .i64 2,.int .i64 0,.int .i64 0,.int .i64 0,.int .i64 1,.int .i64 1]),(⟨#[87,98]⟩,.agg #[.int .i64 2,.int .i64 1,.int .i64 (-2),.int .i64 (-1),.int .i64 0,.int .i64 0,.int .i64 0,.int .i64 1,.int .i64 1]),(⟨#[72]⟩,.agg #[.int .i64 2,.int .i64 1,.int .i64 (-2),.int .i64 (-2),.int .i64 0,.int .i64 0,.int .i64 0,.int .i64 1,.int .i64 1]),(⟨#[109,105,110]⟩,.agg #[.int .i64 0,.int .i64 0,.int .i64 1,.int .i64 0,.int .i64 0,.int .i64 0,.int .i64 0,.int .i64 60,.int .i64 1]),(⟨#[104]⟩,.agg #[.int .i64 0,.int .i64 0,.int .i64 1,.int .i64 0,.int .i64 0,.int .i64 0,.int .i64 0,.int .i64 3600,.int .i64 1]),(⟨#[76]⟩,.agg #[.int .i64 3,.int .i64 0,.int .i64 0,.int .i64 0,.int .i64 0,.int .i64 0,.int .i64 0,.int .i64 1,.int .i64 1000]),(⟨#[98,97,114]⟩,.agg #[.int .i64 (-1),.int .i64 1,.int .i64 (-2),.int .i64 0,.int .i64 0,.int .i64 0,.int .i64 0,.int .i64 100000,.int .i64 1]),(⟨#[114,97,100]⟩,.agg #[.int .i64 0,.int .i64 0,.int .i64 0,.int .i64 0,.int .i64 0,.int .i64 0,.int .i64 0,.int .i64 1,.int .i64 1])]
structure amh (w W:Wq) (l:List (ByteArray×Vq)):Prop where
 below:Below w.heap.size w W
 map:Cm W (w.heap.size+1) l
 one:W.heap[w.heap.size]? = some (.cells #[.int .i64 1,.int .i64 1] 23 (0,0))
theorem amh.ins {l:List (ByteArray×Vq)} (h:amh w W l) (k:ByteArray) (v:Vq) (hk:findT k l=none) :
  ∃ W',(Instr.mapUpdate 136 (.map (some (w.heap.size+1))) (.string k) v).run prog W = .ok () W'∧amh w W' (l++[(k,v)]):=by
 refine⟨_,blr h.map hk,?_,h.map.set,?_⟩
 ·
  exact als h.below om
 ·
  exact((bbn h.map).2 _ om).trans h.one
theorem amh.c0 {l:List (ByteArray×Vq)} (h:amh w W l):W.cell? ⟨w.heap.size,0,none⟩=some (.int .i64 1):=by simp[World.cell?,h.one]
theorem amh.c1 {l:List (ByteArray×Vq)} (h:amh w W l):W.cell? ⟨w.heap.size,1,none⟩=some (.int .i64 1):=by simp[World.cell?,h.one]
theorem cev (w:Wq):Calls prog 120 #[] w (fun e w' => ∃ r,e = .returned (.map (some r))∧Below w.heap.size w w'∧Cm w' r Co):=by
 have hmm:=@run_makeMap prog
 go_enter func120,ntmps120
 go_wp2_with fail
 have h0:amh w ((w.alloc (.cells #[.int .i64 1,.int .i64 1] 23)).alloc (.map #[] 0)) []:=by
  have n1:=heap_alloc_new w (.cells #[.int .i64 1,.int .i64 1] 23);have hb:=ic (df w.heap.size w) (.cells #[.int .i64 1,.int .i64 1] 23);have sz:(w.alloc (.cells #[.int .i64 1,.int .i64 1] 23)).heap.size=w.heap.size+1:=by simp only[yw]
  generalize w.alloc (.cells #[.int .i64 1,.int .i64 1] 23)=W1 at *;have n2:=heap_alloc_new W1 (.map #[] 0);have hb2:=ic (df W1.heap.size W1) (.map #[] 0);rw[sz]at n2;exact⟨az hb hb2,n2,(hb2.block _ (lt_of_block n1)).trans n1⟩
 generalize (w.alloc (.cells #[.int .i64 1,.int .i64 1] 23)).alloc (.map #[] 0)=W0 at *
 obtain⟨W1,e,h1⟩:=h0.ins ⟨#[109]⟩ (.agg #[.int .i64 1,.int .i64 0,.int .i64 0,.int .i64 0,.int .i64 0,.int .i64 0,.int .i64 0,.int .i64 1,.int .i64 1]) kr
 rw[e]
 have o1:=h1.c0
 have p1:=h1.c1
 clear e h0
 go_wp2_with fail
 obtain⟨W2,e,h2⟩:=h1.ins ⟨#[107,103]⟩ (.agg #[.int .i64 0,.int .i64 1,.int .i64 0,.int .i64 0,.int .i64 0,.int .i64 0,.int .i64 0,.int .i64 1,.int .i64 1]) kr
 rw[e]
 have o2:=h2.c0
 have p2:=h2.c1
 clear e h1 o1 p1
 go_wp2_with fail
 obtain⟨W3,e,h3⟩:=h2.ins ⟨#[115]⟩ (.agg #[.int .i64 0,.int .i64 0,.int .i64 1,.int .i64 0,.int .i64 0,.int .i64 0,.int .i64 0,.int .i64 1,.int .i64 1]) kr
 rw[e]
 have o3:=h3.c0
 have p3:=h3.c1
 clear e h2 o2 p2
 go_wp2_with fail
 obtain⟨W4,e,h4⟩:=h3.ins ⟨#[65]⟩ (.agg #[.int .i64 0,.int .i64 0,.int .i64 0,.int .i64 1,.int .i64 0,.int .i64 0,.int .i64 0,.int .i64 1,.int .i64 1]) kr
 rw[e]
 have o4:=h4.c0
 have p4:=h4.c1
 clear e h3 o3 p3
 go_wp2_with fail
 obtain⟨W5,e,h5⟩:=h4.ins ⟨#[75]⟩ (.agg #[.int .i64 0,.int .i64 0,.int .i64 0,.int .i64 0,.int .i64 1,.int .i64 0,.int .i64 0,.int .i64 1,.int .i64 1]) kr
 rw[e]
 have o5:=h5.c0
 have p5:=h5.c1
 clear e h4 o4 p4
 go_wp2_with fail
 obtain⟨W6,e,h6⟩:=h5.ins ⟨#[109,111,108]⟩ (.agg #[.int .i64 0,.int .i64 0,.int .i64 0,.int .i64 0,.int .i64 0,.int .i64 1,.int .i64 0,.int .i64 1,.int .i64 1]) kr
 rw[e]
 have o6:=h6.c0
 have p6:=h6.c1
 clear e h5 o5 p5
 go_wp2_with fail
 obtain⟨W7,e,h7⟩:=h6.ins ⟨#[99,100]⟩ (.agg #[.int .i64 0,.int .i64 0,.int .i64 0,.int .i64 0,.int .i64 0,.int .i64 0,.int .i64 1,.int .i64 1,.int .i64 1]) kr
 rw[e]
 have o7:=h7.c0
 have p7:=h7.c1
 clear e h6 o6 p6
 go_wp2_with fail
 obtain⟨W8,e,h8⟩:=h7.ins ⟨#[103]⟩ (.agg #[.int .i64 0,.int .i64 1,.int .i64 0,.int .i64 0,.int .i64 0,.int .i64 0,.int .i64 0,.int .i64 1,.int .i64 1000]) kr
 rw[e]
 have o8:=h8.c0
 have p8:=h8.c1
 clear e h7 o7 p7
 go_wp2_with fail
 obtain⟨W9,e,h9⟩:=h8.ins ⟨#[72,122]⟩ (.agg #[.int .i64 0,.int .i64 0,.int .i64 (-1),.int .i64 0,.int .i64 0,.int .i64 0,.int .i64 0,.int .i64 1,.int .i64 1]) kr
 rw[e]
 have o9:=h9.c0
 have p9:=h9.c1
 clear e h8 o8 p8
 go_wp2_with fail
 obtain⟨W10,e,h10⟩:=h9.ins ⟨#[78]⟩ (.agg #[.int .i64 1,.int .i64 1,.int .i64 (-2),.int .i64 0,.int .i64 0,.int .i64 0,.int .i64 0,.int .i64 1,.int .i64 1]) kr
 rw[e]
 have o10:=h10.c0
 have p10:=h10.c1
 clear e h9 o9 p9
 go_wp2_with fail
 obtain⟨W11,e,h11⟩:=h10.ins ⟨#[80,97]⟩ (.agg #[.int .i64 (-1),.int .i64 1,.int .i64 (-2),.int .i64 0,.int .i64 0,.int .i64 0,.int .i64 0,.int .i64 1,.int .i64 1]) kr
 rw[e]
 have o11:=h11.c0
 have p11:=h11.c1
 clear e h10 o10 p10
 go_wp2_with fail
 obtain⟨W12,e,h12⟩:=h11.ins ⟨#[74]⟩ (.agg #[.int .i64 2,.int .i64 1,.int .i64 (-2),.int .i64 0,.int .i64 0,.int .i64 0,.int .i64 0,.int .i64 1,.int .i64 1]) kr
 rw[e]
 have o12:=h12.c0
 have p12:=h12.c1
 clear e h11 o11 p11
 go_wp2_with fail
 obtain⟨W13,e,h13⟩:=h12.ins ⟨#[87]⟩ (.agg #[.int .i64 2,.int .i64 1,.int .i64 (-3),.int .i64 0,.int .i64 0,.int .i64 0,.int .i64 0,.int .i64 1,.int .i64 1]) kr
 rw[e]
 have o13:=h13.c0
 have p13:=h13.c1
 clear e h12 o12 p12
 go_wp2_with fail
 obtain⟨W14,e,h14⟩:=h13.ins ⟨#[67]⟩ (.agg #[.int .i64 0,.int .i64 0,.int .i64 1,.int .i64 1,.int .i64 0,.int .i64 0,.int .i64 0,.int .i64 1,.int .i64 1]) kr
 rw[e]
 have o14:=h14.c0
 have p14:=h14.c1
 clear e h13 o13 p13
 go_wp2_with fail
 obtain⟨W15,e,h15⟩:=h14.ins ⟨#[86]⟩ (.agg #[.int .i64 2,.int .i64 1,.int .i64 (-3),.int .i64 (-1),.int .i64 0,.int .i64 0,.int .i64 0,.int .i64 1,.int .i64 1]) kr
 rw[e]
 have o15:=h15.c0
 have p15:=h15.c1
 clear e h14 o14 p14
 go_wp2_with fail
 obtain⟨W16,e,h16⟩:=h15.ins ⟨#[79,104,109]⟩ (.agg #[.int .i64 2,.int .i64 1,.int .i64 (-3),.int .i64 (-2),.int .i64 0,.int .i64 0,.int .i64 0,.int .i64 1,.int .i64 1]) kr
 rw[e]
 have o16:=h16.c0
 have p16:=h16.c1
 clear e h15 o15 p15
 go_wp2_with fail
 obtain⟨W17,e,h17⟩:=h16.ins ⟨#[83]⟩ (.agg #[.int .i64 (-2),.int .i64 (-1),.int .i64 3,.int .i64 2,.int .i64 0,.int .i64 0,.int .i64 0,.int .i64 1,.int .i64 1]) kr
 rw[e]
 have o17:=h17.c0
 have p17:=h17.c1
 clear e h16 o16 p16
 go_wp2_with fail
 obtain⟨W18,e,h18⟩:=h17.ins ⟨#[70]⟩ (.agg #[.int .i64 (-2),.int .i64 (-1),.int .i64 4,.int .i64 2,.int .i64 0,.int .i64 0,.int .i64 0,.int .i64 1,.int .i64 1]) kr
 rw[e]
 have o18:=h18.c0
 have p18:=h18.c1
 clear e h17 o17 p17
 go_wp2_with fail
 obtain⟨W19,e,h19⟩:=h18.ins ⟨#[87,98]⟩ (.agg #[.int .i64 2,.int .i64 1,.int .i64 (-2),.int .i64 (-1),.int .i64 0,.int .i64 0,.int .i64 0,.int .i64 1,.int .i64 1]) kr
 rw[e]
 have o19:=h19.c0
 have p19:=h19.c1
 clear e h18 o18 p18
 go_wp2_with fail
 obtain⟨W20,e,h20⟩:=h19.ins ⟨#[72]⟩ (.agg #[.int .i64 2,.int .i64 1,.int .i64 (-2),.int .i64 (-2),.int .i64 0,.int .i64 0,.int .i64 0,.int .i64 1,.int .i64 1]) kr
 rw[e]
 have o20:=h20.c0
 have p20:=h20.c1
 clear e h19 o19 p19
 go_wp2_with fail
 obtain⟨W21,e,h21⟩:=h20.ins ⟨#[109,105,110]⟩ (.agg #[.int .i64 0,.int .i64 0,.int .i64 1,.int .i64 0,.int .i64 0,.int .i64 0,.int .i64 0,.int .i64 60,.int .i64 1]) kr
 rw[e]
 have o21:=h21.c0
 have p21:=h21.c1
 clear e h20 o20 p20
 go_wp2_with fail
 obtain⟨W22,e,h22⟩:=h21.ins ⟨#[104]⟩ (.agg #[.int .i64 0,.int .i64 0,.int .i64 1,.int .i64 0,.int .i64 0,.int .i64 0,.int .i64 0,.int .i64 3600,.int .i64 1]) kr
 rw[e]
 have o22:=h22.c0
 have p22:=h22.c1
 clear e h21 o21 p21
 go_wp2_with fail
 obtain⟨W23,e,h23⟩:=h22.ins ⟨#[76]⟩ (.agg #[.int .i64 3,.int .i64 0,.int .i64 0,.int .i64 0,.int .i64 0,.int .i64 0,.int .i64 0,.int .i64 1,.int .i64 1000]) kr
 rw[e]
 have o23:=h23.c0
 have p23:=h23.c1
 clear e h22 o22 p22
 go_wp2_with fail
 obtain⟨W24,e,h24⟩:=h23.ins ⟨#[98,97,114]⟩ (.agg #[.int .i64 (-1),.int .i64 1,.int .i64 (-2),.int .i64 0,.int .i64 0,.int .i64 0,.int .i64 0,.int .i64 100000,.int .i64 1]) kr
 rw[e]
 have o24:=h24.c0
 have p24:=h24.c1
 clear e h23 o23 p23
 go_wp2_with fail
 obtain⟨W25,e,h25⟩:=h24.ins ⟨#[114,97,100]⟩ (.agg #[.int .i64 0,.int .i64 0,.int .i64 0,.int .i64 0,.int .i64 0,.int .i64 0,.int .i64 0,.int .i64 1,.int .i64 1]) kr
 rw[e]
 have o25:=h25.c0
 have p25:=h25.c1
 clear e h24 o24 p24
 go_wp2_with fail
 exact bodyPost_ret (v := .map (some (w.heap.size+1))) (by simp[results,results120,go_sem]) rfl ⟨_,rfl,h25.below,h25.map⟩
end Sb


namespace Sb
def su (b:Int):Bool:=(decide (97≤b)&&decide (b≤122))||(decide (65≤b)&&decide (b≤90))
def Eg (b:Int):Int×Int×Bool:=if b=110 then(1,1000000000,true)else if b=117 then(1,1000000,true)else if b=109 then(1,1000,true)else if b=107 then(1000,1,true)else if b=77 then(1000000,1,true)else if b=71 then(1000000000,1,true)else(0,0,false)
theorem byo (b:Int) (w:Wq):Calls prog 172 #[.int .u8 b] w (gp (ko [bz [iv (Eg b).1,iv (Eg b).2.1],ax (.bool (Eg b).2.2)]) w):=by
 obtain⟨v,hv⟩ : ∃ v,v=Eg b:=⟨_,rfl⟩
 rw[← hv]
 unfold Eg at hv
 by_cases g0:b=110
 ·
  rw[if_pos g0]at hv;subst g0;subst hv
  go_enter func172,ntmps172
  go_wp2_with fail;exact bodyPost_ret (v := .tuple #[.agg #[.int .i64 1,.int .i64 1000000000],.bool true]) (by simp[results,results172,go_sem]) rfl ⟨_,rfl,ic (df _ _) _,[_,_],rfl,_,_,rfl,Gw _ _ _,_,_,rfl,rfl,rfl⟩
 rw[if_neg g0]at hv
 by_cases g1:b=117
 ·
  rw[if_pos g1]at hv;subst g1;subst hv
  go_enter func172,ntmps172
  go_wp2_with fail;exact bodyPost_ret (v := .tuple #[.agg #[.int .i64 1,.int .i64 1000000],.bool true]) (by simp[results,results172,go_sem]) rfl ⟨_,rfl,ic (df _ _) _,[_,_],rfl,_,_,rfl,Gw _ _ _,_,_,rfl,rfl,rfl⟩
 rw[if_neg g1]at hv
 by_cases g2:b=109
 ·
  rw[if_pos g2]at hv;subst g2;subst hv
  go_enter func172,ntmps172
  go_wp2_with fail;exact bodyPost_ret (v := .tuple #[.agg #[.int .i64 1,.int .i64 1000],.bool true]) (by simp[results,results172,go_sem]) rfl ⟨_,rfl,ic (df _ _) _,[_,_],rfl,_,_,rfl,Gw _ _ _,_,_,rfl,rfl,rfl⟩
 rw[if_neg g2]at hv
 by_cases g3:b=107
 ·
  rw[if_pos g3]at hv;subst g3;subst hv
  go_enter func172,ntmps172
  go_wp2_with fail;exact bodyPost_ret (v := .tuple #[.agg #[.int .i64 1000,.int .i64 1],.bool true]) (by simp[results,results172,go_sem]) rfl ⟨_,rfl,ic (df _ _) _,[_,_],rfl,_,_,rfl,Gw _ _ _,_,_,rfl,rfl,rfl⟩
 rw[if_neg g3]at hv
 by_cases g4:b=77
 ·
  rw[if_pos g4]at hv;subst g4;subst hv
  go_enter func172,ntmps172
  go_wp2_with fail;exact bodyPost_ret (v := .tuple #[.agg #[.int .i64 1000000,.int .i64 1],.bool true]) (by simp[results,results172,go_sem]) rfl ⟨_,rfl,ic (df _ _) _,[_,_],rfl,_,_,rfl,Gw _ _ _,_,_,rfl,rfl,rfl⟩
 rw[if_neg g4]at hv
 by_cases g5:b=71
 ·
  rw[if_pos g5]at hv;subst g5;subst hv
  go_enter func172,ntmps172
  go_wp2_with fail;exact bodyPost_ret (v := .tuple #[.agg #[.int .i64 1000000000,.int .i64 1],.bool true]) (by simp[results,results172,go_sem]) rfl ⟨_,rfl,ic (df _ _) _,[_,_],rfl,_,_,rfl,Gw _ _ _,_,_,rfl,rfl,rfl⟩
 rw[if_neg g5]at hv
 subst hv
 go_enter func172,ntmps172
 go_wp2_with fail
 exact bodyPost_ret (v := .tuple #[.agg #[.int .i64 0,.int .i64 0],.bool false]) (by simp[results,results172,go_sem]) rfl ⟨_,rfl,ic (df _ _) _,[_,_],rfl,_,_,rfl,Gw _ _ _,_,_,rfl,rfl,rfl⟩
theorem afc {l:List UInt8} (h : ¬ s=⟨l.toArray⟩):(s.toList==l)=false:=by
 rw[Bool.eq_false_iff]
 intro e
 apply h
 have e2:=eq_of_beq e
 rw[ByteArray.toList_eq]at e2
 cases s
 rw[← e2]
def Ld (s:ByteArray):Bool:=if s=⟨#[107,103]⟩then true else if s=⟨#[109,105,110]⟩then true else if s=⟨#[104]⟩then true else if s=⟨#[114,97,100]⟩then true else false
theorem btn (s:ByteArray) (w:Wq):Calls prog 173 #[.string s] w (gp (ax (.bool (Ld s))) w):=by
 obtain⟨v,hv⟩ : ∃ v,v=Ld s:=⟨_,rfl⟩
 rw[← hv]
 unfold Ld at hv
 by_cases g0:s=⟨#[107,103]⟩
 ·
  rw[if_pos g0]at hv;subst g0;subst hv
  go_enter func173,ntmps173
  go_wp2_with fail;exact bodyPost_ret (v := .bool true) (by simp[results,results173,go_sem]) rfl ⟨_,rfl,df _ _,rfl⟩
 rw[if_neg g0]at hv
 have q0:=afc g0
 by_cases g1:s=⟨#[109,105,110]⟩
 ·
  rw[if_pos g1]at hv;subst g1;subst hv
  go_enter func173,ntmps173
  go_wp2_with fail;exact bodyPost_ret (v := .bool true) (by simp[results,results173,go_sem]) rfl ⟨_,rfl,df _ _,rfl⟩
 rw[if_neg g1]at hv
 have q1:=afc g1
 by_cases g2:s=⟨#[104]⟩
 ·
  rw[if_pos g2]at hv;subst g2;subst hv
  go_enter func173,ntmps173
  go_wp2_with fail;exact bodyPost_ret (v := .bool true) (by simp[results,results173,go_sem]) rfl ⟨_,rfl,df _ _,rfl⟩
 rw[if_neg g2]at hv
 have q2:=afc g2
 by_cases g3:s=⟨#[114,97,100]⟩
 ·
  rw[if_pos g3]at hv;subst g3;subst hv
  go_enter func173,ntmps173
  go_wp2_with fail;exact bodyPost_ret (v := .bool true) (by simp[results,results173,go_sem]) rfl ⟨_,rfl,df _ _,rfl⟩
 rw[if_neg g3]at hv
 have q3:=afc g3
 subst hv
 go_enter func173,ntmps173
 go_wp2_with fail
 exact bodyPost_ret (v := .bool false) (by simp[results,results173,go_sem]) rfl ⟨_,rfl,df _ _,rfl⟩
end Sb


namespace Sb
theorem chd {d:Option Tmp} {u4 u5:Vq} (h:ρ x = .agg #[u0,u1,u2,u3,u4,u5]) :
  (execOp ρ { dst:=d,op := .build 118 #[(1,x)],type:=ty,pos:=pos,after:=af,guard:=gd}).run prog w = .ok (.value (.agg #[.int .i64 0,.int .i64 0,.int .i64 0,.int .i64 0,.int .i64 0,.int .i64 0,.int .i64 0,u0,u1,u2,u3,u4,u5])) w:=by
 simp only[execOp]
 simp[go_sem,h]
 try rfl
theorem cqt (hal:al.contains k=false) (hx:cu l n T a0 k x (bz [.q q])) (hT:T k=bz [.k (eK z7),.q q]) :
  ib prog Q l n T G il al a0 k { dst:=some d,op := .build 118 #[(1,x)],type:=ty,pos:=pos,after:=af,guard:=gd}:=by
 intro a w hG hO hN
 obtain⟨s1,n1,A1,c1,l1,s2,n2,A2,c2,l2,e1,f1,f2⟩:=Sn (hx a w hO hN)
 have hr:=chd (w:=w) (d:=some d) (ty:=ty) (pos:=pos) (af:=af) (gd:=gd) e1
 exact wvz hr hG hal (by rw[hT];exact⟨_,rfl,gy.e (f:=z7) (gy.q f1 f2 rfl)⟩)
theorem auu {a c:Int} (ok:qi a c) (w:Wq) (u0:Vq) (h0:bz [iv a,iv c] w u0):Calls prog 118 #[u0] w (gp (bz [.k (eK z7),.q (jw a c)]) w):=by
 have HA:=ae ok
 clear ok
 have hu0:=afu h0
 subst hu0
 go_enter func118,ntmps118
 go_upto_region 1 with fail
 have hO:=(Own.push (T:=118) (ls:=zM) (Own.push (T:=23) (ls:=[iv a,iv c]) (Own.nil w) (gy.v (xc _) (gy.v (xc _) rfl)) (w.heap.size) rfl) (gy.below (by repeat (first|exact df _ _|refine ic ?_ _)) (gy.vs w [.int .i64 0,.int .i64 0,.int .i64 0,.int .i64 0,.int .i64 0,.int .i64 0,.int .i64 0,.int .i64 0,.bool false,.slice none 0 0,.int .i64 0,.bool false,.slice none 0 0] rfl)) (w.heap.size+1) (by simp only[yw]))
 generalize (w.alloc (.cells #[.int .i64 a,.int .i64 c] 23)).alloc (.cells #[.int .i64 0,.int .i64 0,.int .i64 0,.int .i64 0,.int .i64 0,.int .i64 0,.int .i64 0,.int .i64 0,.bool false,.slice none 0 0,.int .i64 0,.bool false,.slice none 0 0] 118)=W0 at *
 have HO:=ae hO
 clear hO
 refine fw 3 [_,_,_] [] HO (xh Js uq aF (au (sc1 func67 (aT 0) (fun W v0 hG h0=>ckp (aa HA) h0)) (au (cqt rfl (aT 1) rfl) ai))) ?_
 intro v1 V1 hG1 hv1 hne1
 simp only[ay,Act.put,tA]
 have hO:=hG1.1
 refine kg hO 0 Bc (hv1 2 de) ?_
 clear hO
 intro Ep hO hk0
 replace HO:=ae hO
 clear hO hG1 hv1 hne1 hk0
 go_wp2_with fail
 exact Ga results118 Km rfl (aa HO) me0 rfl rfl
end Sb


namespace Sb
variable {Q:Exit→Act→Wq→Prop} {l:List Oper} {n:Nat} {T:Nat→Wq→Vq→Prop} {G:Wq→Prop} {al:List Nat} {a0:Act} {k d:Nat} {ty:TypeId} {pos:String} {af:Array Edge} {gd:Option (Nat×Bool)}
theorem cgi (s:ByteArray) (b:UInt8) (l:List UInt8) (h:s=⟨(b::l).toArray⟩) (w:Wq):(Instr.index 9 (.string s) (.int .i64 0)).run prog w = .ok (.int .u8 b.toNat) w:=by
 subst h
 simp[go_sem]
 rfl
theorem ccn (s:ByteArray) (b:UInt8) (l:List UInt8) (h:s=⟨(b::l).toArray⟩) (w:Wq):(Instr.sliceAt 9 (.string s) (some (.int .i64 1)) none none).run prog w = .ok (.string ⟨l.toArray⟩) w:=by
 subst h
 simp[go_sem]
 rw[if_pos om]
 have e:(⟨(b::l).toArray⟩:ByteArray).extract 1 (l.length+1)=⟨l.toArray⟩:=by
  apply ByteArray.ext
  simp[bap]
 rw[e]
theorem Pf (hal:al.contains k=false) (hx:cu l n T a0 k x (ax (.string s))) (hs:s=⟨(b::ls).toArray⟩) (hT:T k=ax (.int .u8 b.toNat)) :
  ib prog Q l n T G il al a0 k { dst:=some d,op := .index 9 x (.const (.int .i64 0)),type:=ty,pos:=pos,after:=af,guard:=gd}:=by
 intro a w hG hO hN
 have h1:a.eval x = .string s:=hx a w hO hN
 have h3:a.eval (.const (.int .i64 0)) = .int .i64 0:=rfl
 have key:=fun w=>cgi s b ls hs w
 have hr:(execOp a.eval { dst:=some d,op := .index 9 x (.const (.int .i64 0)),type:=ty,pos:=pos,after:=af,guard:=gd}).run prog w = .ok (.value (.int .u8 b.toNat)) w:=by
  simp only[execOp,h1,h3];simp[key,Result.andThen]
 exact wvz hr hG hal (by rw[hT];rfl)
theorem Dq (hal:al.contains k=false) (hx:cu l n T a0 k x (ax (.string s))) (hs:s=⟨(b::ls).toArray⟩) (hT:T k=ax (.string ⟨ls.toArray⟩)) :
  ib prog Q l n T G il al a0 k { dst:=some d,op := .slice 9 x (some (.const (.int .i64 1))) none none,type:=ty,pos:=pos,after:=af,guard:=gd}:=by
 intro a w hG hO hN
 have h1:a.eval x = .string s:=hx a w hO hN
 have h3:a.eval (.const (.int .i64 1)) = .int .i64 1:=rfl
 have key:=fun w=>ccn s b ls hs w
 have hr:(execOp a.eval { dst:=some d,op := .slice 9 x (some (.const (.int .i64 1))) none none,type:=ty,pos:=pos,after:=af,guard:=gd}).run prog w = .ok (.value (.string ⟨ls.toArray⟩)) w:=by
  simp only[execOp,h1,h3,Option.map];simp[key,Result.andThen]
 exact wvz hr hG hal (by rw[hT];rfl)
theorem Rn {y:Operand} (hal:al.contains k=false) (hx:cu l n T a0 k x (ax (.map (some r)))) (hy:cu l n T a0 k y (ax (.string s))) (hm : ∀ W,G W→Cm W r L) (hu:(findT s L).getD (Dg z7 0 0)=Dg f u v) (hc:(findT s L).isSome=c) (hT:T k=ko [bz [.k (eK f),iv u,iv v],ax (.bool c)]) :
  ib prog Q l n T G il al a0 k { dst:=some d,op := .lookup 136 x y true,type:=ty,pos:=pos,after:=af,guard:=gd}:=by
 intro a w hG hO hN
 have h1:a.eval x = .map (some r):=hx a w hO hN
 have h2:a.eval y = .string s:=hy a w hO hN
 have key:=bvo (s:=s) (hm w hG)
 rw[hu,hc]at key
 have hr:(execOp a.eval { dst:=some d,op := .lookup 136 x y true,type:=ty,pos:=pos,after:=af,guard:=gd}).run prog w = .ok (.value (.tuple #[Dg f u v,.bool c])) w:=by
  simp only[execOp,h1,h2];simp[key,Result.andThen]
 exact wvz hr hG hal (by rw[hT];exact⟨[_,_],rfl,_,_,rfl,⟨_,rfl,gy.e (gy.v (xc _) (gy.v (xc _) rfl))⟩,_,_,rfl,rfl,rfl⟩)
end Sb


namespace Sb
theorem bax (hal:al.contains k=false) (hx:cu l n T a0 k x (ax (.string s))) (hs:s=⟨(b::ls).toArray⟩) (hT:T k=ax (.bool false)) :
  ib prog Q l n T G il al a0 k { dst:=some d,op := .binOp .eql 9 x (.const (.string ⟨#[]⟩)) 9,type:=ty,pos:=pos,after:=af,guard:=gd}:=by
 intro a w hG hO hN
 have h1:a.eval x = .string s:=hx a w hO hN
 have h3:a.eval (.const (.string ⟨#[]⟩)) = .string ⟨#[]⟩:=rfl
 have q:(s.toList==[])=false:=afc (l:=[]) (by rw[hs];intro h;injection h with h;simp at h)
 have hr:(execOp a.eval { dst:=some d,op := .binOp .eql 9 x (.const (.string ⟨#[]⟩)) 9,type:=ty,pos:=pos,after:=af,guard:=gd}).run prog w = .ok (.value (.bool false)) w:=by
  simp only[execOp,h1,h3];simp[go_sem,q]
 exact wvz hr hG hal (by rw[hT];rfl)
theorem acs:avr prog 118 [.int .i64 0,.int .i64 0,.int .i64 0,.int .i64 0,.int .i64 0,.int .i64 0,.int .i64 0,.int .i64 0,.bool false,.slice none 0 0,.int .i64 0,.bool false,.slice none 0 0]:=by
 intro ρ w d ty pos af gd
 simp only[execOp]
 simp[go_sem]
 try rfl
theorem adw {b:Int} {v:Int×Int×Bool} (h:Eg b=v) (w:Wq):Calls prog 172 #[.int .u8 b] w (gp (ko [bz [iv v.1,iv v.2.1],ax (.bool v.2.2)]) w):=h ▸ byo b w
theorem aqg {n d:Int} (w:Wq) (hm:Cm w r L) (hu:findT s L=some (Dg f n d)) (ok:qi n d) :
  Calls prog 121 #[.map (some r),.string s] w (gp (ko [bz [.k (eK f),.q (jw n d)],ax (.bool true)]) w):=by
 have HM:=ae hm
 have HU:=ae (And.intro (show(findT s L).getD (Dg z7 0 0)=Dg f n d by rw[hu];rfl) (show(findT s L).isSome=true by rw[hu];rfl))
 have HA:=ae ok
 clear hm hu ok
 go_enter func121,ntmps121
 go_upto_region 1 with fail
 have hO:=(Own.push (T:=118) (ls:=zM) (Own.nil w) (gy.vs w [.int .i64 0,.int .i64 0,.int .i64 0,.int .i64 0,.int .i64 0,.int .i64 0,.int .i64 0,.int .i64 0,.bool false,.slice none 0 0,.int .i64 0,.bool false,.slice none 0 0] rfl) (w.heap.size) rfl)
 generalize w.alloc (.cells #[.int .i64 0,.int .i64 0,.int .i64 0,.int .i64 0,.int .i64 0,.int .i64 0,.int .i64 0,.int .i64 0,.bool false,.slice none 0 0,.int .i64 0,.bool false,.slice none 0 0] 118)=W0 at *
 have HO:=ae hO
 clear hO
 refine fw 7 [_,_,_,_,_,_,_] [6] HO (dh aF (dh aF (au (Rn rfl (aT 0) (aT 1) (fun W h=>(aa HM).below h.1.bel) (aa HU).1 (aa HU).2 rfl) (dh (aT 2) (pq [bz [.k (eK f),iv n,iv d],ax (.bool true)] (aT 3) (pq _ (aT 3) (Am Ng ai))))))) ?_
 intro v1 V1 hG1 hv1 hne1
 obtain⟨aeh,e6,ym,Bg⟩:=(show qw 44 zU W0.heap.size V1 (v1 6)from hv1 6 de)
 simp only[ay,Act.put,tA,exv (hv1 5 de),e6]
 have hO:=hG1.1
 replace hO:=Own.add (aa HO) hG1.2 ym Bg
 clear ym Bg
 refine kg hO 0 vv (hv1 4 de) ?_
 clear hO
 intro Ep hO hk0
 replace HO:=ae hO
 clear hO hG1 hv1 hne1 hk0
 try clear e6
 go_upto_region 2 with fail
 refine fw 1 [_] [] HO (dh aF ai) ?_
 intro v2 V2 hG2 hv2 hne2
 simp only[ay,Act.put,tA,exv (hv2 0 de)]
 replace HO:=ae hG2.1
 clear hG2 hv2 hne2
 go_upto_region 3 with fail
 refine fw 2 [_,_] [] HO (xh Zc me0 aF (au (sc1 func103 (aT 0) (fun W v0 hG h0=>cbj (aa HA) W _ h0)) ai)) ?_
 intro v3 V3 hG3 hv3 ji
 simp only[ay,Act.put,tA]
 have hO:=hG3.1
 refine kg hO 1 Bc (hv3 1 de) ?_
 clear hO
 intro Gc hO hk0
 replace HO:=ae hO
 clear hO hG3 hv3 ji hk0
 go_wp2_with fail
 exact vo results121 Km rfl rfl (aa HO) uq rfl rfl
theorem bex {n d q:Int} (w:Wq) (hm:Cm w r L) (hs:s=⟨(b::ls).toArray⟩) (h0:findT s L=none) (hp:Eg b.toNat=(p,q,true)) (hu:findT ⟨ls.toArray⟩ L=some (Dg f n d)) (hz:Ld ⟨ls.toArray⟩=false) (hT:yg w) (okp:qi p q) (ok:qi n d) (hf : ∀ j,j<7→wrap64 (z7 j+f j)=f j) :
  Calls prog 121 #[.map (some r),.string s] w (gp (ko [bz [.k (eK f),.q (jw p q*jw n d)],ax (.bool true)]) w):=by
 have HT:=ae hT
 have HO1:=ae (And.intro okp ok)
 have HF:=ae hf
 clear hT okp ok hf
 have HM:=ae hm
 have HS:=ae hs
 have HU:=ae (And.intro (show(findT s L).getD (Dg z7 0 0)=Dg z7 0 0 by rw[h0];rfl) (show(findT s L).isSome=false by rw[h0];rfl))
 have HV:=ae (And.intro (show(findT ⟨ls.toArray⟩ L).getD (Dg z7 0 0)=Dg f n d by rw[hu];rfl) (show(findT ⟨ls.toArray⟩ L).isSome=true by rw[hu];rfl))
 have HP:=ae hp
 have HZ:=ae hz
 clear hm hs h0 hu hp hz
 go_enter func121,ntmps121
 go_upto_region 1 with fail
 have hO:=(Own.push (T:=118) (ls:=zM) (Own.nil w) (gy.vs w [.int .i64 0,.int .i64 0,.int .i64 0,.int .i64 0,.int .i64 0,.int .i64 0,.int .i64 0,.int .i64 0,.bool false,.slice none 0 0,.int .i64 0,.bool false,.slice none 0 0] rfl) (w.heap.size) rfl)
 generalize w.alloc (.cells #[.int .i64 0,.int .i64 0,.int .i64 0,.int .i64 0,.int .i64 0,.int .i64 0,.int .i64 0,.int .i64 0,.bool false,.slice none 0 0,.int .i64 0,.bool false,.slice none 0 0] 118)=W0 at *
 have HO:=ae hO
 clear hO
 refine fw 7 [_,_,_,_,_,_,_] [6] HO (dh aF (dh aF (au (Rn rfl (aT 0) (aT 1) (fun W h=>(aa HM).below h.1.bel) (aa HU).1 (aa HU).2 rfl) (dh (aT 2) (pq [bz [.k (eK z7),iv 0,iv 0],ax (.bool false)] (aT 3) (pq _ (aT 3) (Am Ng ai))))))) ?_
 intro v1 V1 hG1 hv1 hne1
 obtain⟨aeh,e6,ym,Bg⟩:=(show qw 44 zU W0.heap.size V1 (v1 6)from hv1 6 de)
 simp only[ay,Act.put,tA,exv (hv1 5 de),e6]
 have hO:=hG1.1
 replace hO:=Own.add (aa HO) hG1.2 ym Bg
 clear ym Bg
 refine kg hO 0 vv (hv1 4 de) ?_
 clear hO
 intro Ep hO hk0
 replace HO:=ae hO
 clear hO hG1 hv1 hne1 hk0
 try clear e6
 go_upto_region 2 with fail
 refine fw 1 [_] [] HO (dh aF ai) ?_
 intro v2 V2 hG2 hv2 hne2
 simp only[ay,Act.put,tA,exv (hv2 0 de)]
 replace HO:=ae hG2.1
 clear hG2 hv2 hne2
 go_upto_region 4 with fail
 refine fw 2 [_,_] [] HO (dh aF (au (bax rfl (aT 0) (aa HS) rfl) ai)) ?_
 intro v3 V3 hG3 hv3 ji
 simp only[ay,Act.put,tA,exv (hv3 1 de)]
 replace HO:=ae hG3.1
 clear hG3 hv3 ji
 go_upto_region 6 with fail
 refine fw 7 [_,_,_,_,_,_,_] [6] HO (dh aF (au (Pf rfl (aT 0) (aa HS) rfl) (au (sc1 func172 (aT 1) (fun W v0 hG h0=>by cases h0;exact adw (aa HP) W)) (dh (aT 2) (pq [bz [iv p,iv q],ax (.bool true)] (aT 3) (pq _ (aT 3) (Am Lr ai))))))) ?_
 intro v4 V4 hG4 hv4 ma
 obtain⟨alv,e6,ym,Bg⟩:=(show qw 23 zR V3.heap.size V4 (v4 6)from hv4 6 de)
 simp only[ay,Act.put,tA,exv (hv4 5 de),e6]
 have hO:=hG4.1
 replace hO:=Own.add (aa HO) hG4.2 ym Bg
 clear ym Bg
 refine kg hO 0 Gg (hv4 4 de) ?_
 clear hO
 intro Dy hO hk0
 replace HO:=ae hO
 clear hO hG4 hv4 ma hk0
 try clear e6
 go_upto_region 7 with fail
 refine fw 8 [_,_,_,_,_,_,_,_] [7] HO (dh aF (dh aF (au (Dq rfl (aT 1) (aa HS) rfl) (au (Rn rfl (aT 0) (aT 2) (fun W h=>(aa HM).below h.1.bel) (aa HV).1 (aa HV).2 rfl) (dh (aT 3) (pq [bz [.k (eK f),iv n,iv d],ax (.bool true)] (aT 4) (pq _ (aT 4) (Am Ng ai)))))))) ?_
 intro v5 V5 mo hv5 hne5
 obtain⟨Vr,e7,Fy,Lb⟩:=(show qw 44 zU Dy.heap.size V5 (v5 7)from hv5 7 de)
 simp only[ay,Act.put,tA,exv (hv5 6 de),e7]
 have hO:=mo.1
 replace hO:=Own.add (aa HO) mo.2 Fy Lb
 clear Fy Lb
 refine kg hO 0 vv (hv5 5 de) ?_
 clear hO
 intro Jv hO hk0
 replace HO:=ae hO
 clear hO mo hv5 hne5 hk0
 try clear e7
 go_upto_region 8 with fail
 refine fw 11 [_,_,_,_,_,_,_,_,_,_,_] [] HO (dh aF (au (tq rfl (aT 0) rfl rfl) (dh (aT 1) (ku (jh rfl aF) (ku (tq rfl (aT 3) rfl rfl) (au (mh rfl (aT 2) (aT 4)) (dh (aT 5) (ku (jh rfl aF) (ku (Dq rfl (aT 7) (aa HS) rfl) (ku (Ei func173 kr rfl iw.step (aT 8) (fun W v0 hG h0=>by cases h0;exact(aa HZ) ▸ btn _ W)) (au (mh rfl (aT 6) (aT 9)) ai))))))))))) ?_
 intro v6 V6 qb hv6 vw
 simp only[ay,Act.put,tA,exv (hv6 10 de)]
 replace HO:=ae qb.1
 clear qb hv6 vw
 go_upto_region 10 with fail
 refine Nw 5 [_,_,_,_,_] [] HO (xh Js uq aF (au (sc1 func118 (aT 0) (fun W v0 hG h0=>auu (aa HO1).1 W _ h0)) (xh Zc me0 aF (au (sc1 func103 (aT 2) (fun W v0 hG h0=>cbj (aa HO1).2 W _ h0)) (au (sc2 func119 (aT 1) (aT 3) (fun W v0 v1 hG h0 h1=>Ym W _ h0 _ h1 (aa HF) (fun W' v0 v1 hb h0 h1=>aih ((aa HT).below (az hG.bel hb)) (Oa (aa HO1).1) (Oa (aa HO1).2) h0 h1))) ai))))) ?_
 intro v7 V7 vg hv7 zw
 simp only[ay,Act.put,tA]
 have hO:=vg.1
 refine kg hO 3 Bc (hv7 4 de) ?_
 clear hO
 intro Xm hO hk0
 replace HO:=ae hO
 clear hO vg hv7 zw hk0
 go_wp2_with fail
 exact vo results121 Km rfl rfl (aa HO) Uh rfl rfl
theorem ayu {n d q:Int} (w:Wq) (hm:Cm w r L) (hs:s=⟨(b::ls).toArray⟩) (h0:findT s L=none) (hp:Eg b.toNat=(p,q,true)) (hu:findT ⟨ls.toArray⟩ L=some (Dg f n d)) (hz:Ld ⟨ls.toArray⟩=true) :
  Calls prog 121 #[.map (some r),.string s] w (gp (ko [bz zM,ax (.bool false)]) w):=by
 have HM:=ae hm
 have HS:=ae hs
 have HU:=ae (And.intro (show(findT s L).getD (Dg z7 0 0)=Dg z7 0 0 by rw[h0];rfl) (show(findT s L).isSome=false by rw[h0];rfl))
 have HV:=ae (And.intro (show(findT ⟨ls.toArray⟩ L).getD (Dg z7 0 0)=Dg f n d by rw[hu];rfl) (show(findT ⟨ls.toArray⟩ L).isSome=true by rw[hu];rfl))
 have HP:=ae hp
 have HZ:=ae hz
 clear hm hs h0 hu hp hz
 go_enter func121,ntmps121
 go_upto_region 1 with fail
 have hO:=(Own.push (T:=118) (ls:=zM) (Own.nil w) (gy.vs w [.int .i64 0,.int .i64 0,.int .i64 0,.int .i64 0,.int .i64 0,.int .i64 0,.int .i64 0,.int .i64 0,.bool false,.slice none 0 0,.int .i64 0,.bool false,.slice none 0 0] rfl) (w.heap.size) rfl)
 generalize w.alloc (.cells #[.int .i64 0,.int .i64 0,.int .i64 0,.int .i64 0,.int .i64 0,.int .i64 0,.int .i64 0,.int .i64 0,.bool false,.slice none 0 0,.int .i64 0,.bool false,.slice none 0 0] 118)=W0 at *
 have HO:=ae hO
 clear hO
 refine fw 7 [_,_,_,_,_,_,_] [6] HO (dh aF (dh aF (au (Rn rfl (aT 0) (aT 1) (fun W h=>(aa HM).below h.1.bel) (aa HU).1 (aa HU).2 rfl) (dh (aT 2) (pq [bz [.k (eK z7),iv 0,iv 0],ax (.bool false)] (aT 3) (pq _ (aT 3) (Am Ng ai))))))) ?_
 intro v1 V1 hG1 hv1 hne1
 obtain⟨aeh,e6,ym,Bg⟩:=(show qw 44 zU W0.heap.size V1 (v1 6)from hv1 6 de)
 simp only[ay,Act.put,tA,exv (hv1 5 de),e6]
 have hO:=hG1.1
 replace hO:=Own.add (aa HO) hG1.2 ym Bg
 clear ym Bg
 refine kg hO 0 vv (hv1 4 de) ?_
 clear hO
 intro Ep hO hk0
 replace HO:=ae hO
 clear hO hG1 hv1 hne1 hk0
 try clear e6
 go_upto_region 2 with fail
 refine fw 1 [_] [] HO (dh aF ai) ?_
 intro v2 V2 hG2 hv2 hne2
 simp only[ay,Act.put,tA,exv (hv2 0 de)]
 replace HO:=ae hG2.1
 clear hG2 hv2 hne2
 go_upto_region 4 with fail
 refine fw 2 [_,_] [] HO (dh aF (au (bax rfl (aT 0) (aa HS) rfl) ai)) ?_
 intro v3 V3 hG3 hv3 ji
 simp only[ay,Act.put,tA,exv (hv3 1 de)]
 replace HO:=ae hG3.1
 clear hG3 hv3 ji
 go_upto_region 6 with fail
 refine fw 7 [_,_,_,_,_,_,_] [6] HO (dh aF (au (Pf rfl (aT 0) (aa HS) rfl) (au (sc1 func172 (aT 1) (fun W v0 hG h0=>by cases h0;exact adw (aa HP) W)) (dh (aT 2) (pq [bz [iv p,iv q],ax (.bool true)] (aT 3) (pq _ (aT 3) (Am Lr ai))))))) ?_
 intro v4 V4 hG4 hv4 ma
 obtain⟨alv,e6,ym,Bg⟩:=(show qw 23 zR V3.heap.size V4 (v4 6)from hv4 6 de)
 simp only[ay,Act.put,tA,exv (hv4 5 de),e6]
 have hO:=hG4.1
 replace hO:=Own.add (aa HO) hG4.2 ym Bg
 clear ym Bg
 refine kg hO 0 Gg (hv4 4 de) ?_
 clear hO
 intro Dy hO hk0
 replace HO:=ae hO
 clear hO hG4 hv4 ma hk0
 try clear e6
 go_upto_region 7 with fail
 refine fw 8 [_,_,_,_,_,_,_,_] [7] HO (dh aF (dh aF (au (Dq rfl (aT 1) (aa HS) rfl) (au (Rn rfl (aT 0) (aT 2) (fun W h=>(aa HM).below h.1.bel) (aa HV).1 (aa HV).2 rfl) (dh (aT 3) (pq [bz [.k (eK f),iv n,iv d],ax (.bool true)] (aT 4) (pq _ (aT 4) (Am Ng ai)))))))) ?_
 intro v5 V5 mo hv5 hne5
 obtain⟨Vr,e7,Fy,Lb⟩:=(show qw 44 zU Dy.heap.size V5 (v5 7)from hv5 7 de)
 simp only[ay,Act.put,tA,exv (hv5 6 de),e7]
 have hO:=mo.1
 replace hO:=Own.add (aa HO) mo.2 Fy Lb
 clear Fy Lb
 refine kg hO 0 vv (hv5 5 de) ?_
 clear hO
 intro Jv hO hk0
 replace HO:=ae hO
 clear hO mo hv5 hne5 hk0
 try clear e7
 go_upto_region 8 with fail
 refine fw 11 [_,_,_,_,_,_,_,_,_,_,_] [] HO (dh aF (au (tq rfl (aT 0) rfl rfl) (dh (aT 1) (ku (jh rfl aF) (ku (tq rfl (aT 3) rfl rfl) (au (mh rfl (aT 2) (aT 4)) (dh (aT 5) (ku (jh rfl aF) (ku (Dq rfl (aT 7) (aa HS) rfl) (ku (Ei func173 kr rfl iw.step (aT 8) (fun W v0 hG h0=>by cases h0;exact(aa HZ) ▸ btn _ W)) (au (mh rfl (aT 6) (aT 9)) ai))))))))))) ?_
 intro v6 V6 qb hv6 vw
 simp only[ay,Act.put,tA,exv (hv6 10 de)]
 replace HO:=ae qb.1
 clear qb hv6 vw
 go_upto_region 9 with fail
 refine fw 1 [_] [] HO (au (Gv acs rfl rfl rfl) ai) ?_
 intro v7 V7 vg hv7 zw
 simp only[ay,Act.put,tA]
 have hO:=vg.1
 refine kg hO 3 Bc (hv7 0 de) ?_
 clear hO
 intro Xm hO hk0
 replace HO:=ae hO
 clear hO vg hv7 zw hk0
 go_wp2_with fail
 exact vo results121 Km rfl rfl (aa HO) Uh rfl rfl
end Sb


namespace Sb
def aeo (L:List (ByteArray×Vq)):Wq→Vq→Prop:=fun W v => ∃ r,v = .map (some r)∧Cm W r L
theorem Wx:yu il (aeo L):=by
 rintro w w' v hb ⟨r,rfl,h⟩
 exact⟨r,rfl,h.below hb⟩
theorem aif (w:Wq):Calls prog 120 #[] w (gp (aeo Co) w) :=
 (cev w).mono fun e w' ⟨r,h1,h2,h3⟩=>⟨_,h1,h2,r,rfl,h3⟩
theorem ayd (w:Wq) (hf : ∀ W r,Cm W r Co→Calls prog 121 #[.map (some r),.string s] W (gp (ko [bz zM,ax (.bool false)]) W)) :
  Calls prog 50 #[.string s] w (gp (Kg ⟨z7,0,0,4⟩) w):=by
 have HF:=ae hf
 clear hf
 go_enter func50,ntmps50
 go_upto_region 1 with fail
 have hO:=(Own.push (T:=44) (ls:=zU) (Own.nil w) (gy.vs w [.int .i64 0,.int .i64 0,.int .i64 0,.int .i64 0,.int .i64 0,.int .i64 0,.int .i64 0,.int .i64 0,.int .i64 0] rfl) (w.heap.size) rfl)
 generalize w.alloc (.cells #[.int .i64 0,.int .i64 0,.int .i64 0,.int .i64 0,.int .i64 0,.int .i64 0,.int .i64 0,.int .i64 0,.int .i64 0] 44)=W0 at *
 have HO:=ae hO
 clear hO
 refine yc 7 19 (ui [aeo Co,ax (.string s),ko [bz zM,ax (.bool false)],ko [bz zM,ax (.bool false)],bz zM,ax (.bool false),qw 118 zM W0.heap.size]) (iw w _ W0) il [6] kr rfl (qm.pick ⟨Wx,fo _,rq ⟨(Ae _),(fo _),trivial⟩,rq ⟨(Ae _),(fo _),trivial⟩,Ae _,fo _,Nf _ _ _,trivial⟩) (iw.begin (aa HO))
  (au (Uc func120 kr rfl iw.step  (fun W  hG  => aif W))
  (au (jh rfl aF)
  (au (sc2 func121 (aT 0) (aT 1) (fun W v0 v1 hG h0 h1=>by obtain⟨r,rfl,hm⟩:=h0;cases h1;exact(aa HF) W r hm))
  (au (jh rfl (aT 2))
  (au (xq (ts:=[bz zM,ax (.bool false)]) rfl (aT 3) (sw rfl) rfl)
  (au (xq (ts:=[bz zM,ax (.bool false)]) rfl (aT 3) (sw rfl) rfl)
  (au (Ud Xv rfl iw.step iw.size rfl (Yv (by intro j hj;simp at hj;(repeat' (first|(rcases hj with rfl|hj)))<;>first|(subst hj;exact⟨_,_,_,rfl⟩)|exact⟨_,_,_,rfl⟩)))
  ai))))))) ?_
 intro v1 V1 hG1 hv1 hne1
 obtain⟨aeh,e6,ym,Bg⟩:=(show qw 118 zM W0.heap.size V1 (v1 6)from hv1 6 de)
 simp only[ay,Act.put,tA,exv (hv1 5 de),e6]
 have hO:=hG1.1
 replace hO:=Own.add (aa HO) hG1.2 ym Bg
 clear ym Bg
 refine kg hO 0 Bc (hv1 4 de) ?_
 clear hO
 intro Ep hO hk0
 replace HO:=ae hO
 clear hO hG1 hv1 hne1 hk0
 try clear e6
 go_upto_region 2 with fail
 refine fw 2 [_,_] [] HO (dh aF (au (tq rfl (aT 0) rfl rfl) ai)) ?_
 intro v2 V2 hG2 hv2 hne2
 simp only[ay,Act.put,tA,exv (hv2 1 de)]
 replace HO:=ae hG2.1
 clear hG2 hv2 hne2
 go_upto_region 3 with fail
 refine fw 1 [_] [] HO (au (Pv rfl rfl) ai) ?_
 intro v3 V3 hG3 hv3 ji
 simp only[ay,Act.put,tA]
 have hO:=hG3.1
 refine kg hO 1 vv (hv3 0 de) ?_
 clear hO
 intro Gc hO hk0
 replace HO:=ae hO
 clear hO hG3 hv3 ji hk0
 go_wp2_with fail
 exact vo results50 Bq rfl rfl (aa HO) uq rfl rfl
theorem bry (w:Wq):Calls prog 50 #[.string ⟨#[109,109,105,110]⟩] w (gp (Kg ⟨z7,0,0,4⟩) w) :=
 ayd w fun W r hm=>ayu (b:=109) (ls:=[109,105,110]) (f:=fun j=>if j=2 then 1 else 0) (n:=60) (d:=1) (p:=1) (q:=1000) W hm rfl kr kr kr kr
end Sb


namespace Sb
theorem brs {n d:Int} (w:Wq) (u1:Vq) (h1:bz [iv n,iv d] w u1) (hc:decide (n>0)=c) :
  Calls prog 116 #[.string s,u1,.int .i64 0] w (gp (ax (.bool c)) w):=by
 have HC:=ae hc
 clear hc
 have hu1:=afu h1
 subst hu1
 go_enter func116,ntmps116
 go_upto_region 1 with fail
 have hO:=(Own.push (T:=23) (ls:=[iv n,iv d]) (Own.nil w) (gy.v (xc _) (gy.v (xc _) rfl)) (w.heap.size) rfl)
 generalize w.alloc (.cells #[.int .i64 n,.int .i64 d] 23)=W0 at *
 have HO:=ae hO
 clear hO
 refine fw 2 [_,_] [] HO (dh aF (au (Yp rfl (aT 0) (fe _) rfl rfl) ai)) ?_
 intro v1 V1 hG1 hv1 hne1
 simp only[ay,Act.put,tA,exv (hv1 1 de)]
 replace HO:=ae hG1.1
 clear hG1 hv1 hne1
 go_upto_region 2 with fail
 refine fw 4 [_,_,_,_] [] HO (au (akq (b:=w.heap.size) (off:=0) rfl aF rfl rfl) (au (Jd Fe me0 (aT 0) [] [iv d] rfl) (au (Lp rfl (aT 1) (fe _) rfl (aa HC)) (Ak (aT 2) ai)))) ?_
 intro v2 V2 hG2 hv2 hne2
 simp only[ay,Act.put,tA,show v2 2 = .bool c from hv2 2 de,show v2 3 = .bool c from hv2 3 de]
 replace HO:=ae hG2.1
 clear hG2 hv2 hne2
 go_wp2_with fail
 exact Ka results116 rfl (aa HO).bel rfl
end Sb


def mf (c:UInt8):Bool:=decide (48≤(c.toNat:Int))&&decide ((c.toNat:Int)≤57)
def Cg (l:List UInt8) (m:Int):Bool:=decide (1≤(l.length:Int))&&decide ((l.length:Int)≤m)&&l.all mf
def uf (l:List UInt8):Bool:=Cg l 20&&(l==[48] || !(l.head? == some 48))
theorem Vd (s:ByteArray) (k:Nat) (h:k<s.size):s.data.toList.take (k+1)=s.data.toList.take k++[s[k]]:=by
 rw[bos (by simpa using h)];rfl
theorem oq (s:ByteArray):s.data.toList.length=s.size:=Array.length_toList
theorem azc (s:ByteArray) (k:Nat) (h:k<s.size) (hd:mf s[k]=false):s.data.toList.all mf=false:=by
 rw[List.all_eq_false]
 refine⟨s[k],?_,by rw[hd];decide⟩
 have h1:k<s.data.toList.length:=by rw[oq];exact h
 have h2:s[k]=s.data.toList[k]:=rfl
 rw[h2]
 exact baa h1
theorem alb (s:ByteArray) (m:Int) (w:Wq) (hs:s.size≤9223372036854775807) :
  Calls prog 158 #[.string s,.int .i64 m] w fun e w'=>e = .returned (.bool (Cg s.data.toList m))∧w'=w:=by
 unfold Cg
 rw[oq]
 by_cases h1:(s.size:Int)<1
 ·
  have e:(decide (1≤(s.size:Int))&&decide ((s.size:Int)≤m)&&s.data.toList.all mf)=false:=by rw[dw (show ¬ 1≤(s.size:Int)by omega)];rfl
  rw[e];have d1:decide ((s.size:Int)<1)=true:=dm h1;clear h1 hs e
  go_enter func158,ntmps158
  go_wp2
  go_ret
  exact⟨rfl,rfl⟩
 ·
  have d1:decide ((s.size:Int)<1)=false:=dw h1
  by_cases h2:m<s.size
  ·
   have e:(decide (1≤(s.size:Int))&&decide ((s.size:Int)≤m)&&s.data.toList.all mf)=false:=by rw[dw (show ¬ (s.size:Int)≤m by omega),arx];rfl
   rw[e];have d2:decide (m<(s.size:Int))=true:=dm h2;clear h1 h2 hs e
   go_enter func158,ntmps158
   go_wp2
   go_ret
   exact⟨rfl,rfl⟩
  ·
   have d2:decide (m<(s.size:Int))=false:=dw h2;have e:(decide (1≤(s.size:Int))&&decide ((s.size:Int)≤m))=true:=by rw[dm (show 1≤(s.size:Int)by omega),dm (show(s.size:Int)≤m by omega)];rfl
   rw[e,ana];obtain⟨r,hr⟩ : ∃ r,r=s.data.toList.all mf:=⟨_,rfl⟩
   rw[← hr];have HR:=bg hr;clear h1 h2 e hr
   go_enter func158,ntmps158
   go_wp2
   go_loop [17] (fun i => ∃ k:Nat,k≤s.size∧i = .int .i64 k∧(s.data.toList.take k).all mf=true) (fun i=>s.size-(intOf i).toNat)
   case atStart=>exact⟨0,ug _,rfl,rfl⟩
   case round =>
    obtain⟨k,hk,rfl,hall⟩:=hrel;have aiz:=bg hall;clear hall
    by_cases hlt:k<s.size
    ·
     have hts:=Vd s k hlt;have hf:=azc s k hlt;obtain⟨c,hc⟩ : ∃ c,c=s[k]:=⟨_,rfl⟩
     by_cases c1:(s[k].toNat:Int)<48
     ·
      have e1:decide ((s[k].toNat:Int)<48)=true:=dm c1;have HF:=bg (HR.out.trans (hf (by unfold mf;rw[dw (show ¬ 48≤(s[k].toNat:Int)by omega)];rfl)));clear hf hts hc
      go_wp2
      go_ret
      exact⟨by rw[HF.out];rfl,rfl⟩
     ·
      have e1:decide ((s[k].toNat:Int)<48)=false:=dw c1
      by_cases c2:57<(s[k].toNat:Int)
      ·
       have e2:decide (57<(s[k].toNat:Int))=true:=dm c2;have HF:=bg (HR.out.trans (hf (by unfold mf;rw[dw (show ¬ (s[k].toNat:Int)≤57 by omega),arx])));clear hf hts hc
       go_wp2
       go_ret
       exact⟨by rw[HF.out];rfl,rfl⟩
      ·
       have e2:decide (57<(s[k].toNat:Int))=false:=dw c2;have HS:=bg (show(s.data.toList.take (k+1)).all mf=true by
        rw[hts,amt,aiz.out,Xq,List.all_nil];unfold mf;rw[dm (show 48≤(s[k].toNat:Int)by omega),dm (show(s[k].toNat:Int)≤57 by omega)];rfl)
       clear hf hts hc
       go_wp2
       go_round
       case rel=>exact⟨k+1,by omega,by go_num,HS.out⟩
       case measure=>simp[intOf];omega
    ·
     have HA:=bg (show s.data.toList.all mf=true by
      have h:=aiz.out;rwa[Fb (by rw[oq];omega)]at h)
     have HA2:=bg (HR.out.trans HA.out);clear HA
     go_wp2
     go_ret
     exact⟨by rw[HA2.out];rfl,rfl⟩
theorem Sk (s:ByteArray) (w:Wq) (hs:s.size≤9223372036854775807) :
  Calls prog 156 #[.string s] w fun e w'=>e = .returned (.bool (uf s.data.toList))∧w'=w:=by
 have HD:=ae (fun W=>alb s 20 W hs)
 unfold uf
 by_cases hd:Cg s.data.toList 20=true
 ·
  have hl:0<s.size:=by
   unfold Cg at hd;rw[oq]at hd
   rcases Fs s.size with h|h
   ·
    rw[h]at hd;simp at hd
   ·
    exact h
  rw[hd]at HD ⊢;rw[ana];have hh:s.data.toList.head? = some s[0]:=by
   have h1:0<s.data.toList.length:=by rw[oq];exact hl
   rw[ard,Cj h1];rfl
  have hs0:s.toList=s.data.toList:=agl s;obtain⟨r,hr⟩ : ∃ r,r=(s.data.toList==[48] || !(s.data.toList.head? == some 48)):=⟨_,rfl⟩
  rw[← hr]
  by_cases h0:s.data.toList=[48]
  ·
   have HR:=bg (show r=true by rw[hr,h0];rfl);have e1:(s.toList==[48])=true:=by rw[hs0,h0];rfl
   clear hd hr hh hs0 h0
   go_enter func156,ntmps156
   go_wp2_with (go_at_call 158;refine((aa HD) _).mono ?_;rintro e w' ⟨rfl,rfl⟩)
   all_goals first|go_ret|skip
   all_goals exact⟨by rw[HR.out];rfl,rfl⟩
  ·
   have e1:(s.toList==[48])=false:=by rw[hs0];exact oo.2 h0
   by_cases h1:(s[0].toNat:Int)=48
   ·
    have e2:((s[0].toNat:Int) != 48)=false:=by rw[h1];rfl
    have h2:s[0]=48:=Rf.1 (by show s[0].toNat=48;omega);have HR:=bg (show r=false by rw[hr,hh,h2,oo.2 h0];rfl);clear hd hr hh hs0 h0 h2
    go_enter func156,ntmps156
    go_wp2_with (go_at_call 158;refine((aa HD) _).mono ?_;rintro e w' ⟨rfl,rfl⟩)
    all_goals first|go_ret|skip
    all_goals exact⟨by rw[HR.out];rfl,rfl⟩
   ·
    have e2:((s[0].toNat:Int) != 48)=true:=by simp[h1]
    have h2 : ¬ s[0]=48:=fun h=>h1 (by rw[h];rfl)
    have HR:=bg (show r=true by
     have h3:(some s[0]==some (48:UInt8))=false:=oo.2 (fun h=>h2 (Az h));rw[hr,hh,h3,oo.2 h0];rfl)
    clear hd hr hh hs0 h0 h2
    go_enter func156,ntmps156
    go_wp2_with (go_at_call 158;refine((aa HD) _).mono ?_;rintro e w' ⟨rfl,rfl⟩)
    all_goals first|go_ret|skip
    all_goals exact⟨by rw[HR.out];rfl,rfl⟩
 ·
  have hd':Cg s.data.toList 20=false:=by cases h:Cg s.data.toList 20 with
   | true=>exact absurd h hd
   | false=>rfl
  rw[hd']at HD ⊢;rw[bas];clear hd hd'
  go_enter func156,ntmps156
  go_wp2_with (go_at_call 158;refine((aa HD) _).mono ?_;rintro e w' ⟨rfl,rfl⟩)
  all_goals first|go_ret|skip
  all_goals exact⟨rfl,rfl⟩

theorem bms (s sub:ByteArray) (c:UInt8) (hc:sub.data.toList=[c]) (w:Wq) :
  Calls prog 224 #[.string s,.string sub] w fun e w'=>e = .returned (.int .i64 (Lib.indexByte s.data.toList c))∧w'=w:=by
 have h1:sub.size=1:=by rw[← oq,hc];rfl
 have hg:sub[0]=c:=by
  have h2:sub[0]=sub.data.toList[0]'(by rw[hc];exact Uy):=rfl;rw[h2];simp only[hc,List.getElem_cons_zero]
 have hs0:s.toList=s.data.toList:=agl s
 have hs1:sub.toList=[c]:=(agl sub).trans hc
 obtain⟨i,hi⟩ : ∃ i,i=Lib.indexByte s.data.toList c:=⟨_,rfl⟩
 have HB:=ae (fun W=>stringslite_IndexByte s (sub[0].toNat:Int) W)
 have hcc:((sub[0].toNat:Int)).toNat.toUInt8=c:=by rw[hg,agm];exact UInt8.ofNat_toNat
 rw[hcc]at HB
 rw[← hi]at HB ⊢
 have e1:((sub.size:Int)==0)=false:=by rw[h1];rfl
 have e2:((sub.size:Int)==1)=true:=by rw[h1];rfl
 by_cases h0:s.data.toList=[c]
 ·
  have HI:=bg (show i=0 by rw[hi,h0];simp[Lib.indexByte]);have e3:(sub.toList==s.toList)=true:=by rw[hs1,hs0,h0];exact Yc _
  clear hc hg hs0 hs1 hi hcc h0
  go_enter func224,ntmps224
  go_wp2
  all_goals first|go_ret|skip
  all_goals exact⟨by rw[HI.out];rfl,rfl⟩
 ·
  have e3:(sub.toList==s.toList)=false:=by rw[hs1,hs0];exact oo.2 (fun h=>h0 h.symm)
  have h2:(0:Int)<sub.size:=by omega
  clear hc hg hs0 hs1 hi hcc h0
  go_enter func224,ntmps224
  go_wp2_with (go_at_call 242;refine((aa HB) _).mono ?_;rintro e w' ⟨rfl,rfl⟩)
  all_goals first|go_ret|skip
  all_goals exact⟨rfl,rfl⟩
def cme (w:Wq) (s:ByteArray) (c:UInt8) (e:Ending) (w':Wq):Prop := ∃ (a b:ByteArray) (f:Bool),e = .returned (.tuple #[.string a,.string b,.bool f])∧Below w.heap.size w w' ∧
 ((f=true∧s.data.toList=a.data.toList++c::b.data.toList∧c ∉ a.data.toList)∨(f=false∧a=s∧b.data.toList=[]∧c ∉ s.data.toList))
theorem byn (s sub:ByteArray) (c:UInt8) (hc:sub.data.toList=[c]) (w:Wq) (hs:s.size≤9223372036854775806) :
  Calls prog 198 #[.string s,.string sub] w fun e w'=>cme w s c e w':=by
 have HI:=ae (fun W=>bms s sub c hc W)
 have h1:sub.size=1:=by rw[← oq,hc];rfl
 rcases Int.lt_or_le (Lib.indexByte s.data.toList c) 0 with hn|hn
 ·
  have e0:Lib.indexByte s.data.toList c = -1:=by have:=Lib.indexByte_ge s.data.toList c;omega
  have hno:c ∉ s.data.toList:=fun h=>by
   obtain⟨k,hk⟩:=arf h;exact Lib.indexByte_none e0 k hk
  rw[e0]at HI;clear hn e0 hs
  go_enter func198,ntmps198
  go_wp2_with (go_at_call 224;refine((aa HI) _).mono ?_;rintro e w' ⟨rfl,rfl⟩)
  all_goals first|go_ret3|skip
  exact⟨s,⟨#[]⟩,false,rfl,df _ _,.inr ⟨rfl,rfl,rfl,hno⟩⟩
 ·
  obtain⟨o,ho⟩ : ∃ o:Nat,Lib.indexByte s.data.toList c=o:=⟨_,(Int.toNat_of_nonneg hn).symm⟩
  obtain⟨g1,g2⟩:=Lib.indexByte_some ho;have hlt:o<s.data.toList.length:=by
   rcases Fa o s.data.toList.length with h|h
   ·
    exact h
   ·
    rw[Ha h]at g1;cases g1
  have hlt2:o<s.size:=by rw[← oq];exact hlt
  rw[ho]at HI;have k1:(s.extract 0 o).data.toList=s.data.toList.take o:=by rw[bag];simp
  have k2:(s.extract (o+sub.size) s.size).data.toList=s.data.toList.drop (o+1):=by
   rw[bag,h1];show List.take (s.size-(o+1)) (List.drop (o+1) s.data.toList)=_;exact Fb (by rw[Kv,oq];exact gu _)
  have k3:s.data.toList=(s.extract 0 o).data.toList++c::(s.extract (o+sub.size) s.size).data.toList:=by
   rw[k1,k2];have h2:s.data.toList[o]=c:=by rw[Cj hlt]at g1;exact Az g1
   rw[← h2,← Si hlt,Lu]
  have k4:c ∉ (s.extract 0 o).data.toList:=fun h=>by
   rw[k1]at h;obtain⟨k,hk⟩:=arf h;have hko:k<o:=by
    rcases Fa k o with h|h
    ·
     exact h
    ·
     rw[Ha (by rw[uy];omega)]at hk;cases hk
   rw[Qr hko]at hk;exact g2 k hko hk
  have c1:(0:Int) ≤ ↑o:=by omega
  have c2:(↑o:Int) ≤ ↑s.size:=by omega
  have c3:(0:Int) ≤ ↑o + ↑sub.size:=by omega
  have c4:(↑o + ↑sub.size:Int) ≤ ↑s.size:=by omega
  have K3:=bg k3;have K4:=bg k4;have H1:=bg h1;clear k1 k2 k3 k4 g1 g2 hlt hlt2 hn ho hc h1
  go_enter func198,ntmps198
  go_wp2_with (go_at_call 224;refine((aa HI) _).mono ?_;rintro e w' ⟨rfl,rfl⟩)
  go_region
  all_goals go_wp2
  all_goals first|go_ret3|skip
  all_goals exact⟨_,_,true,rfl,by first|exact df _ _|exact(df _ _).drew,.inl ⟨rfl,K3.out,K4.out⟩⟩
theorem Yn (s sub:ByteArray) (c:UInt8) (hc:sub.data.toList=[c]) (w:Wq) (hs:s.size≤9223372036854775806) :
  Calls prog 155 #[.string s,.string sub] w fun e w'=>cme w s c e w':=by
 have HI:=ae (fun W=>byn s sub c hc W hs)
 clear hc hs
 go_enter func155,ntmps155
 go_wp2_with (go_at_call 198;refine((aa HI) _).mono ?_;rintro e w' ⟨a,b,f,rfl,hb,hf⟩)
 all_goals first|go_ret3|skip
 exact⟨a,b,f,rfl,hb,hf⟩

theorem auw {b:Nat} {x:Int} {s2:Int} {di:Bool} {A2:Option Addr} {c2:Nat} {l2:List Nat} (hq:Mj W b z) (hv:iy W s2 di A2 c2 l2 x) (hb:Below B w W) (hB:B≤b) (hBW:B≤W.heap.size) :
  Mj (((W.setCell ⟨b,0,none⟩ (.int .i64 s2)).setCell ⟨b,1,none⟩ (.bool di)).setCell ⟨b,2,none⟩ (.slice A2 l2.length c2)) b x∧Below B w (((W.setCell ⟨b,0,none⟩ (.int .i64 s2)).setCell ⟨b,1,none⟩ (.bool di)).setCell ⟨b,2,none⟩ (.slice A2 l2.length c2)):=by
 obtain⟨s1,ek,A1,c1,l1,h1,h2⟩:=hq
 have hg:=jq W b (.int .i64 s2) (.bool di) (.slice A2 l2.length c2)
 exact⟨⟨_,_,_,_,_,ati h1,hv.upto h1 (Bd _ _ _ _ _) hg⟩,hb.grown hg hBW (fun k hk=>by injection hk with hk;omega)⟩
theorem azg {K:Nat} (h:je B K z) (h1:je B 1 1) : ∀ n:Nat,je B (K*n+1) (z^n)
 | 0=>by rw[bak,Nr,Bn];exact h1
 | n+1=>by
  have:=(azg h h1 n).mul h;rw[bal,Nat.mul_succ,bbl];exact this
theorem cgr:je eu 1 1:=by unfold je;rw[Rh,ja];omega
def ll (l:List UInt8):Nat:=l.foldl (fun a c=>a*10+(c.toNat-48)) 0
theorem Vv (l:List UInt8) (c:UInt8):ll (l++[c])=ll l*10+(c.toNat-48):=by
 unfold ll;rw[bab];rfl
theorem aip {l:List UInt8} (h:l.all mf=true) {c:UInt8} (hc:c∈l):48≤c.toNat∧c.toNat≤57:=by
 have h1:=Hd.1 h c hc
 unfold mf at h1
 rw[Bz,Ey,Ey]at h1
 omega
theorem bhy {l:List UInt8} (h:l.all mf=true) (k:Nat):(l.take k).all mf=true :=
 Hd.2 (fun x hx=>Hd.1 h x (Dn hx))
theorem awz (n:Nat) : ∀ l:List UInt8,l.length=n→l.all mf=true→ll l<10^l.length:=by
 induction n with
 | zero=>intro l hl _;rw[Yj.1 hl];exact Uy
 | succ n ih =>
  intro l hl h;have hne:l≠[]:=fun e=>by rw[e]at hl;cases hl
  have e:=List.dropLast_concat_getLast hne;have hl':l.dropLast.length=n:=by rw[List.length_dropLast,hl];rfl
  have h1:=ih l.dropLast hl' (Hd.2 (fun x hx=>Hd.1 h x ((List.dropLast_sublist l).subset hx)));have h2:=aip h (List.getLast_mem hne);rw[← e,Vv,e,hl,Be];rw[hl']at h1;omega
theorem Lf (l:List UInt8) (h:l.all mf=true):ll l<10^l.length:=awz _ l rfl h
theorem bbu (h:n<10^40):je eu 3 (n:Int):=by
 have:(10:Nat)^40<eu^3:=by rw[ja];decide
 unfold je;rw[Fq];omega
theorem atc:je eu 1 10:=by unfold je;rw[Rh,ja];omega
theorem cgs {n:Int} (h1:0≤n) (h2:n≤9):je eu 1 n:=by unfold je;rw[Rh,ja];omega
theorem wrap_u8 {n:Int} (h1:0≤n) (h2:n<256):IntKind.u8.wrap n=n:=by
 first
  | exact IntWalk.u8_in _ ⟨h1,by omega⟩
  | (simp[IntKind.wrap];omega)

theorem Xw (s:ByteArray) (w:Wq) (hd:s.data.toList.all mf=true) (hl:s.size≤40) :
  Calls prog 157 #[.string s] w fun e w'=>Jy w (ll s.data.toList:Nat) e w':=by
 have HO:=ae (fun W=>Je 0 om om W)
 have bgj:=ae (fun W=>Je 10 om om W)
 have HD:=ae hd
 clear hd
 go_enter func157,ntmps157
 go_upto_region 1 with fail
 obtain⟨nr,hsz,hw0⟩:=Ii w (.cells #[.int .i64 0,.bool false,.slice none 0 0] 77)
 generalize w.alloc (.cells #[.int .i64 0,.bool false,.slice none 0 0] 77)=W0 at *
 have hq:=lt_of_block nr
 clear hsz
 go_wp2_with fail
 refine((aa HO) _).mono ?_
 rintro e W1 ⟨s5,Ap,A5,c5,l5,rfl,g1,hb⟩
 replace nr:=(hb.block _ (lt_of_block nr)).trans nr
 replace hq:=zh hq hb.size
 replace hw0:=az hw0 hb
 clear hb
 go_upto_region 2 with fail
 have hbx:=Mj.new g1 rfl
 have hb:=ic (df W1.heap.size W1) (.cells #[.int .i64 s5,.bool Ap,.slice A5 l5.length c5] 77)
 clear g1
 obtain⟨bx,acm⟩ : ∃ b,b=W1.heap.size:=⟨_,rfl⟩
 rw[← acm]at hbx ⊢
 have hbB:w.heap.size<bx:=by rw[acm];exact hq
 generalize W1.alloc (.cells #[.int .i64 s5,.bool Ap,.slice A5 l5.length c5] 77)=W2 at *
 replace nr:=(hb.block _ (lt_of_block nr)).trans nr
 replace hq:=zh hq hb.size
 replace hw0:=az hw0 hb
 clear hb acm
 have HW0:=ae hw0;have NR:=ae nr;have HQ:=ae hq
 clear hw0 nr hq
 go_wp2_with fail
 go_loopw [8] (fun iv wr => ∃ k:Nat,k≤s.size∧iv = .int .i64 (k:Int)∧Mj wr bx (ll (s.data.toList.take k):Nat)∧Hid (Below (w.heap.size+1) W2 wr)) (fun iv _=>s.size-(intOf iv).toNat)
 case atStart=>exact⟨0,ug _,by first|rfl|go_num,by exact hbx,ae (df _ _)⟩
 case round =>
  obtain⟨k,hk,rfl,hbq,hgr⟩:=hrel;have hwr:Below w.heap.size w wr:=(aa HW0).trans ((aa hgr).mono om);have hq0:=aa HQ;have hgs:=(aa hgr).size
  by_cases hlt:k<s.size
  ·
   obtain⟨s6,Di,A6,c6,l6,j1,Rw⟩:=hbq;have hdk:=aip (aa HD) (show s[k]∈s.data.toList from baa (by rw[oq];exact hlt));have hts:=Vv (s.data.toList.take k) s[k];rw[← Vd s k hlt]at hts;have hlt2:=Lf (s.data.toList.take k) (bhy (aa HD) k);rw[uy,Ce (by rw[oq];omega)]at hlt2;have h40:10^k≤10^40:=Ho om om;have sz1:je eu 3 ((ll (s.data.toList.take k):Nat):Int):=bbu om;have sz2:je eu 4 (((ll (s.data.toList.take k):Nat):Int)*10):=sz1.mul atc;obtain⟨dv,hdv⟩ : ∃ dv:Int,dv=(s[k].toNat:Int)-48:=⟨_,rfl⟩
   have hdb:0≤dv∧dv≤9:=by omega
   have HTD:=ae (fun W=>Je dv om om W);have szd:je eu 1 dv:=cgs hdb.1 hdb.2;obtain⟨v,hv⟩ : ∃ v:Int,v=(ll (s.data.toList.take k):Nat):=⟨_,rfl⟩
   have hnext:((ll (s.data.toList.take (k+1)):Nat):Int)=v*10+dv:=by rw[hts,hv,hdv];omega
   rw[← hv]at Rw sz1 sz2;have HM:=ae (fun s2 di A2 c2 l2 W (g1:iy W s6 Di A6 c6 l6 v) (g2:iy W s2 di A2 c2 l2 10)=>apx s6 Di A6 c6 l6 v s2 di A2 c2 l2 10 W g1 g2 (g1.fit sz1 (by rw[Hy];omega)) (g2.fit atc (by rw[Hy];omega)));have HA:=ae (fun s2 di A2 c2 l2 s3 Ck A3 c3 l3 W (g1:iy W s2 di A2 c2 l2 (v*10)) (g2:iy W s3 Ck A3 c3 l3 dv)=>bdw s2 di A2 c2 l2 (v*10) s3 Ck A3 c3 l3 dv W g1 g2 (g1.fit sz2 (by rw[Hy];omega)) (g2.fit szd (by rw[Hy];omega)));have Tm:wr.cell? ⟨bx,0,none⟩=some (.int .i64 s6):=ag j1 0;have Tf:=ah j1 0;have Tk:wr.cell? ⟨bx,1,none⟩=some (.bool Di):=ag j1 1;have Te:=ah j1 1;have Tj:wr.cell? ⟨bx,2,none⟩=some (.slice A6 l6.length c6):=ag j1 2;have Td:=ah j1 2;have qx:=lt_of_block j1;have HN:=bg hnext;have w1:IntKind.u8.wrap ((s[k].toNat:Int)-48)=dv:=by rw[← hdv];exact wrap_u8 hdb.1 om
   have w2:IntKind.i64.wrap dv=dv:=Es _ om;have w3:wrap64 dv=dv:=Cs _ om;have w4:((s[k].toNat:Int)-48)%256=dv:=by rw[← hdv];omega
   have d1:decide ((k:Int)<(s.size:Int))=true:=dm om;have d2:decide (k<s.size)=true:=dm hlt;have J1:=ae j1;have F1:=ae Rw;clear hdk hts hlt2 h40 sz1 sz2 hdv hdb szd hv hnext j1 Rw;go_upto_region 5 with fail
   go_region_with (first|(go_at_call_of 137 (Value.int .i64 10);refine((aa bgj) _).mono ?_;rintro e w' ⟨s2,di,A2,c2,l2,rfl,f2,hb2⟩;(try (first|replace f3:=iy.below f3 hb2|replace f3:=(iy.below f3 (ny (df _ _))).below hb2));(try (first|replace f4:=iy.below f4 hb2|replace f4:=(iy.below f4 (ny (df _ _))).below hb2));have hbw:=cz (w:=wr) (by(first|with_reducible assumption|(repeat (first|with_reducible exact df _ _|with_reducible assumption|refine ny ?_|(refine qz ?_ zx _)|refine ky ?_ _)))) hb2;obtain⟨hc,hfz⟩:=fq hbw)|(go_at_call_of 147 (Value.agg #[.int .i64 s6,.bool Di,.slice A6 l6.length c6]);refine((aa HM) s2 di A2 c2 l2 _ (by exact iy.below (aa F1) (by(first|with_reducible assumption|(repeat (first|with_reducible exact df _ _|with_reducible assumption|refine ny ?_|(refine qz ?_ zx _)|refine ky ?_ _))))) (by(first|exact f2|exact iy.below f2 (by(first|with_reducible assumption|(repeat (first|with_reducible exact df _ _|with_reducible assumption|refine ny ?_|(refine qz ?_ zx _)|refine ky ?_ _))))))).mono ?_;rintro e w' ⟨s3,Ck,A3,c3,l3,rfl,f3,hb3⟩;(try (first|replace f4:=iy.below f4 hb3|replace f4:=(iy.below f4 (ny (df _ _))).below hb3));have hbw:=cz (w:=wr) (by(first|with_reducible assumption|(repeat (first|with_reducible exact df _ _|with_reducible assumption|refine ny ?_|(refine qz ?_ zx _)|refine ky ?_ _)))) hb3;obtain⟨hc,hfz⟩:=fq hbw)|(go_at_call_of 137 (Value.int .i64 dv);refine((aa HTD) _).mono ?_;rintro e w' ⟨s4,Nh,A4,c4,l4,rfl,f4,hb4⟩;(try (first|replace f2:=iy.below f2 hb4|replace f2:=(iy.below f2 (ny (df _ _))).below hb4));(try (first|replace f3:=iy.below f3 hb4|replace f3:=(iy.below f3 (ny (df _ _))).below hb4));have hbw:=cz (w:=wr) (by(first|with_reducible assumption|(repeat (first|with_reducible exact df _ _|with_reducible assumption|refine ny ?_|(refine qz ?_ zx _)|refine ky ?_ _)))) hb4;obtain⟨hc,hfz⟩:=fq hbw)|(go_at_call_of 166 (Value.agg #[.int .i64 s3,.bool Ck,.slice A3 l3.length c3]);refine((aa HA) s3 Ck A3 c3 l3 s4 Nh A4 c4 l4 _ (by(first|exact f3|exact iy.below f3 (by(first|with_reducible assumption|(repeat (first|with_reducible exact df _ _|with_reducible assumption|refine ny ?_|(refine qz ?_ zx _)|refine ky ?_ _)))))) (by(first|exact f4|exact iy.below f4 (by(first|with_reducible assumption|(repeat (first|with_reducible exact df _ _|with_reducible assumption|refine ny ?_|(refine qz ?_ zx _)|refine ky ?_ _))))))).mono ?_;rintro e w' ⟨s5,Ap,A5,c5,l5,rfl,f5,hb5⟩;have hbw:=cz (w:=wr) (by(first|with_reducible assumption|(repeat (first|with_reducible exact df _ _|with_reducible assumption|refine ny ?_|(refine qz ?_ zx _)|refine ky ?_ _)))) hb5;obtain⟨hc,hfz⟩:=fq hbw))
   all_goals
    have hst:=auw (Mj.below ⟨_,_,_,_,_,aa J1,aa F1⟩ hbw) f5 ((aa hgr).trans (hbw.mono om)) om (by have:=hbw.size;omega);go_wp2_with fail
    go_roundw
    case rel=>exact⟨k+1,by omega,by first|rfl|go_num,HN.out ▸ hst.1,ae hst.2⟩
    case measure=>simp[intOf]<;>omega
  ·
   have hke:s.data.toList.take k=s.data.toList:=Fb (by rw[oq];omega);rw[hke]at hbq;obtain⟨s6,Di,A6,c6,l6,j1,Rw⟩:=hbq;have jr:=((aa hgr).block w.heap.size om).trans (aa NR);have Tm:wr.cell? ⟨bx,0,none⟩=some (.int .i64 s6):=ag j1 0;have Tf:=ah j1 0;have Tk:wr.cell? ⟨bx,1,none⟩=some (.bool Di):=ag j1 1;have Te:=ah j1 1;have Tj:wr.cell? ⟨bx,2,none⟩=some (.slice A6 l6.length c6):=ag j1 2;have Td:=ah j1 2;have qx:=lt_of_block j1;have r0:wr.cell? ⟨w.heap.size,0,none⟩=some (.int .i64 0):=ag jr 0;have Jn:=ah jr 0;have r1:wr.cell? ⟨w.heap.size,1,none⟩=some (.bool false):=ag jr 1;have Jm:=ah jr 1;have r2:wr.cell? ⟨w.heap.size,2,none⟩=some (.slice none 0 0):=ag jr 2;have Ll:=ah jr 2;have qr:w.heap.size<wr.heap.size:=by omega
   have lu:=bg jr;have F1:=ae Rw;have d1:decide ((k:Int)<(s.size:Int))=false:=dw om;have d2:decide (k<s.size)=false:=dw hlt;clear j1 Rw jr hke hk hl;go_wp2_with fail;exact bodyPost_ret (v:=(Value.agg #[.int .i64 s6,.bool Di,.slice A6 l6.length c6])) (by simp[results,results157,go_sem,r0,r1,r2,qr]) rfl
    ⟨s6,Di,A6,c6,l6,rfl,(aa F1).upto lu.out (Bd _ _ _ _ _) (jq _ _ _ _ _),hwr.grown (jq _ _ _ _ _) hwr.size (fun k hk=>by injection hk with hk;omega)⟩


theorem bdv (s1:Int) (ek:Bool) (A1:Option Addr) (c1:Nat) (l1:List Nat) (z:Int) (n K:Nat) (w:Wq) (h1:iy w s1 ek A1 c1 l1 z) (sz:je eu K z) (hK:K*n+1≤lim) (hK2:K≤lim) (hn:n≤9223372036854775806) :
  Calls prog 139 #[(Value.agg #[.int .i64 s1,.bool ek,.slice A1 l1.length c1]),.int .i64 n] w fun e w'=>Jy w (z^n) e w':=by
 have HX:=ae h1;have Cn:=ae sz;have HK:=ae hK;have HK2:=ae hK2
 have HO:=ae (fun W=>Je 1 om om W)
 clear h1 sz hK hK2
 go_enter func139,ntmps139
 go_upto_region 1 with fail
 obtain⟨nx,nr,hsz,hw0⟩:=Ci w (.cells #[.int .i64 s1,.bool ek,.slice A1 l1.length c1] 77) (.cells #[.int .i64 0,.bool false,.slice none 0 0] 77)
 generalize ((w.alloc (.cells #[.int .i64 s1,.bool ek,.slice A1 l1.length c1] 77)).alloc (.cells #[.int .i64 0,.bool false,.slice none 0 0] 77))=W0 at *
 have hq:=lt_of_block nr
 clear hsz
 go_wp2_with fail
 refine((aa HO) _).mono ?_
 rintro e W1 ⟨s5,Ap,A5,c5,l5,rfl,g1,hb⟩
 replace nx:=(hb.block _ (lt_of_block nx)).trans nx
 replace nr:=(hb.block _ (lt_of_block nr)).trans nr
 replace hq:=zh hq hb.size
 replace hw0:=az hw0 hb
 clear hb
 go_upto_region 2 with fail
 have hbx:=Mj.new g1 rfl
 have hb:=ic (df W1.heap.size W1) (.cells #[.int .i64 s5,.bool Ap,.slice A5 l5.length c5] 77)
 clear g1
 obtain⟨bx,acm⟩ : ∃ b,b=W1.heap.size:=⟨_,rfl⟩
 rw[← acm]at hbx ⊢
 have hbB:w.heap.size+1<bx:=by rw[acm];exact hq
 generalize W1.alloc (.cells #[.int .i64 s5,.bool Ap,.slice A5 l5.length c5] 77)=W2 at *
 replace nx:=(hb.block _ (lt_of_block nx)).trans nx
 replace nr:=(hb.block _ (lt_of_block nr)).trans nr
 replace hq:=zh hq hb.size
 replace hw0:=az hw0 hb
 clear hb acm
 have HW0:=ae hw0;have NX:=ae nx;have NR:=ae nr;have HQ:=ae hq
 clear hw0 nx nr hq
 go_wp2_with fail
 go_loopw [8] (fun iv wr => ∃ k:Nat,k≤n∧iv = .int .i64 (k:Int)∧Mj wr bx (z^k)∧Hid (Below (w.heap.size+2) W2 wr)) (fun iv _=>n-(intOf iv).toNat)
 case atStart=>exact⟨0,ug _,by first|rfl|go_num,by rw[bak];exact hbx,ae (df _ _)⟩
 case round =>
  obtain⟨k,hk,rfl,hbq,hgr⟩:=hrel;have hwr:Below w.heap.size w wr:=(aa HW0).trans ((aa hgr).mono om);have hq0:=aa HQ;have hgs:=(aa hgr).size
  by_cases hlt:k<n
  ·
   obtain⟨s6,Di,A6,c6,l6,j1,Rw⟩:=hbq;have jx:=((aa hgr).block w.heap.size om).trans (aa NX);have Tm:wr.cell? ⟨bx,0,none⟩=some (.int .i64 s6):=ag j1 0;have Tf:=ah j1 0;have Tk:wr.cell? ⟨bx,1,none⟩=some (.bool Di):=ag j1 1;have Te:=ah j1 1;have Tj:wr.cell? ⟨bx,2,none⟩=some (.slice A6 l6.length c6):=ag j1 2;have Td:=ah j1 2;have qx:=lt_of_block j1;have crf:wr.cell? ⟨w.heap.size,0,none⟩=some (.int .i64 s1):=ag jx 0;have cre:wr.cell? ⟨w.heap.size,1,none⟩=some (.bool ek):=ag jx 1;have crd:wr.cell? ⟨w.heap.size,2,none⟩=some (.slice A1 l1.length c1):=ag jx 2;have hX:=(aa HX).below hwr;have zk:je eu (K*k+1) (z^k):=azg (aa Cn) cgr k;have hk2:K*k≤K*n:=Bo K om;have HM:=ae (apx s6 Di A6 c6 l6 (z^k) s1 ek A1 c1 l1 z wr Rw hX (Rw.fit zk (by have:=aa HK;omega)) (hX.fit (aa Cn) (aa HK2)));have hps:z^(k+1)=z^k*z:=bal z k;have HPS:=bg hps;have d1:decide ((k:Int)<(n:Int))=true:=dm om;have d2:decide (k<n)=true:=dm hlt;have J1:=ae j1;have F1:=ae Rw;clear hps zk hk2 hX j1 Rw jx;go_wp2_with fail;refine(aa HM).mono ?_
   rintro e w' ⟨s7,akw,A7,c7,l7,rfl,g7,hb⟩;have hst:=auw (Mj.below ⟨_,_,_,_,_,aa J1,aa F1⟩ hb) g7 ((aa hgr).trans (hb.mono om)) om (by have:=hb.size;omega);obtain⟨hc,hfz⟩:=fq hb;replace Tm:=(hc _ _ qx).trans Tm;replace Tk:=(hc _ _ qx).trans Tk;replace Tj:=(hc _ _ qx).trans Tj;replace Tf:=(hfz _ _ qx).trans Tf;replace Te:=(hfz _ _ qx).trans Te;replace Td:=(hfz _ _ qx).trans Td;clear g7 hb hc hfz HM;go_wp2_with fail
   go_roundw
   case rel=>exact⟨k+1,by omega,by first|rfl|go_num,HPS.out ▸ hst.1,ae hst.2⟩
   case measure=>simp[intOf]<;>omega
  ·
   obtain rfl:k=n:=by omega
   obtain⟨s6,Di,A6,c6,l6,j1,Rw⟩:=hbq;have jr:=((aa hgr).block (w.heap.size+1) om).trans (aa NR);have Tm:wr.cell? ⟨bx,0,none⟩=some (.int .i64 s6):=ag j1 0;have Tf:=ah j1 0;have Tk:wr.cell? ⟨bx,1,none⟩=some (.bool Di):=ag j1 1;have Te:=ah j1 1;have Tj:wr.cell? ⟨bx,2,none⟩=some (.slice A6 l6.length c6):=ag j1 2;have Td:=ah j1 2;have qx:=lt_of_block j1;have r0:wr.cell? ⟨w.heap.size+1,0,none⟩=some (.int .i64 0):=ag jr 0;have Jn:=ah jr 0;have r1:wr.cell? ⟨w.heap.size+1,1,none⟩=some (.bool false):=ag jr 1;have Jm:=ah jr 1;have r2:wr.cell? ⟨w.heap.size+1,2,none⟩=some (.slice none 0 0):=ag jr 2;have Ll:=ah jr 2;have qr:w.heap.size+1<wr.heap.size:=by omega
   have lu:=bg jr;have F1:=ae Rw;have d1:decide ((k:Int)<(k:Int))=false:=dw om;have d2:decide (k<k)=false:=dw om;clear j1 Rw jr hlt hk;go_wp2_with fail;exact bodyPost_ret (v:=(Value.agg #[.int .i64 s6,.bool Di,.slice A6 l6.length c6])) (by simp[results,results139,go_sem,r0,r1,r2,qr]) rfl
    ⟨s6,Di,A6,c6,l6,rfl,(aa F1).upto lu.out (Bd _ _ _ _ _) (jq _ _ _ _ _),hwr.grown (jq _ _ _ _ _) hwr.size (fun k hk=>by injection hk with hk;omega)⟩

end Go.Proofs.YtfgeaakhlcaibaaGreatDoor
namespace Go.Proofs.YtfgeaakhlcaibaaGreatDoor
open Go.Proofs.Tryz
open Go renaming World → Wq
open Go renaming Value → Vq
variable {f h g:Nat→Int} {w W:Wq} {x:Operand} {s:ByteArray} {r n k d F B:Nat} {ty:TypeId} {pos:String} {af:Array Edge} {gd:Option (Nat×Bool)} {e u v m p z:Int} {b:UInt8} {ls:List UInt8} {L:List (ByteArray×Vq)} {a y q:Rat} {Q:Exit→Act→Wq→Prop} {l:List Oper} {T:Nat→Wq→Vq→Prop} {G:Wq→Prop} {al:List Nat} {a0:Act} {v0 u0 u1 u2 u3:Vq} {ρ:Operand→Vq} {ats:Array TypeId} {c:Bool}

def Qi (c:UInt8):List UInt8→Option (List UInt8×List UInt8)
 | []=>none
 | x::l=>if x=c then some ([],l)else(Qi c l).map fun p=>(x::p.1,p.2)
theorem Qh (c:UInt8) : ∀ (a b:List UInt8),c ∉ a→Qi c (a++c::b)=some (a,b)
 | [],b,_=>by simp[Qi]
 | x::a,b,h=>by
  have h1 : ¬ x=c:=fun e=>h (by rw[e];exact Ah)
  have h2:c ∉ a:=fun e=>h (Fw _ e)
  rw[Ut,Qi,if_neg h1,Qh c a b h2];rfl
theorem Sr (c:UInt8) : ∀ l:List UInt8,c ∉ l→Qi c l=none
 | [],_=>rfl
 | x::l,h=>by
  have h1 : ¬ x=c:=fun e=>h (by rw[e];exact Ah)
  have h2:c ∉ l:=fun e=>h (Fw _ e)
  rw[Qi,if_neg h1,Sr c l h2];rfl
def ou (l:List UInt8):Option Rat :=
 match Qi 47 l with
 | some (a,b)=>if (uf a&&uf b && !(b==[48]))=true then some (Rat.divInt (ll a:Nat) (ll b:Nat))else none
 | none=>match Qi 46 l with
  | some (a,b)=>if (uf a&&Cg b 12)=true then some (Rat.divInt (ll (a++b):Nat) ((10^b.length:Nat):Int))else none
  | none=>if uf l=true then some (Rat.divInt (ll l:Nat) 1)else none
theorem Iu {l a b:List UInt8} (hl:l=a++47::b) (hn:47 ∉ a):ou l=if (uf a&&uf b && !(b==[48]))=true then some (Rat.divInt (ll a:Nat) (ll b:Nat))else none:=by
 unfold ou;rw[hl,Qh 47 a b hn]
theorem Ry {l a b:List UInt8} (h0:47 ∉ l) (hl:l=a++46::b) (hn:46 ∉ a):ou l=if (uf a&&Cg b 12)=true then some (Rat.divInt (ll (a++b):Nat) ((10^b.length:Nat):Int))else none:=by
 unfold ou;rw[Sr 47 l h0];dsimp only;rw[hl,Qh 46 a b hn]
theorem Ko {l:List UInt8} (h0:47 ∉ l) (h1:46 ∉ l):ou l=if uf l=true then some (Rat.divInt (ll l:Nat) 1)else none:=by
 unfold ou;rw[Sr 47 l h0];dsimp only;rw[Sr 46 l h1]
def uh (l:List UInt8):Uq :=
 if l.head? = some 45 then
  match ou l.tail with
  | some q=>if q=0 then⟨0,0,2⟩else jf (-q)
  | none=>⟨0,0,2⟩
 else match ou l with
  | some q=>jf q
  | none=>⟨0,0,2⟩
theorem ama (l:List UInt8) : ∀ a:Nat,l.foldl (fun a (c:UInt8)=>a*10+(c.toNat-48)) a=a*10^l.length+ll l:=by
 unfold ll
 induction l with
 | nil=>intro a;simp
 | cons c l ih =>
  intro a;rw[List.foldl_cons,List.foldl_cons,ih,ih (0*10+(c.toNat-48)),Db,Be,ajp,Bn,xm,og (10^l.length) 10,uk,Yh]
theorem bfu (c:UInt8) (l:List UInt8):ll (c::l)=(c.toNat-48)*10^l.length+ll l:=by
 have h:=ama l (0*10+(c.toNat-48))
 rw[ajp,Bn]at h
 show List.foldl _ (0*10+(c.toNat-48)) l=_
 rw[ajp,Bn];exact h
theorem uj {l:List UInt8}:Cg l m=true↔1≤l.length∧(l.length:Int)≤m∧l.all mf=true:=by
 unfold Cg
 rw[Bz,Bz,Ey,Ey]
 constructor
 ·
  rintro⟨⟨h1,h2⟩,h3⟩;exact⟨by omega,h2,h3⟩
 ·
  rintro⟨h1,h2,h3⟩;exact⟨⟨by omega,h2⟩,h3⟩
theorem yo {l:List UInt8}:uf l=true↔Cg l 20=true∧(l=[48]∨l.head? ≠ some 48):=by
 unfold uf
 rw[Bz,agp,Iw,agq,oo]
theorem acw {l:List UInt8} (h:uf l=true) (hz : ¬ l=[48]):0<ll l:=by
 obtain⟨h1,h2⟩:=yo.1 h
 obtain⟨h3,_,h5⟩:=uj.1 h1
 cases l with
 | nil=>exact absurd h3 de
 | cons c l =>
  rcases h2 with h2|h2
  ·
   exact absurd h2 hz
  ·
   have hc:=aip h5 (Ah (a:=c) (l:=l));have hne:c.toNat≠48:=fun e=>h2 (by
    have:c=48:=Rf.1 e;rw[this];rfl)
   rw[bfu];have:=abn (show 1≤c.toNat-48 by omega) (wz (n:=l.length) (show 0<10 by decide));omega
end Go.Proofs.YtfgeaakhlcaibaaGreatDoor
