/- Texts beneath a law of layer 1. -/
import Derived.Below
import Derived.IntWalk
import Derived.Laws.AppendOwn
import Derived.Laws.Bits64
import Derived.Laws.BitsLemmas
import Derived.Laws.Sem
import Derived.Laws.World
import Derived.Lib.Join
import Derived.Lib.SplitLaws
import Derived.Lib.Strings
import Derived.MapKept
import Derived.Orders
import Derived.StillTail
import Derived.OrdersHeld
import Derived.WalkKit
import Derived.WalkSpells
import Derived.Laws.OwnMore
import Derived.Deep.AppendLies
import Derived.Deep.Draws
import Derived.Laws.Rows
import Derived.Lib.Hide
import Derived.Test.YtfgeaakhlcaibaaGreatDoorProg
import Derived.BigQuiet
import Derived.Deep.QuietTactic
import Derived.StillTailTactics
import Derived.Deep.RegionWith
import Derived.Laws.Externs
import Derived.Shelf.Spec.BitsCarry
import Derived.Shelf.Bits.Mul64
set_option maxRecDepth 100000
set_option maxHeartbeats 16000000
namespace Go.Proofs.YtfgeaakhlcaibaaGreatDoor
open Go.Proofs.Tryz
open Go renaming World → Wq
open Go renaming Value → Vq
variable {B b i u n c d x y S r v cap j q Y t y1 y0 z hi lo id g s1 q1 h1:Nat} {w w':Wq} {zc xl yl l al m zl zr qc ul vl:List Nat} {a a0:Act} {P:Program} {L:Array Bool} {Q:Exit→Act→Wq→Prop} {E:Wq→Wq→Prop} {A:Option Addr} {G:Wq→Prop} {o:Oper} {p:Prop} {row:Option Nat}
abbrev bkw:=@Array.append_empty
abbrev avt:=@Array.empty_append
abbrev bks:=@Array.getD_eq_getD_getElem?
abbrev bkr:=@Array.getElem?_append
abbrev wh:=@Array.getElem?_eq_getElem
abbrev bus:=@Array.getElem?_eq_none
abbrev bur:=@Array.getElem?_eq_some_iff
abbrev avs:=@Array.getElem?_modify
abbrev buq:=@Array.getElem_append
abbrev bkv:=@Array.toList_extract
abbrev qz:=@Go.RowKit.Below.alloc
abbrev ny:=@Go.RowKit.Below.drew
abbrev ags:=@Go.RowKit.Below.heap_alloc
abbrev anc:=@Go.RowKit.Below.heap_setCell
abbrev df:=@Go.RowKit.Below.refl
abbrev bku:=@Bool.and_eq_false_imp
abbrev Bz:=@Bool.and_eq_true
abbrev arx:=@Bool.and_false
abbrev bas:=@Bool.false_and
abbrev anb:=@Bool.false_eq_true
abbrev agr:=@Bool.false_ne_true
abbrev agq:=@Bool.not_eq_true'
abbrev agp:=@Bool.or_eq_true
abbrev ana:=@Bool.true_and
abbrev bap:=@ByteArray.data_extract
abbrev bkt:=@ByteArray.size_extract
abbrev aag:=@Classical.byContradiction
abbrev art:=@Int.cast_ofNat_Int
abbrev ars:=@Int.dvd_refl
abbrev arq:=@Int.dvd_trans
abbrev amz:=@Int.eq_ofNat_of_zero_le
abbrev bao:=@Int.le_of_lt
abbrev amy:=@Int.lt_trichotomy
abbrev arp:=@Int.mul_assoc
abbrev Xr:=@Int.mul_comm
abbrev amx:=@Int.mul_left_comm
abbrev agn:=@Int.mul_ne_zero
abbrev amw:=@Int.mul_one
abbrev aro:=@Int.mul_tdiv_cancel_left
abbrev arn:=@Int.natAbs_dvd
abbrev Uu:=@Int.natAbs_mul
abbrev Fq:=@Int.natAbs_natCast
abbrev adh:=@Int.natAbs_neg
abbrev ban:=@Int.natAbs_of_nonneg
abbrev adg:=@Int.natCast_add
abbrev aaf:=@Int.natCast_mul
abbrev arl:=@Int.ofNat_dvd
abbrev bam:=@Int.ofNat_natAbs_of_nonpos
abbrev Pb:=@Int.ofNat_tdiv
abbrev aae:=@Int.one_mul
abbrev bal:=@Int.pow_succ
abbrev bak:=@Int.pow_zero
abbrev baj:=@Int.sign_eq_neg_one_of_neg
abbrev amv:=@Int.sign_eq_one_of_pos
abbrev agm:=@Int.toNat_natCast
abbrev Sj:=@Go.IntKind.wrap_u32
abbrev Ct:=@Go.IntKind.wrap_u64
abbrev Es:=@Go.IntWalk.i64_in
abbrev bai:=@Go.IntWalk.i64_left
abbrev Cs:=@Go.IntWalk.wrap64_in
abbrev bah:=@Go.Lib.countB_le
abbrev bag:=@Go.Lib.extract_eq
abbrev bg:=@Go.Lib.hid
abbrev amu:=@Go.Lib.join_cons
abbrev agl:=@Go.Lib.toList_data
abbrev amt:=@List.all_append
abbrev Xq:=@List.all_cons
abbrev Hd:=@List.all_eq_true
abbrev Lm:=@List.append_assoc
abbrev Oz:=@List.append_nil
abbrev ark:=@List.cons.inj
abbrev Ut:=@List.cons_append
abbrev baf:=@List.dropWhile_cons_of_neg
abbrev bae:=@List.dropWhile_cons_of_pos
abbrev bac:=@List.drop_append_of_le_length
abbrev arj:=@List.drop_drop
abbrev Si:=@List.drop_eq_getElem_cons
abbrev Sg:=@List.drop_of_length_le
abbrev bkq:=@List.drop_succ_cons
abbrev agk:=@List.drop_zero
abbrev ari:=@List.eq_nil_of_length_eq_zero
abbrev bkp:=@List.ext_getElem
abbrev bko:=@List.extract_eq_take_drop
abbrev bab:=@List.foldl_append
abbrev arh:=@List.getElem?_append_left
abbrev bkn:=@List.getElem?_append_right
abbrev Sd:=@List.getElem?_drop
abbrev Cj:=@List.getElem?_eq_getElem
abbrev Ha:=@List.getElem?_eq_none
abbrev agj:=@List.getElem?_eq_some_iff
abbrev aad:=@List.getElem?_map
abbrev arf:=@List.getElem?_of_mem
abbrev bkm:=@List.getElem?_set_ne
abbrev bkl:=@List.getElem?_take
abbrev Qr:=@List.getElem?_take_of_lt
abbrev baa:=@List.getElem_mem
abbrev ard:=@List.head?_eq_getElem?
abbrev Bj:=@List.length_append
abbrev Db:=@List.length_cons
abbrev Kv:=@List.length_drop
abbrev Yj:=@List.length_eq_zero_iff
abbrev Rm:=@List.length_map
abbrev bbq:=@List.length_pos_iff
abbrev Pn:=@List.length_set
abbrev uy:=@List.length_take
abbrev ajy:=@List.map_append
abbrev Gr:=@List.map_cons
abbrev Rl:=@List.map_nil
abbrev Rk:=@List.map_toArray
abbrev Ku:=@List.mem_append
abbrev ajx:=@List.mem_append_left
abbrev Ht:=@List.mem_append_right
abbrev yx:=@List.mem_cons
abbrev Fw:=@List.mem_cons_of_mem
abbrev Ah:=@List.mem_cons_self
abbrev Nv:=@List.mem_map
abbrev Kt:=@List.mem_of_getElem?
abbrev aso:=@List.mem_of_mem_drop
abbrev Dn:=@List.mem_of_mem_take
abbrev abr:=@List.mem_range
abbrev Rj:=@List.mem_singleton
abbrev Pm:=@List.nil_append
abbrev Ri:=@List.nodup_cons
abbrev aez:=@List.not_mem_nil
abbrev aey:=@List.set_eq_take_append_cons_drop
abbrev bbp:=@List.size_toArray
abbrev bbo:=@List.takeWhile_append_dropWhile
abbrev asn:=@List.takeWhile_cons_of_neg
abbrev asl:=@List.takeWhile_cons_of_pos
abbrev Pk:=@List.take_add_one
abbrev Lu:=@List.take_append_drop
abbrev bou:=@List.take_append_of_le_length
abbrev abq:=@List.take_length
abbrev Fb:=@List.take_of_length_le
abbrev bos:=@List.take_succ_eq_append_getElem
abbrev Nu:=@List.take_zero
abbrev bbn:=@Go.MapKept.heap_set
abbrev asj:=@Go.MapKept.run_findKey
abbrev asi:=@Go.MapKept.run_getObj_map
abbrev Yi:=@Go.Proofs.Mul64.wrapN
abbrev ash:=@Nat.Coprime.coprime_dvd_right
abbrev bbm:=@Nat.Coprime.mul_left
abbrev asg:=@Nat.Coprime.mul_right
abbrev Yh:=@Nat.add_assoc
abbrev asf:=@Nat.add_comm
abbrev xm:=@Nat.add_mul
abbrev bbl:=@Nat.add_right_comm
abbrev ase:=@Nat.add_sub_cancel
abbrev asc:=@Nat.add_sub_cancel_left
abbrev Hr:=@Nat.add_zero
abbrev ajw:=@Nat.coprime_div_gcd_div_gcd
abbrev Fv:=@Nat.div_add_mod
abbrev ajv:=@Nat.div_eq_of_lt
abbrev Yg:=@Nat.div_le_self
abbrev Fu:=@Nat.div_lt_iff_lt_mul
abbrev Uz:=@Nat.div_mul_le_self
abbrev Fs:=@Nat.eq_zero_or_pos
abbrev Ja:=@Nat.gcd_comm
abbrev aju:=@Nat.gcd_dvd_left
abbrev ajt:=@Nat.gcd_dvd_right
abbrev asb:=@Nat.gcd_le_left
abbrev ajs:=@Nat.gcd_pos_of_pos_left
abbrev abp:=@Nat.gcd_pos_of_pos_right
abbrev aex:=@Nat.gcd_rec
abbrev asa:=@Nat.gcd_zero_right
abbrev abo:=@Nat.le_div_iff_mul_le
abbrev bbk:=@Nat.le_mul_of_pos_right
abbrev Lt:=@Nat.le_of_lt
abbrev gu:=@Nat.le_refl
abbrev xy:=@Nat.le_trans
abbrev Dm:=@Nat.lt_of_le_of_lt
abbrev zh:=@Nat.lt_of_lt_of_le
abbrev arz:=@Nat.lt_of_mul_lt_mul_right
abbrev Fa:=@Nat.lt_or_ge
abbrev ajr:=@Nat.lt_succ_iff_lt_or_eq
abbrev ary:=@Nat.lt_succ_self
abbrev Iz:=@Nat.lt_trans
abbrev Ce:=@Nat.min_eq_left
abbrev bbj:=@Nat.min_le_right
abbrev aew:=@Nat.mod_eq_of_lt
abbrev Bf:=@Nat.mod_lt
abbrev uo:=@Nat.mul_add
abbrev uk:=@Nat.mul_assoc
abbrev og:=@Nat.mul_comm
abbrev Kr:=@Nat.mul_div_cancel_left
abbrev Yf:=@Nat.mul_eq_zero
abbrev abn:=@Nat.mul_le_mul
abbrev Bo:=@Nat.mul_le_mul_left
abbrev Dc:=@Nat.mul_le_mul_right
abbrev Nt:=@Nat.mul_left_comm
abbrev arw:=@Nat.mul_lt_mul_of_pos_right
abbrev ajq:=@Nat.mul_mod_mul_right
abbrev Ns:=@Nat.mul_one
abbrev Ye:=@Nat.mul_pos
abbrev Nr:=@Nat.mul_zero
abbrev arv:=@Nat.not_lt_zero
abbrev Iy:=@Nat.one_mul
abbrev abm:=@Nat.pos_of_ne_zero
abbrev Hq:=@Nat.pow_add
abbrev Ho:=@Nat.pow_le_pow_right
abbrev Rh:=@Nat.pow_one
abbrev wz:=@Nat.pow_pos
abbrev Be:=@Nat.pow_succ
abbrev Yd:=@Nat.sub_le
abbrev aev:=@Nat.succ_le_succ
abbrev Bn:=@Nat.zero_add
abbrev ug:=@Nat.zero_le
abbrev Uy:=@Nat.zero_lt_one
abbrev ajp:=@Nat.zero_mul
abbrev Kq:=@Ne.symm
abbrev Ux:=@Go.Oper.wp_mono
abbrev aeu:=@Option.isSome_none
abbrev bbi:=@Option.map_eq_some_iff
abbrev Az:=@Option.some.inj
abbrev bbh:=@Option.some.injEq
abbrev bbg:=@Rat.divInt_add_divInt
abbrev ajo:=@Rat.divInt_mul_divInt
abbrev ajn:=@Rat.neg_den
abbrev ajm:=@Rat.neg_num
abbrev Uw:=@Rat.num_divInt_den
abbrev ajl:=@Rat.num_nonneg
abbrev aet:=@Go.Region.waitsFor_spec
abbrev ajk:=@Go.Sem.run_bind
abbrev Rf:=@UInt8.toNat_inj
abbrev Re:=@Go.World.cell?_of_block
abbrev ajj:=@Go.World.cell?_setCell_other
abbrev bbf:=@Go.World.ownsRow.cells
abbrev bbe:=@Go.World.ownsRow_nil
abbrev yw:=@Go.World.size_alloc
abbrev oo:=@beq_eq_false_iff_ne
abbrev Iw:=@beq_iff_eq
abbrev Yc:=@beq_self_eq_true
abbrev aes:=@bne_iff_ne
abbrev Ez:=@congrArg
abbrev aer:=@decide_eq_decide
abbrev dw:=@decide_eq_false
abbrev aru:=@decide_eq_false_iff_not
abbrev dm:=@decide_eq_true
abbrev Ey:=@decide_eq_true_eq
abbrev Uv:=@of_decide_eq_false
abbrev sw:=@of_decide_eq_true
theorem de {P:Prop} (h:P:=by decide):P:=h

def ig (l:List Oper) (j:Nat):Option Tmp:=(l[j]?).bind (·.dst)
def ay (v:Nat→Vq):Nat→List Oper→Act→Act
 | _,[],a=>a
 | k,o::l,a=>ay v (k+1) l (a.put o.dst (v k))
theorem Zu (a:Act) (d:Option Tmp) (v:Vq):(a.put d v).defers=a.defers:=by cases d<;>rfl
theorem Yb (a:Act) (d:Option Tmp) (v:Vq):(a.put d v).tmps.size=a.tmps.size:=by cases d<;>simp[Act.put]
theorem Ji (a:Act) (d:Option Tmp) (v:Vq) (t:Tmp) (h:d≠some t):(a.put d v).tmps.getD t undef=a.tmps.getD t undef:=by
 cases d with
 | none=>rfl
 | some d =>
  have hne:d≠t:=fun e=>h (by rw[e])
  simp[Act.put,Array.getElem?_setIfInBounds_ne hne]
theorem Vy (a:Act) (v:Vq) (d:Tmp) (h:d<a.tmps.size):(a.put (some d) v).tmps.getD d undef=v:=by
 simp[Act.put,h]
theorem Qx (v:Nat→Vq) : ∀ (l:List Oper) (k:Nat) (a:Act),(ay v k l a).defers=a.defers
 | [],_,_=>rfl
 | o::l,k,a=>by rw[ay,Qx v l,Zu]
theorem Vx (v:Nat→Vq) : ∀ (l:List Oper) (k:Nat) (a:Act),(ay v k l a).tmps.size=a.tmps.size
 | [],_,_=>rfl
 | o::l,k,a=>by rw[ay,Vx v l,Yb]
theorem Rz (v:Nat→Vq) (t:Tmp) : ∀ (l:List Oper) (k:Nat) (a:Act),(∀ j,ig l j≠some t)→(ay v k l a).tmps.getD t undef=a.tmps.getD t undef
 | [],_,_,_=>rfl
 | o::l,k,a,h=>by
  rw[ay,Rz v t l (k+1) _ (fun j=>h (j+1)),Ji _ _ _ _ (show o.dst≠some t from h 0)]
theorem Ya (v:Nat→Vq) (d:Tmp) : ∀ (l:List Oper) (k j:Nat) (a:Act),ig l j=some d→(∀ i,ig l i=some d→i=j)→d<a.tmps.size→(ay v k l a).tmps.getD d undef=v (k+j)
 | [],_,_,_,h,_,_=>by cases h
 | o::l,k,0,a,h,hu,hs=>by
  have ho:o.dst=some d:=h;rw[ay,Rz v d l (k+1) _ (fun j hj=>by have:=hu (j+1) hj;omega),ho,Vy _ _ _ hs];rfl
 | o::l,k,j+1,a,h,hu,hs=>by
  rw[ay,Ya v d l (k+1) j _ h (fun i hi=>by have:=hu (i+1) hi;omega) (by rw[Yb];exact hs)]
  congr 1;omega
theorem aiv {b:Act} (hd:a.defers=b.defers) (hs:a.tmps.size=b.tmps.size) (h : ∀ t,a.tmps.getD t undef=b.tmps.getD t undef):a=b:=by
 obtain⟨x,y⟩:=a
 obtain⟨x',y'⟩:=b
 dsimp only at *
 subst hd
 congr 1
 refine Array.ext hs (fun i h1 h2 => ?_)
 have:=h i
 simpa [h1,h2]using this

def Gf (L:Array Bool):Nat→Nat
 | 0=>0
 | m+1=>Gf L m+(if L.getD m true=true then 0 else 1)
theorem ajf : ∀ {m:Nat},m≤i→Gf (L.setIfInBounds i true) m=Gf L m
 | 0,_=>rfl
 | m+1,h=>by rw[Gf,Gf,ajf (by omega),getD_set_ne true (by omega)]
theorem aqu:(L.setIfInBounds i true).getD i true=true:=by
 simp only[bks,Array.getElem?_setIfInBounds]
 simp only[if_true]
 split<;>rfl
theorem aaw (hi:L.getD i true=false) : ∀ {m:Nat},i<m→Gf (L.setIfInBounds i true) m+1=Gf L m
 | 0,h=>by omega
 | m+1,h=>by
  rw[Gf,Gf]
  by_cases hm:i=m
  ·
   subst hm;rw[ajf (gu _),aqu,hi]
   simp
  ·
   rw[getD_set_ne true hm,← aaw hi (m:=m) (by omega)];omega
theorem Sa : ∀ {m:Nat},Gf L m=0 → ∀ i,i<m→L.getD i true=true
 | 0,_,i,h=>by omega
 | m+1,h,i,hi=>by
  rw[Gf]at h
  by_cases him:i=m
  ·
   subst him
   by_cases hg:L.getD i true=true
   ·
    exact hg
   ·
    rw[if_neg hg]at h;omega
  ·
   exact Sa (m:=m) (by omega) i (by omega)
theorem aay : ∀ {m:Nat},Gf L m≠0 → ∃ i,i<m∧L.getD i true=false ∧ ∀ j,j<i→L.getD j true=true
 | 0,h=>absurd rfl h
 | m+1,h=>by
  by_cases h0:Gf L m=0
  ·
   rw[Gf,h0]at h;refine⟨m,by omega,?_,fun j hj=>Sa h0 j hj⟩
   cases hg:L.getD m true with
   | false=>rfl
   | true=>rw[if_pos hg]at h;exact absurd rfl h
  ·
   obtain⟨i,hi,h1,h2⟩:=aay (m:=m) h0;exact⟨i,by omega,h1,h2⟩
theorem aax (n:Nat) : ∀ {m:Nat},m≤n→Gf (Array.replicate n false) m=m
 | 0,_=>rfl
 | m+1,h=>by
  rw[Gf,aax n (by omega)];have:(Array.replicate n false).getD m true=false:=by simp[show m<n by omega]
  rw[this];simp

def si (l:List Oper) (k j:Nat) (d:Tmp):Bool:=Region.waitsFor .any l.toArray k j&&ig l j==some d
def Gd (l:List Oper) (n:Nat) (t:Tmp):Bool:=(l.take n).all fun o=>o.dst != some t
def aiu (l:List Oper) (n:Nat):Bool:=(List.range n).all fun i=>match l[i]? with
 | some o=>o.after.all fun e => !Region.binds .any e||decide (e.on<i)
 | none=>false
def ait (l:List Oper) (n sz:Nat):Bool:=(List.range n).all fun i=>match ig l i with
 | some d=>decide (d<sz)&&(List.range n).all fun j=>ig l j != some d||j==i
 | none=>true
def Fh (n m:Nat):Array Bool:=Array.replicate n true++Array.replicate m false
def adb (l:List Oper) (n sz:Nat):Bool :=
 decide (n≤l.length)&&(decide (n=l.length)||(Region.sinkB .any l.toArray n&&Region.chainB .any l.toArray n))&&aiu l n&&ait l n sz &&
  Region.seqB .any l.toArray (l.length-n) n (Fh n (l.length-n))

def ib (P:Program) (Q:Exit→Act→Wq→Prop) (l:List Oper) (n:Nat) (T:Nat→Wq→Vq→Prop) (G:Wq→Prop) (E:Wq→Wq→Prop) (al:List Nat) (a0:Act) (k:Nat) (o:Oper):Prop :=
 ∀ (a:Act) (w:Wq),G w→(∀ t,Gd l n t=true→a.tmps.getD t undef=a0.tmps.getD t undef)→(∀ j d,si l k j d=true→T j w (a.tmps.getD d undef)) →
  o.wp P a w (fun a' w' => ∃ v,a'=a.put o.dst v∧G w'∧E w w'∧T k w' v∧(al.contains k=true → ∀ j u,al.contains j=true→T j w u→u≠v)) Q
def Xn (P:Program) (Q:Exit→Act→Wq→Prop) (l:List Oper) (n:Nat) (T:Nat→Wq→Vq→Prop) (G:Wq→Prop) (E:Wq→Wq→Prop) (al:List Nat) (a0:Act) (k:Nat) (o:Oper):Prop :=
 ∀ (a:Act) (w:Wq),G w→(∀ t,Gd l n t=true→a.tmps.getD t undef=a0.tmps.getD t undef)→(∀ j d,si l k j d=true→T j w (a.tmps.getD d undef)) →
  if Region.wanted o (yielded l.toArray a.tmps)=true then o.wp P a w (fun a' w' => ∃ v,a'=a.put o.dst v∧G w'∧E w w'∧T k w' v∧(al.contains k=true → ∀ j u,al.contains j=true→T j w u→u≠v)) Q
  else E w w∧T k w undef∧(al.contains k=true → ∀ j u,al.contains j=true→T j w u→u≠undef)
def yf (P:Program) (Q:Exit→Act→Wq→Prop) (l:List Oper) (n:Nat) (T:Nat→Wq→Vq→Prop) (G:Wq→Prop) (E:Wq→Wq→Prop) (al:List Nat) (a0:Act):Nat→List Oper→Prop
 | _,[]=>True
 | k,o::r=>Xn P Q l n T G E al a0 k o∧yf P Q l n T G E al a0 (k+1) r
theorem oh {l:List Oper} {T:Nat→Wq→Vq→Prop} {k:Nat} {r:List Oper}
  (h:Xn P Q l n T G E al a0 k o) (hr:yf P Q l n T G E al a0 (k+1) r):yf P Q l n T G E al a0 k (o::r):=⟨h,hr⟩
theorem ai {l:List Oper} {T:Nat→Wq→Vq→Prop} {k:Nat}:yf P Q l n T G E al a0 k []:=trivial
theorem yf.get {l:List Oper} {T:Nat→Wq→Vq→Prop} :
  ∀ {r:List Oper} {k:Nat},yf P Q l n T G E al a0 k r → ∀ {i:Nat} {o:Oper},r[i]? = some o→Xn P Q l n T G E al a0 (k+i) o
 | [],_,_,i,o,h=>by simp at h
 | o'::r,k,hs,0,o,h=>by
  have:o'=o:=by simpa using h
  subst this;exact hs.1
 | o'::r,k,hs,i+1,o,h=>by
  have:=yf.get hs.2 (i:=i) (o:=o) (by simpa using h);rwa[show k+1+i=k+(i+1)by omega]at this

structure Ph (l:List Oper) (n:Nat) (T:Nat→Wq→Vq→Prop) (G:Wq→Prop) (al:List Nat) (a0:Act) (S:Nat→Prop) (a:Act) (w:Wq):Prop where
 defers:a.defers=a0.defers
 size:a.tmps.size=a0.tmps.size
 old : ∀ t,Gd l n t=true→a.tmps.getD t undef=a0.tmps.getD t undef
 new : ∀ k d,k<n→S k→ig l k=some d→T k w (a.tmps.getD d undef)
 none : ∀ k,k<n→S k→ig l k=none → ∃ v,T k w v
 good:G w
 ne : ∀ j k dj dk,j<n→k<n→S j→S k→j≠k→al.contains j=true→al.contains k=true→ig l j=some dj→ig l k=some dk→a.tmps.getD dj undef≠a.tmps.getD dk undef

theorem aou {l:List Oper} {k:Nat} {t:Tmp} (h:Gd l n t=true) (hk:k<n) (ho:l[k]? = some o):o.dst≠some t:=by
 have:o∈l.take n:=Kt (i:=k) (by rw[Qr hk];exact ho)
 have:=Hd.1 h o this
 simpa using this

theorem Sw {l:List Oper} (hback:aiu l n=true) : ∀ i o,i<n→l[i]? = some o → ∀ e∈o.after,Region.binds .any e=true→e.on<i:=by
 intro i o hi ho
 have h1:=Hd.1 hback i (abr.2 hi)
 rw[ho]at h1
 simp only[Array.all_eq_true_iff_forall_mem,agp,agq,Ey]at h1
 exact fun e he hb=>(h1 e he).resolve_left (by simp[hb])
theorem Sv {l:List Oper} {sz:Nat} (aal:ait l n sz=true) : ∀ i j d,i<n→j<n→ig l i=some d→ig l j=some d→d<sz∧j=i:=by
 intro i j d hi hj h1 h2
 have h3:=Hd.1 aal i (abr.2 hi)
 rw[h1]at h3
 simp only[Bz,Ey]at h3
 have h4:=Hd.1 h3.2 j (abr.2 hj)
 simp only[h2,agp,bne_self_eq_false,anb,false_or,Iw]at h4
 exact⟨h3.1,h4⟩
section
variable {l:List Oper} {n sz:Nat} {T:Nat→Wq→Vq→Prop} {G:Wq→Prop} {E:Wq→Wq→Prop} {al:List Nat} {a0:Act}
theorem Hm {d:Tmp} (h:ig (l.take n) j=some d):j<n∧ig l j=some d:=by
 have hjn:j<n:=by
  rcases Fa j n with g|g
  ·
   exact g
  ·
   unfold ig at h;rw[Ha (by simp;omega)]at h;cases h
 refine⟨hjn,?_⟩
 unfold ig at h ⊢;rwa[Qr hjn]at h
theorem Ph.finish (hsz:a0.tmps.size=sz) (hds : ∀ i j d,i<n→j<n→ig l i=some d→ig l j=some d→d<sz∧j=i)
  {S:Nat→Prop} (hall : ∀ k,k<n→S k) (inv:Ph l n T G al a0 S a w) : ∃ v:Nat→Vq,a=ay v 0 (l.take n) a0∧(∀ k,k<n→T k w (v k)) ∧ ∀ j k,al.contains j=true→al.contains k=true→j≠k→j<n→k<n→(ig l j).isSome=true→(ig l k).isSome=true→v j≠v k:=by
 have hv : ∀ k,∃ v,k<n→T k w v ∧ ∀ d,ig l k=some d→a.tmps.getD d undef=v:=by
  intro k
  by_cases hk:k<n
  ·
   cases hd:ig l k with
   | none =>
    obtain⟨v,hv⟩:=inv.none k hk (hall k hk) hd;exact⟨v,fun _=>⟨hv,fun d h=>by cases h⟩⟩
   | some d=>exact⟨a.tmps.getD d undef,fun _=>⟨inv.new k d hk (hall k hk) hd,fun d' h=>by rw[Az h]⟩⟩
  ·
   exact⟨undef,fun h=>absurd h hk⟩
 obtain⟨v,hv⟩:=Classical.axiomOfChoice hv
 refine⟨v,?_,fun k hk=>(hv k hk).1,fun j k hj hk hne hjn hkn h1 h2 => ?_⟩
 rotate_left
 ·
  obtain⟨dj,hdj⟩:=Option.isSome_iff_exists.1 h1;obtain⟨dk,hdk⟩:=Option.isSome_iff_exists.1 h2;have:=inv.ne j k dj dk hjn hkn (hall j hjn) (hall k hkn) hne hj hk hdj hdk;rwa[(hv j hjn).2 dj hdj,(hv k hkn).2 dk hdk]at this
 refine aiv (by rw[inv.defers,Qx]) (by rw[inv.size,Vx]) (fun t => ?_)
 by_cases ht : ∃ k,k<n∧ig l k=some t
 ·
  obtain⟨k,hk,hkt⟩:=ht;have hdt : ∀ j,ig (l.take n) j=some t→j=k:=fun j hj=>(hds k j t hk (Hm hj).1 hkt (Hm hj).2).2
  rw[Ya v t (l.take n) 0 k a0 (by unfold ig at hkt ⊢;rwa[Qr hk]) hdt (by rw[hsz];exact(hds k k t hk hk hkt hkt).1),Bn];exact((hv k) hk).2 t hkt
 ·
  have hf:Gd l n t=true:=Hd.2 (fun o ho=>by
   obtain⟨k,hk⟩:=arf ho;have hkn:k<n:=by
    rcases Fa k n with h|h
    ·
     exact h
    ·
     rw[Ha (by simp;omega)]at hk;cases hk
   rw[Qr hkn]at hk;simp only[aes];intro h;exact ht ⟨k,hkn,by unfold ig;rw[hk];exact h⟩)
  rw[inv.old t hf,Rz v t (l.take n) 0 a0 (fun j hj=>ht ⟨j,Hm hj⟩)]
theorem Ph.step {w2:Wq} {S:Nat→Prop} {v:Vq} (hsz:a0.tmps.size=sz) (hds : ∀ i j d,i<n→j<n→ig l i=some d→ig l j=some d→d<sz∧j=i)
  (hT : ∀ k w w' v,E w w'→T k w v→T k w' v) (inv:Ph l n T G al a0 S a w) (hin:i<n) (ho:l[i]? = some o) (Zg : ¬ S i) (hG:G w2) (hE:E w w2) (Ru:T i w2 v) (hne:al.contains i=true → ∀ j u,al.contains j=true→T j w u→u≠v) :
  Ph l n T G al a0 (fun k=>k=i∨S k) (a.put o.dst v) w2:=by
 have hdi:ig l i=o.dst:=by unfold ig;rw[ho];rfl
 refine⟨by rw[Zu];exact inv.defers,by rw[Yb];exact inv.size,fun t ht => ?_,fun k d hk hl hd => ?_,fun k hk hl hd => ?_,hG,fun j k dj dk hj hk sj sk hjk aj ak hdj hdk => ?_⟩
 ·
  rw[Ji _ _ _ _ (aou ht hin ho)];exact inv.old t ht
 ·
  by_cases hki:k=i
  ·
   subst hki;rw[hdi]at hd;rw[hd,Vy _ _ _ (by rw[inv.size,hsz];exact(hds k k d hk hk (by rw[hdi];exact hd) (by rw[hdi];exact hd)).1)];exact Ru
  ·
   rw[Ji _ _ _ _ (fun h=>hki ((hds i k d hin hk (by rw[hdi];exact h) hd).2))];exact hT k w w2 _ hE (inv.new k d hk (hl.resolve_left hki) hd)
 ·
  by_cases hki:k=i
  ·
   subst hki;exact⟨v,Ru⟩
  ·
   obtain⟨u,hu⟩:=inv.none k hk (hl.resolve_left hki) hd;exact⟨u,hT k w w2 _ hE hu⟩
 ·
  have other : ∀ k d,k<n→k≠i→ig l k=some d→(a.put o.dst v).tmps.getD d undef=a.tmps.getD d undef:=fun k d hk hki hd =>
   Ji _ _ _ _ (fun h=>hki ((hds i k d hin hk (by rw[hdi];exact h) hd).2))
  have same : ∀ d,ig l i=some d→(a.put o.dst v).tmps.getD d undef=v:=fun d hd=>by
   have hd2:=hd;rw[hdi]at hd;rw[hd,Vy _ _ _ (by rw[inv.size,hsz];exact(hds i i d hin hin hd2 hd2).1)]
  by_cases hji:j=i
  ·
   subst hji;have hki:k≠j:=fun e=>hjk e.symm
   rw[same dj hdj,other k dk hk hki hdk];exact(hne aj k _ ak (inv.new k dk hk (sk.resolve_left hki) hdk)).symm
  ·
   by_cases hki:k=i
   ·
    subst hki;rw[same dk hdk,other j dj hj hji hdj];exact hne ak j _ aj (inv.new j dj hj (sj.resolve_left hji) hdj)
   ·
    rw[other j dj hj hji hdj,other k dk hk hki hdk];exact inv.ne j k dj dk hj hk (sj.resolve_left hji) (sk.resolve_left hki) hjk aj ak hdj hdk
theorem Ph.mono {S S':Nat→Prop} (inv:Ph l n T G al a0 S a w) (h : ∀ k,k<n→S' k→S k):Ph l n T G al a0 S' a w :=
 ⟨inv.defers,inv.size,inv.old,fun k d hk hs hd=>inv.new k d hk (h k hk hs) hd,fun k hk hs hd=>inv.none k hk (h k hk hs) hd,inv.good,fun j k dj dk hj hk sj sk=>inv.ne j k dj dk hj hk (h j hj sj) (h k hk sk)⟩
theorem Ph.start {S:Nat→Prop} (h : ∀ k,k<n → ¬ S k) (hG:G w):Ph l n T G al a S a w :=
 ⟨rfl,rfl,fun _ _=>rfl,fun k d hk hs _=>absurd hs (h k hk),fun k hk hs _=>absurd hs (h k hk),hG,fun j _ _ _ hj _ sj=>absurd sj (h j hj)⟩
end

theorem ami {l:List Oper} (n sz:Nat) (T:Nat→Wq→Vq→Prop) (G:Wq→Prop) (E:Wq→Wq→Prop) (al:List Nat)
  (hm:P.follows .mixedOrders=true) (hB:adb l n sz=true) (hsz:a.tmps.size=sz)
  (hT : ∀ k w w' v,E w w'→T k w v→T k w' v) (hG:G w.drew)
  (hS:yf P Q l n T G E al a 0 (l.take n))
  (hend : ∀ (v:Nat→Vq) (w':Wq),G w'→(∀ k,k<n→T k w' (v k))→(∀ j k,al.contains j=true→al.contains k=true→j≠k→j<n→k<n→(ig l j).isSome=true→(ig l k).isSome=true→v j≠v k)→wpList P l.toArray Q (l.drop n) (ay v 0 (l.take n) a) w') :
  (Code.region id l.toArray true).wp P Q a w:=by
 simp only[adb,Bz,agp,Ey]at hB
 obtain⟨⟨⟨⟨hn,aul⟩,hback⟩,aal⟩,hseq⟩:=hB
 have hget : ∀ k,k<n → ∃ o,l[k]? = some o:=fun k hk=>⟨l[k]'(by omega),Cj (by omega)⟩
 have hbk:=Sw hback
 have hds:=Sv aal
 refine wp_region_any hm ?_
 have key : ∀ (f:Nat) (L:Array Bool) (a':Act) (w':Wq),HeadInv .any l.toArray n L→Ph l n T G al a (fun k=>L.getD k false=true) a' w'→Gf L n=f→wpAny P .any l.toArray Q (f+(l.length-n)) L a' w':=by
  intro f
  induction f with
  | zero =>
   intro L a' w' head inv hc;have hall:=Sa hc;have hL:L=Fh n (l.length-n):=by
    have hs:=head.size;refine Array.ext (by simp[Fh,hs];omega) (fun i h1 h2 => ?_)
    by_cases hi:i<n
    ·
     have g:=hall i hi;simp[h1]at g;simp[Fh,hi,g]
    ·
     have g:=head.tail i (by omega) (by rw[← hs];exact h1);simp[h1]at g;simp[Fh,buq,hi,g]
   obtain⟨v,he,hv,Qd⟩:=inv.finish hsz hds (fun k hk=>by rw[hL];simp[Fh,bkr,hk]);rw[he,Bn];have hlen:(l.drop n).length=l.length-n:=by simp
   rw[← hlen];exact wpAny_of_seq (md := .any) (ops:=l.toArray) (Q':=Q) (l.drop n) n L _ w' (fun j=>by simp[Sd]) (by rw[hlen,hL];exact hseq)
    (hend v w' inv.good hv Qd)
  | succ f ih =>
   intro L a' w' head inv hc;obtain⟨i0,hi0,alf,hle0⟩:=aay (L:=L) (m:=n) (by omega);have hLs:L.size=l.length:=by rw[head.size];simp
   rw[show f+1+(l.length-n)=(f+(l.length-n))+1 by omega];refine⟨fun hr => ?_,fun i hi => ?_⟩
   ·
    exfalso;obtain⟨o,ho⟩:=hget i0 hi0;have:i0∈Region.ready .any l.toArray L:=mem_ready.2 ⟨alf,o,by simpa using ho,fun e he hb=>by
     have hlt:=hbk i0 o hi0 ho e he hb;have h1:=hle0 e.on hlt;simp[show e.on<L.size by rw[hLs];omega]at h1;simp[show e.on<L.size by rw[hLs];omega,h1]⟩
    rw[hr]at this;cases this
   ·
    obtain⟨hun,o,ho,auj⟩:=mem_ready.1 hi;have ho':l[i]? = some o:=by simpa using ho
    have hil:i<l.length:=by
     have:=(bur.1 ho).1
     simpa using this
    have hin:i<n:=by
     rcases Fa i n with h|h
     ·
      exact h
     ·
      exfalso
      rcases aul with he|⟨hs,hch⟩
      ·
       omega
      ·
       exact tail_waits hs hch (by simp only[bbp];omega) head _ i0 rfl hi0 alf i h hi
    have hst:=hS.get (i:=i) (o:=o) (by rw[Qr hin];exact ho');rw[Bn]at hst;have hw:=hst a' w' inv.good inv.old (fun j d hjd=>by
     simp only[si,Bz,Iw]at hjd;obtain⟨oj,hoj,e,he,hb,hon⟩:=aet hjd.1;have:oj=o:=Az (hoj.symm.trans ho);subst this;have hlj:=auj e he hb;rw[hon]at hlj;have hjn:j<n:=by have:=hbk i oj hin ho' e he hb;omega
     exact inv.new j d hjn hlj hjd.2)
    have go : ∀ v w2,G w2→E w' w2→T i w2 v→(al.contains i=true → ∀ j u,al.contains j=true→T j w' u→u≠v)→wpAny P .any l.toArray Q (f+(l.length-n)) (L.setIfInBounds i true) (a'.put o.dst v) w2:=by
     intro v w2 hg2 hE Ru hne;refine ih (L.setIfInBounds i true) _ w2 (head.set hi hin) ((inv.step hsz hds hT hin ho' (fun h=>by rw[getD_both hun]at h;cases h) hg2 hE Ru hne).mono (fun k hk hl => ?_)) (by have:=aaw hun (m:=n) hin;omega)
     by_cases hki:k=i
     ·
      exact .inl hki
     ·
      rw[getD_set_ne false (Kq hki)]at hl;exact .inr hl
    unfold wpOp;simp only[ho]
    split
    ·
     rename_i hwd;rw[if_pos hwd]at hw;refine .inl (Ux (fun a2 w2 hK => ?_) hw)
     obtain⟨v,rfl,hg2,hE,Ru,hne⟩:=hK;exact go v w2 hg2 hE Ru hne
    ·
     rename_i hwd;rw[if_neg hwd]at hw;exact go undef w' inv.good hw.1 hw.2.1 hw.2.2
 have h0:=key n (Array.replicate l.length false) a w.drew
  ⟨by simp,fun j oj _ hl=>(by rw[getD_replicate_false]at hl;cases hl),fun t _ ht=>getD_in (by simpa using ht) (getD_replicate_false _ _)⟩
  (Ph.start (fun k _ h=>by rw[getD_replicate_false]at h;cases h) hG) (aax _ hn)
 rw[show n+(l.length-n)=l.length by omega]at h0
 have hsz2:l.toArray.size=l.length:=by simp
 rw[hsz2]
 exact h0

theorem yc {l:List Oper} (n sz:Nat) (T:Nat→Wq→Vq→Prop) (G:Wq→Prop) (E:Wq→Wq→Prop) (al:List Nat)
  (hB:(decide (n≤l.length)&&aiu l n&&ait l n sz)=true) (hsz:a.tmps.size=sz)
  (hT : ∀ k w w' v,E w w'→T k w v→T k w' v) (hG:G w)
  (hS:yf P Q l n T G E al a 0 (l.take n))
  (hend : ∀ (v:Nat→Vq) (w':Wq),G w'→(∀ k,k<n→T k w' (v k))→(∀ j k,al.contains j=true→al.contains k=true→j≠k→j<n→k<n→(ig l j).isSome=true→(ig l k).isSome=true→v j≠v k)→wpList P l.toArray Q (l.drop n) (ay v 0 (l.take n) a) w') :
  (Code.region id l.toArray false).wp P Q a w:=by
 simp only[Bz,Ey]at hB
 obtain⟨⟨hn,hback⟩,aal⟩:=hB
 have hbk:=Sw hback
 have hds:=Sv aal
 refine wp_region_lit ?_
 have key : ∀ (f i:Nat) (a':Act) (w':Wq),n-i=f→i≤n→Ph l n T G al a (fun k=>k<i) a' w'→wpList P l.toArray Q (l.drop i) a' w':=by
  intro f
  induction f with
  | zero =>
   intro i a' w' hf hi inv;obtain rfl:i=n:=by omega
   obtain⟨v,he,hv,Qd⟩:=inv.finish hsz hds (fun k hk=>hk);rw[he];exact hend v w' inv.good hv Qd
  | succ f ih =>
   intro i a' w' hf hi inv;have hin:i<n:=by omega
   have hil:i<l.length:=by omega
   rw[Si hil];have ho:l[i]? = some l[i]:=Cj hil;generalize l[i]=o at *;have hst:=hS.get (i:=i) (o:=o) (by rw[Qr hin];exact ho);rw[Bn]at hst;have hw:=hst a' w' inv.good inv.old (fun j d hjd=>by
    simp only[si,Bz,Iw]at hjd;obtain⟨oj,hoj,e,he,hb,hon⟩:=aet hjd.1;have:oj=o:=Az (hoj.symm.trans (by simpa using ho));subst this;have hji:=hbk i oj hin ho e he hb;rw[hon]at hji;exact inv.new j d (by omega) hji hjd.2)
   have go : ∀ v w2,G w2→E w' w2→T i w2 v→(al.contains i=true → ∀ j u,al.contains j=true→T j w' u→u≠v)→wpList P l.toArray Q (l.drop (i+1)) (a'.put o.dst v) w2:=fun v w2 hg2 hE Ru hne =>
    ih (i+1) _ w2 (by omega) (by omega) ((inv.step hsz hds hT hin ho (by omega) hg2 hE Ru hne).mono (fun k hk hl=>by omega))
   unfold wpList
   split
   ·
    rename_i hwd;rw[if_pos hwd]at hw;refine .inl (Ux (fun a2 w2 hK => ?_) hw)
    obtain⟨v,rfl,hg2,hE,Ru,hne⟩:=hK;exact go v w2 hg2 hE Ru hne
   ·
    rename_i hwd;rw[if_neg hwd]at hw;exact go undef w' inv.good hw.1 hw.2.1 hw.2.2
 exact key n 0 a w (by omega) (by omega) (Ph.start (fun k _ h=>by omega) hG)

section
variable {P:Program} {Q:Exit→Act→Wq→Prop} {l:List Oper} {n:Nat} {T:Nat→Wq→Vq→Prop} {G:Wq→Prop} {E:Wq→Wq→Prop} {al:List Nat} {a0:Act} {k:Nat} {o:Oper}
theorem Ef (hg:o.guard=none) (h:ib P Q l n T G E al a0 k o):Xn P Q l n T G E al a0 k o:=fun a w hG hO hN=>by
 rw[if_pos (by simp[Region.wanted,hg])]
 exact h a w hG hO hN
def ax (c:Vq):Wq→Vq→Prop:=fun _ v=>v=c
theorem aje {d:Tmp} {b:Bool} (hd:ig l j=some d) (hv:a.tmps.getD d undef = .bool b):yielded l.toArray a.tmps j=some b:=by
 have h1:(l.toArray[j]?).bind (·.dst)=some d:=by simpa [ig]using hd
 have h2:a.tmps[d]? = some (.bool b):=by
  cases h:a.tmps[d]? with
  | none=>simp[h,undef]at hv
  | some v=>simp[h]at hv;rw[hv]
 unfold yielded
 rw[h1]
 simp[h2]
theorem Ic {d:Tmp} (h:si l k j d=true):ig l j=some d:=by
 simp only[si,Bz,Iw]at h;exact h.2
theorem Cr {d:Tmp} {b:Bool} (hg:o.guard=some (g,b)) (hw:si l k g d=true) (hT:T g=ax (.bool b)) (h:ib P Q l n T G E al a0 k o):Xn P Q l n T G E al a0 k o:=fun a w hG hO hN=>by
 have hv:=hN g d hw
 rw[hT]at hv
 rw[if_pos (by simp[Region.wanted,hg,aje (Ic hw) hv])]
 exact h a w hG hO hN
theorem bhz {d:Tmp} {b c:Bool} (hg:o.guard=some (g,c)) (hw:si l k g d=true) (hT:T g=ax (.bool b)) (hbc:(b==c)=false) (hE : ∀ w,E w w) (hk:al.contains k=false) (hu:T k=ax undef):Xn P Q l n T G E al a0 k o:=fun a w hG hO hN=>by
 have hv:=hN g d hw
 rw[hT]at hv
 rw[if_neg (by
  simp only[Region.wanted,hg,aje (Ic hw) hv];intro h;have:(b==c)=true:=by simpa using h
  rw[this]at hbc;cases hbc)]
 exact⟨hE w,by rw[hu];rfl,fun h=>by rw[hk]at h;cases h⟩
end
def cu (l:List Oper) (n:Nat) (T:Nat→Wq→Vq→Prop) (a0:Act) (k:Nat) (x:Operand) (A:Wq→Vq→Prop):Prop :=
 ∀ (a:Act) (w:Wq),(∀ t,Gd l n t=true→a.tmps.getD t undef=a0.tmps.getD t undef)→(∀ j d,si l k j d=true→T j w (a.tmps.getD d undef))→A w (a.eval x)
section
variable {l:List Oper} {n:Nat} {T:Nat→Wq→Vq→Prop} {a0:Act} {k:Nat}
theorem cfy {t:Tmp} (j:Nat) (h:si l k j t=true):cu l n T a0 k (.tmp t) (T j):=fun _ _ _ h2=>h2 j t h
theorem fe (c:Vq):cu l n T a0 k (.const c) (ax c):=fun _ _ _ _=>rfl
theorem cga {t:Tmp} {c:Vq} (h:Gd l n t=true) (hc:a0.tmps.getD t undef=c):cu l n T a0 k (.tmp t) (ax c):=fun _ _ h1 _=>(h1 t h).trans hc
end
def ui (ts:List (Wq→Vq→Prop)) (k:Nat):Wq→Vq→Prop:=ts.getD k (fun _ _=>True)
def yu (E:Wq→Wq→Prop) (t:Wq→Vq→Prop):Prop := ∀ w w' v,E w w'→t w v→t w' v
def qm (E:Wq→Wq→Prop):List (Wq→Vq→Prop)→Prop
 | []=>True
 | t::r=>yu E t∧qm E r
theorem qm.pick : ∀ {ts:List (Wq→Vq→Prop)},qm E ts → ∀ k w w' v,E w w'→ui ts k w v→ui ts k w' v
 | [],_,_,_,_,_,_,_=>trivial
 | t::_,h,0,w,w',v,he,ht=>h.1 w w' v he ht
 | _::ts,h,k+1,w,w',v,he,ht=>qm.pick (ts:=ts) h.2 k w w' v he ht
theorem fo (c:Vq):yu E (ax c):=fun _ _ _ _ h=>h

def ik (l:List Nat) (i:Nat):Nat:=l.getD i 0
theorem pg (l:List Nat) (i:Nat):ik l i=l.getD i 0:=rfl

def bf (B:Nat):List Nat→Nat
 | []=>0
 | x::l=>x+B*bf B l

theorem Og (B:Nat) (l m:List Nat):bf B (l++m)=bf B l+B^l.length*bf B m:=by
 induction l with
 | nil=>simp[bf]
 | cons x l ih=>simp only[Ut,bf,ih,Db,Be,uo];simp[uk,og,Yh]

theorem azw (B x:Nat):bf B [x]=x:=by simp[bf]
theorem Cb (B:Nat) (l:List Nat) (x:Nat):bf B (l++[x])=bf B l+B^l.length*x:=by rw[Og,azw]

theorem afw (B n:Nat):bf B (List.replicate n 0)=0:=by
 induction n with
 | zero=>rfl
 | succ n ih=>simp[List.replicate_succ,bf,ih]

theorem Bi (l:List Nat) (h : ∀ x∈l,x<B):bf B l<B^l.length:=by
 induction l with
 | nil=>simp[bf]
 | cons x l ih =>
  have hx:=h x (by simp);have hl:=ih (fun y hy=>h y (by simp[hy]));have h1:B*(bf B l+1)≤B*B^l.length:=Bo _ hl;simp only[bf,Db,Be];rw[og (B^l.length) B];rw[uo,Ns]at h1;omega

theorem amb (l:List Nat) (k:Nat) (h:k<l.length):l.take (k+1)=l.take k++[l.getD k 0]:=by
 rw[bos h];simp[List.getD,h]

theorem rz (B:Nat) (l:List Nat) (k:Nat) (h:k<l.length):bf B (l.take (k+1))=bf B (l.take k)+B^k*l.getD k 0:=by
 rw[amb l k h,Cb,uy,Ce (by omega)]

theorem jk (B:Nat) (l:List Nat) (k:Nat) (h:l.length≤k):bf B (l.take k)=bf B l:=by rw[Fb h]

theorem nz (B:Nat) (l:List Nat) (k:Nat):bf B (l.take (k+1))=bf B (l.take k)+B^k*l.getD k 0:=by
 by_cases h:k<l.length
 ·
  exact rz B l k h
 ·
  rw[jk _ _ _ (by omega),jk _ _ _ (by omega)];simp[List.getD,Ha (by omega:l.length≤k)]

theorem jy (hB:0<B) (l:List Nat) (h : ∀ x∈l,x<B) (i:Nat):l.getD i 0<B:=by
 by_cases hi:i<l.length
 ·
  simp only[List.getD,Cj hi,Option.getD_some];exact h _ (baa hi)
 ·
  simp[List.getD,Ha (by omega:l.length≤i),hB]

def Ur (l:List Nat):Prop:=l=[]∨l.getD (l.length-1) 0≠0

theorem Vu (B:Nat) (l:List Nat) (k:Nat):bf B l=bf B (l.take k)+B^(min k l.length)*bf B (l.drop k):=by
 conv=>lhs;rw[← Lu k l]
 rw[Og,uy]

theorem aar (l:List Nat) (hn:Ur l) (h0:l≠[]):B^(l.length-1)≤bf B l:=by
 rcases hn with hn|hn
 ·
  exact absurd hn h0
 ·
  have hl:0<l.length:=bbq.2 h0;have h1:l.length=(l.length-1)+1:=by omega
  have h2:=rz B l (l.length-1) (by omega);rw[← h1,jk _ _ _ (gu _)]at h2;rw[h2];have h3:B^(l.length-1)*1≤B^(l.length-1)*l.getD (l.length-1) 0:=Bo _ (by omega);omega

theorem avd (hB:0<B) (l:List Nat) (hn:Ur l) (h0:l≠[]):0<bf B l :=
 zh (wz hB) (aar l hn h0)

theorem Bh (hB:1<B) (l m:List Nat) (hl : ∀ x∈l,x<B) (hm:Ur m) (h:l.length<m.length):bf B l<bf B m:=by
 have h1:=Bi l hl
 have h2:=aar (B:=B) m hm (by rintro rfl;simp at h)
 have h3:B^l.length≤B^(m.length-1):=Ho (by omega) (by omega)
 omega

theorem Ls (l m:List Nat) (hl : ∀ x∈l,x<B) (hlen:l.length=m.length) (i:Nat) (hi:i<l.length)
  (hsame : ∀ j,i<j→j<l.length→l.getD j 0=m.getD j 0) (h:l.getD i 0<m.getD i 0):bf B l<bf B m:=by
 have key : ∀ n,i+1+n≤l.length→bf B (l.take (i+1+n))<bf B (m.take (i+1+n)):=by
  intro n
  induction n with
  | zero =>
   intro _;rw[Hr,rz B l i (by omega),rz B m i (by omega)];have h1:=Bi (B:=B) (l.take i) (fun x hx=>hl x (Dn hx));rw[uy,Ce (by omega)]at h1;have h2:B^i*(l.getD i 0+1)≤B^i*m.getD i 0:=Bo _ h;rw[uo,Ns]at h2;omega
  | succ n ih =>
   intro hn;have:=ih (by omega);rw[show i+1+(n+1)=(i+1+n)+1 from rfl,rz B l _ (by omega),rz B m _ (by omega),hsame (i+1+n) (by omega) (by omega)];omega
 have:=key (l.length-(i+1)) (by omega)
 rw[show i+1+(l.length-(i+1))=l.length from by omega,jk _ _ _ (gu _),jk _ _ _ (by omega)]at this
 exact this

theorem Tv (l m:List Nat) (hlen:l.length=m.length) (h : ∀ j,j<l.length→l.getD j 0=m.getD j 0):l=m:=by
 apply bkp hlen
 intro j h1 h2
 have:=h j h1
 simpa [List.getD,Cj h1,Cj h2]using this

def Ib (l m:List Nat):Prop := ∃ k,k≤l.length∧m=l.take k∧(∀ i,k≤i→i<l.length→l.getD i 0=0)∧(k=0∨l.getD (k-1) 0≠0)

theorem Vt (B:Nat) (l:List Nat) (k:Nat) (hk:k≤l.length) (h : ∀ i,k≤i→i<l.length→l.getD i 0=0):bf B (l.take k)=bf B l:=by
 have key : ∀ n,k+n≤l.length→bf B (l.take (k+n))=bf B (l.take k):=by
  intro n
  induction n with
  | zero=>intro _;rfl
  | succ n ih=>intro hn;rw[show k+(n+1)=(k+n)+1 from rfl,rz B l _ (by omega),h (k+n) (by omega) (by omega),ih (by omega)];simp
 have:=key (l.length-k) (by omega)
 rw[show k+(l.length-k)=l.length from by omega,jk _ _ _ (gu _)]at this
 exact this.symm

theorem acz (l:List Nat) (k i:Nat) (h:i<k):(l.take k).getD i 0=l.getD i 0:=by
 simp[List.getD,h]

theorem Ib.val (h:Ib l m) (B:Nat):bf B m=bf B l:=by
 obtain⟨k,hk,rfl,hz,_⟩:=h
 exact Vt B l k hk hz

theorem Ib.norm (h:Ib l m):Ur m:=by
 obtain⟨k,hk,rfl,_,h0⟩:=h
 rcases h0 with h0|h0
 ·
  left;simp[h0]
 ·
  by_cases hk0:k=0
  ·
   left;simp[hk0]
  ·
   right
   rw[uy,Ce hk,acz _ _ _ (by omega)];exact h0

theorem Ib.len (h:Ib l m):m.length≤l.length:=by
 obtain⟨k,hk,rfl,_,_⟩:=h
 simp;omega

theorem ael (hB:1<B) (l:List Nat) (hn:Ur l) (k:Nat) (h:bf B l<B^k):l.length≤k:=by
 by_cases h0:l=[]
 ·
  simp[h0]
 ·
  have h1:=aar (B:=B) l hn h0
  apply aag
  intro hk;have:B^k≤B^(l.length-1):=Ho (by omega) (by omega);omega



theorem Bb (l:List Nat) (i v:Nat) (h:i<l.length):(l.set i v).take (i+1)=l.take i++[v]:=by
 rw[amb _ i (by simpa using h),List.take_set_of_le (gu i)]
 simp[List.getD,h]

theorem Gx (l:List Nat) (i j v:Nat) (h:i≠j):(l.set i v).getD j 0=l.getD j 0:=by
 simp[List.getD,h]

theorem Tt (l:List Nat) (i v:Nat) (h:i<l.length):(l.set i v).getD i 0=v:=by
 simp[List.getD,h]

theorem Bl (l:List Nat) (i v:Nat) (h : ∀ x∈l,x<B) (hv:v<B) : ∀ x∈l.set i v,x<B:=by
 intro x hx
 rcases List.mem_or_eq_of_mem_set hx with h1|h1
 ·
  exact h x h1
 ·
  omega

theorem aod (l m:List Nat) (k d:Nat) (hsame : ∀ j,k≤j→l.getD j 0=m.getD j 0) (n:Nat) (h:bf B (l.take k)=bf B (m.take k)+d) :
  bf B (l.take (k+n))=bf B (m.take (k+n))+d:=by
 induction n with
 | zero=>exact h
 | succ n ih=>rw[← Yh,nz,nz,hsame (k+n) (by omega),ih];omega

structure Da (B:Nat) (zl yl zc:List Nat) (i c:Nat):Prop where
 len:zc.length=zl.length
 same : ∀ j,i≤j→zc.getD j 0=zl.getD j 0
 lt : ∀ x∈zc,x<B
 eq:bf B (zc.take i)+B^i*c=bf B (zl.take i)+bf B (yl.take i)
 c1:c≤1

theorem Da.start (zl yl:List Nat) (h : ∀ x∈zl,x<B):Da B zl yl zl 0 0:=⟨rfl,fun _ _=>rfl,h,by simp[bf],by omega⟩

theorem Da.step (hB:1<B) (hy : ∀ x∈yl,x<B) (h:Da B zl yl zc i c) (hi:i<zl.length) :
  Da B zl yl (zc.set i ((zc.getD i 0+yl.getD i 0+c)%B)) (i+1) ((zc.getD i 0+yl.getD i 0+c)/B):=by
 have hlen:=h.len
 have hz:=jy (by omega) zc h.lt i
 have hyi:=jy (by omega) yl hy i
 have hc:=h.c1
 refine⟨by simp[hlen],fun j hj => ?_,Bl _ _ _ h.lt (Bf _ (by omega)),?_,?_⟩
 ·
  rw[Gx _ _ _ _ (by omega),h.same j (by omega)]
 ·
  rw[Bb _ _ _ (by omega),Cb,nz,nz];rw[uy,Ce (by omega)];have e:=h.eq;have hs:=h.same i (gu _);have Jb:=Fv (zc.getD i 0+yl.getD i 0+c) B;generalize (zc.getD i 0+yl.getD i 0+c)/B=q at *;generalize (zc.getD i 0+yl.getD i 0+c)%B=r at *;have e2:B^i*(B*q+r)=B^i*(zc.getD i 0+yl.getD i 0+c):=by rw[Jb]
  rw[← hs,Be];simp only[uo,uk]at e2 ⊢;omega
 ·
  have:(zc.getD i 0+yl.getD i 0+c)/B<2:=by
   rw[Fu (by omega)];omega
  omega

theorem Da.done (h:Da B zl yl zc zl.length c) (hy:yl.length≤zl.length) :
  bf B zc+B^zl.length*c=bf B zl+bf B yl:=by
 have e:=h.eq
 have hl:=h.len
 rwa[jk _ _ _ (by omega),jk _ _ _ (gu _),jk _ _ _ hy]at e

theorem Da.stop (h:Da B zl yl zc i 0) (hy:yl.length≤i):bf B zc=bf B zl+bf B yl:=by
 have e:=h.eq
 have hl:=h.len
 rw[Nr,Hr,jk _ yl _ hy]at e
 have:=aod zc zl i (bf B yl) h.same zl.length e
 rwa[jk _ _ _ (by omega),jk _ _ _ (by omega)]at this

structure Gl (B:Nat) (xl yl zc:List Nat) (i b:Nat):Prop where
 len:zc.length=xl.length
 lt : ∀ x∈zc,x<B
 eq:bf B (zc.take i)+bf B (yl.take i)=bf B (xl.take i)+B^i*b
 b1:b≤1

theorem Gl.start (xl yl zl:List Nat) (hl:zl.length=xl.length) (h : ∀ x∈zl,x<B):Gl B xl yl zl 0 0:=⟨hl,h,by simp[bf],by omega⟩

theorem Gl.step {b':Nat} (h:Gl B xl yl zc i b) (hi:i<xl.length) (hd:d<B) (hb:b'≤1)
  (e:d+yl.getD i 0+b=xl.getD i 0+B*b'):Gl B xl yl (zc.set i d) (i+1) b':=by
 have hlen:=h.len
 refine⟨by simp[hlen],Bl _ _ _ h.lt hd,?_,hb⟩
 rw[Bb _ _ _ (by omega),Cb,nz,nz,uy,Ce (by omega),Be]
 have h0:=h.eq
 have e2:B^i*(d+yl.getD i 0+b)=B^i*(xl.getD i 0+B*b'):=by rw[e]
 simp only[uo,uk]at e2 ⊢
 omega

theorem Gl.done (h:Gl B xl yl zc xl.length b) (hy:yl.length≤xl.length) :
  bf B zc+bf B yl=bf B xl+B^xl.length*b:=by
 have e:=h.eq
 have hl:=h.len
 rwa[jk _ _ _ (by omega),jk _ yl _ hy,jk _ _ _ (gu _)]at e

theorem Gl.ces (h:Gl B xl yl zc xl.length b) (hy:yl.length≤xl.length) (hle:bf B yl≤bf B xl) :
  bf B zc=bf B xl-bf B yl:=by
 have e:=h.done hy
 have hz:=Bi zc h.lt
 rw[h.len]at hz
 have hb:=h.b1
 rcases Nat.eq_or_lt_of_le hb with h1|h1
 ·
  subst h1;omega
 ·
  have:b=0:=by omega
  subst this;omega

structure Gm (B:Nat) (zr yl zc:List Nat) (i k j c:Nat):Prop where
 len:zc.length=zr.length
 same : ∀ t,i+j≤t→zc.getD t 0=zr.getD t 0
 lt : ∀ x∈zc,x<B
 eq:bf B (zc.take (i+j))+B^(i+j)*c=bf B (zr.take (i+j))+B^i*(k*bf B (yl.take j))
 c1:c<B

theorem Gm.start (zr yl:List Nat) (i k:Nat) (hB:0<B) (h : ∀ x∈zr,x<B):Gm B zr yl zr i k 0 0:=⟨rfl,fun _ _=>rfl,h,by simp[bf],hB⟩

theorem Qg {k:Nat} (hk:k<B) (hy:y<B) (hc:c<B) (hz:z<B):k*y+c+z<B*B:=by
 have h1:k*y≤(B-1)*(B-1):=abn (by omega) (by omega)
 have h2:(B-1)*(B-1)+(B-1)+(B-1)+1=B*B:=by
  obtain⟨b,rfl⟩ : ∃ b,B=b+1:=⟨B-1,by omega⟩
  simp[uo,xm];omega
 omega

theorem Gm.step {k:Nat} (hB:1<B) (hk:k<B) (hy : ∀ x∈yl,x<B) (h:Gm B zr yl zc i k j c) (hi:i+j<zr.length) :
  Gm B zr yl (zc.set (i+j) ((k*yl.getD j 0+c+zc.getD (i+j) 0)%B)) i k (j+1) ((k*yl.getD j 0+c+zc.getD (i+j) 0)/B):=by
 have hlen:=h.len
 have hz:=jy (by omega) zc h.lt (i+j)
 have hyj:=jy (by omega) yl hy j
 refine⟨by simp[hlen],fun t ht => ?_,Bl _ _ _ h.lt (Bf _ (by omega)),?_,?_⟩
 ·
  rw[Gx _ _ _ _ (by omega),h.same t (by omega)]
 ·
  rw[← Yh,Bb _ _ _ (by omega),Cb,nz,nz,uy,Ce (by omega)];have e:=h.eq;have hs:=h.same (i+j) (gu _);have Jb:=Fv (k*yl.getD j 0+c+zc.getD (i+j) 0) B;generalize (k*yl.getD j 0+c+zc.getD (i+j) 0)/B=q at *;generalize (k*yl.getD j 0+c+zc.getD (i+j) 0)%B=r at *;have e2:B^(i+j)*(B*q+r)=B^(i+j)*(k*yl.getD j 0+c+zc.getD (i+j) 0):=by rw[Jb]
  rw[← hs,Be];have e3:B^i*(k*(bf B (yl.take j)+B^j*yl.getD j 0))=B^i*(k*bf B (yl.take j))+B^(i+j)*(k*yl.getD j 0):=by
   rw[Hq,uo,uo]
   congr 1
   simp only[Nt,uk]
  rw[e3];simp only[uo,uk]at e2 ⊢;omega
 ·
  rw[Fu (by omega)];exact Qg hk hyj h.c1 hz

structure Ia (B:Nat) (xl yl zc:List Nat) (i:Nat):Prop where
 len:zc.length=xl.length+yl.length
 zero : ∀ t,i+yl.length≤t→zc.getD t 0=0
 lt : ∀ x∈zc,x<B
 eq:bf B (zc.take (i+yl.length))=bf B (xl.take i)*bf B yl

theorem Zx (B:Nat) (l:List Nat) (k:Nat) (h : ∀ t,t<k→l.getD t 0=0):bf B (l.take k)=0:=by
 induction k with
 | zero=>rfl
 | succ k ih=>rw[nz,h k (by omega),ih (fun t ht=>h t (by omega))];simp

theorem Ia.start (xl yl zl:List Nat) (hB:0<B) (hl:zl.length=xl.length+yl.length) (h : ∀ t,zl.getD t 0=0):Ia B xl yl zl 0:=by
 refine⟨hl,fun t _=>h t,fun x hx => ?_,?_⟩
 ·
  obtain⟨i,hi,rfl⟩:=List.getElem_of_mem hx;have:=h i;simp[List.getD,Cj hi]at this;omega
 ·
  rw[Zx B zl _ (fun t _=>h t)];simp[bf]

theorem Ia.step (h:Ia B xl yl zr i) (hi:i<xl.length) (h2:Gm B zr yl zc i (xl.getD i 0) yl.length c) :
  Ia B xl yl (zc.set (i+yl.length) c) (i+1):=by
 have hl:=h.len
 have hl2:=h2.len
 refine⟨by simp[hl2,hl],fun t ht => ?_,Bl _ _ _ h2.lt h2.c1,?_⟩
 ·
  rw[Gx _ _ _ _ (by omega),h2.same t (by omega),h.zero t (by omega)]
 ·
  rw[show i+1+yl.length=(i+yl.length)+1 from by omega,Bb _ _ _ (by omega),Cb,uy,Ce (by omega),h2.eq,h.eq,jk _ yl _ (gu _),nz,xm];simp[uk]

theorem Ia.done (h:Ia B xl yl zc xl.length):bf B zc=bf B xl*bf B yl:=by
 have e:=h.eq
 have hl:=h.len
 rwa[jk _ _ _ (by omega),jk _ _ _ (gu _)]at e

theorem Rx (B:Nat) (l:List Nat) (i:Nat):bf B (l.drop i)=l.getD i 0+B*bf B (l.drop (i+1)):=by
 by_cases h:i<l.length
 ·
  rw[Si h];simp[bf,List.getD,h]
 ·
  rw[Sg (by omega),Sg (by omega)];simp[bf,List.getD,Ha (by omega:l.length≤i)]

structure Dx (B:Nat) (xl qc:List Nat) (y i r:Nat):Prop where
 len:qc.length=xl.length
 lt : ∀ x∈qc,x<B
 eq:bf B (xl.drop i)=bf B (qc.drop i)*y+r
 r1:r<y

theorem Dx.start (xl ql:List Nat) (y:Nat) (hl:ql.length=xl.length) (hy:0<y) (h : ∀ x∈ql,x<B):Dx B xl ql y xl.length 0 :=
 ⟨hl,h,by rw[Sg (gu _),Sg (by omega)];simp[bf],hy⟩

theorem afx (l:List Nat) (i v:Nat):(l.set i v).drop (i+1)=l.drop (i+1):=by
 apply Tv
 ·
  simp
 ·
  intro j hj;have:i≠i+1+j:=by omega
  simp only[List.getD,Sd,List.getElem?_set,this,if_false]

theorem Dx.step (h:Dx B xl qc y (i+1) r) (hi:i<xl.length) (hx:xl.getD i 0<B) :
  Dx B xl (qc.set i ((r*B+xl.getD i 0)/y)) y i ((r*B+xl.getD i 0)%y):=by
 have hl:=h.len
 have hr:=h.r1
 refine⟨by simp[hl],Bl _ _ _ h.lt ?_,?_,Bf _ (by omega)⟩
 ·
  rw[Fu (by omega)];have:(r+1)*B≤y*B:=Dc _ hr;rw[xm]at this;rw[og B y];omega
 ·
  rw[Rx,Rx B (qc.set _ _),afx,Tt _ _ _ (by omega),h.eq];have Jb:=Fv (r*B+xl.getD i 0) y;generalize (r*B+xl.getD i 0)/y=q at *;generalize (r*B+xl.getD i 0)%y=s at *;have e1:B*(bf B (qc.drop (i+1))*y)=B*bf B (qc.drop (i+1))*y:=by rw[uk]
  have e2:q*y=y*q:=og _ _;have e3:B*r=r*B:=og _ _;rw[uo,xm,e1,e2,e3];omega

theorem Dx.done (h:Dx B xl qc y 0 r):bf B qc=bf B xl/y∧r=bf B xl%y:=by
 have e:=h.eq
 have hr:=h.r1
 simp only[agk]at e
 constructor
 ·
  rw[e,og,Nat.mul_add_div (by omega),ajv hr];omega
 ·
  rw[e,og,Nat.mul_add_mod,aew hr]


structure Fg (B S:Nat) (xl zc:List Nat) (i:Nat):Prop where
 len:zc.length=xl.length+1
 zero : ∀ t,i<t→zc.getD t 0=0
 lt : ∀ x∈zc,x<B
 low:zc.getD i 0<S
 eq:bf B (zc.take (i+1))=bf B (xl.take i)*S

theorem Fg.start (xl zl:List Nat) (hS:0<S) (hB:0<B) (hl:zl.length=xl.length+1) (h : ∀ t,zl.getD t 0=0):Fg B S xl zl 0:=by
 refine⟨hl,fun t _=>h t,fun x hx => ?_,by rw[h 0];exact hS,?_⟩
 ·
  obtain⟨i,hi,rfl⟩:=List.getElem_of_mem hx;have:=h i;simp[List.getD,Cj hi]at this;omega
 ·
  rw[Zx B zl _ (fun t _=>h t)];simp[bf]

theorem Fg.step {T:Nat} (hST:S*T=B) (hT:0<T) (h:Fg B S xl zc i) (hi:i<xl.length) (hx:xl.getD i 0<B) :
  Fg B S xl ((zc.set i (zc.getD i 0+xl.getD i 0%T*S)).set (i+1) (xl.getD i 0/T)) (i+1):=by
 have hl:=h.len
 have hlow:=h.low
 have hm:xl.getD i 0/T<S:=by rw[Fu hT,hST];exact hx
 have hSB:S≤B:=by rw[← hST];exact bbk _ hT
 have hr:xl.getD i 0%T<T:=Bf _ hT
 have hr2:(xl.getD i 0%T+1)*S≤T*S:=Dc _ hr
 rw[xm,og T S,hST]at hr2
 refine⟨by simp[hl],fun t ht => ?_,Bl _ _ _ (Bl _ _ _ h.lt (by omega)) (by omega),?_,?_⟩
 ·
  rw[Gx _ _ _ _ (by omega),Gx _ _ _ _ (by omega),h.zero t (by omega)]
 ·
  rw[Tt _ _ _ (by simp;omega)];exact hm
 ·
  rw[Bb _ _ _ (by simp;omega),Cb,Bb _ _ _ (by omega),Cb,Bj,uy,Ce (by omega)];have e:=h.eq;rw[nz]at e;rw[nz,xm,← e];have Jb:=Fv (xl.getD i 0) T;generalize xl.getD i 0/T=q at *;generalize xl.getD i 0%T=r at *;rw[← Jb];have e1:B^i*(T*q+r)*S=B^i*(r*S)+B^(i+1)*q:=by
   rw[Be];generalize B^i=P;rw[← hST,uo,xm,uk P r S,asf]
   congr 1
   simp only[og,Nt]
  rw[e1,List.length_singleton,uo];omega

theorem Fg.done (h:Fg B S xl zc xl.length):bf B zc=bf B xl*S:=by
 have e:=h.eq
 have hl:=h.len
 rwa[jk _ zc _ (by omega),jk _ _ _ (gu _)]at e

structure Eh (B S:Nat) (xl zc:List Nat) (i:Nat):Prop where
 len:zc.length=xl.length
 lt : ∀ x∈zc,x<B
 eq:S*bf B (zc.take i)+xl.getD 0 0%S=bf B (xl.take i)+B^i*(xl.getD i 0%S)

theorem Eh.start (xl zl:List Nat) (hl:zl.length=xl.length) (h : ∀ x∈zl,x<B):Eh B S xl zl 0:=⟨hl,h,by simp[bf]⟩

theorem Eh.step {T:Nat} (hST:S*T=B) (hS:0<S) (h:Eh B S xl zc i) (hi:i<xl.length) (hx:xl.getD i 0<B) :
  Eh B S xl (zc.set i (xl.getD i 0/S+xl.getD (i+1) 0%S*T)) (i+1):=by
 have hl:=h.len
 have h1:xl.getD i 0/S<T:=by rw[Fu hS,og,hST];exact hx
 have h2:(xl.getD (i+1) 0%S+1)*T≤S*T:=Dc _ (Bf _ hS)
 rw[hST,xm]at h2
 refine⟨by simp[hl],Bl _ _ _ h.lt (by omega),?_⟩
 rw[Bb _ _ _ (by omega),Cb,nz,uy,Ce (by omega)]
 have e:=h.eq
 have Jb:=Fv (xl.getD i 0) S
 generalize xl.getD i 0/S=q at *
 generalize xl.getD i 0%S=r at *
 generalize xl.getD (i+1) 0%S=t at *
 rw[← Jb]
 have e1:S*(B^i*(q+t*T))=B^i*(S*q)+B^(i+1)*t:=by
  rw[Be,← hST,uo,uo];simp only[og,Nt,uk]
 rw[uo,e1,uo]
 omega

theorem auz {T:Nat} (hST:S*T=B) (l:List Nat):bf B l%S=l.getD 0 0%S:=by
 cases l with
 | nil=>rfl
 | cons x l=>simp[bf,← hST,uk,List.getD]

theorem Eh.done {T:Nat} (hST:S*T=B) (hS:0<S) (h:Eh B S xl zc xl.length):bf B zc=bf B xl/S:=by
 have e:=h.eq
 have hl:=h.len
 have h0:xl.getD xl.length 0=0:=by simp[List.getD]
 rw[h0,Nat.zero_mod,Nr,Hr,jk _ _ _ (gu _),jk _ zc _ (by omega),← auz hST]at e
 have:=Fv (bf B xl) S
 have h3:S*bf B zc=S*(bf B xl/S):=by omega
 exact Nat.eq_of_mul_eq_mul_left hS h3

structure Eo (B:Nat) (ul vl zc:List Nat) (k i c:Nat):Prop where
 len:zc.length=ul.length
 same : ∀ j,i≤j→zc.getD j 0=ul.getD j 0
 lt : ∀ x∈zc,x<B
 eq:bf B (zc.take i)+k*bf B (vl.take i)=bf B (ul.take i)+B^i*c
 c1:c<B

theorem Eo.start (ul vl:List Nat) (k:Nat) (hB:0<B) (h : ∀ x∈ul,x<B):Eo B ul vl ul k 0 0:=⟨rfl,fun _ _=>rfl,h,by simp[bf],hB⟩

theorem Eo.step {k:Nat} (h:Eo B ul vl zc k i c) (hiu:i<ul.length)
  (hd:d<B) (hb:hi+b<B) (e1:k*vl.getD i 0+c=hi*B+lo) (e2:d+lo=zc.getD i 0+B*b):Eo B ul vl (zc.set i d) k (i+1) (hi+b):=by
 have hlen:=h.len
 refine⟨by simp[hlen],fun t ht => ?_,Bl _ _ _ h.lt hd,?_,hb⟩
 ·
  rw[Gx _ _ _ _ (by omega),h.same t (by omega)]
 ·
  rw[Bb _ _ _ (by omega),Cb,nz,nz,uy,Ce (by omega),Be];have e:=h.eq;have hs:=h.same i (gu _);rw[← hs];have e3:B^i*(k*vl.getD i 0+c)=B^i*(hi*B+lo):=by rw[e1]
  have e4:B^i*(d+lo)=B^i*(zc.getD i 0+B*b):=by rw[e2]
  have e5:k*(B^i*vl.getD i 0)=B^i*(k*vl.getD i 0):=Nt _ _ _;have e6:B^i*(hi*B)=B^i*B*hi:=by simp only[og,Nt,uk]
  have e7:B^i*(B*b)=B^i*B*b:=by rw[uk]
  rw[uo k,e5];simp only[uo,e6,e7]at e3 e4 ⊢;omega

theorem Eo.done {k:Nat} (h:Eo B ul vl zc k vl.length c) (hu:ul.length=vl.length+1) (e:d+c=zc.getD vl.length 0+B*b) :
  bf B (zc.set vl.length d)+k*bf B vl=bf B ul+B^ul.length*b:=by
 have hl:=h.len
 have h1:=Bb zc vl.length d (by omega)
 rw[Fb (by simp;omega)]at h1
 rw[h1,Cb,uy,Ce (by omega)]
 have h2:=rz B ul vl.length (by omega)
 rw[jk _ ul _ (by omega)]at h2
 have h3:=h.eq
 rw[jk _ vl _ (gu _)]at h3
 have hs:=h.same vl.length (gu _)
 rw[h2,← hs,hu,Be]
 have e3:B^vl.length*(d+c)=B^vl.length*(zc.getD vl.length 0+B*b):=by rw[e]
 simp only[uo,uk]at e3 ⊢
 omega

theorem aen {U V top head:Nat} {k:Nat} (h1:top*B^k≤V) (h2:U<(head+1)*B^k) (hq:q*V≤U):q*top≤head:=by
 have h3:q*(top*B^k)≤U:=xy (Bo _ h1) hq
 have h4:q*top*B^k<(head+1)*B^k:=by rw[uk];omega
 have h5:=arz h4
 omega

theorem azh (q:Rat) (n:Int) (d:Nat) (hd:d≠0) (hc:n.natAbs.Coprime d) (he:n*q.den=q.num*d):q.num=n∧q.den=d:=by
 have h1:q=Rat.mk' n d hd hc:=by rw[Rat.eq_iff_mul_eq_mul];simp only;exact he.symm
 rw[h1];exact⟨rfl,rfl⟩

theorem Lg (n d:Int) (hd:d≠0):(Rat.divInt n d).num=n.tdiv (d.sign*(n.natAbs.gcd d.natAbs:Nat))∧((Rat.divInt n d).den:Int)=d.tdiv (d.sign*(n.natAbs.gcd d.natAbs:Nat)):=by
 have hg0:0<n.natAbs.gcd d.natAbs:=abp _ (by omega)
 have hgn:((n.natAbs.gcd d.natAbs:Nat):Int)∣n:=arq (arl.2 (aju _ _)) (arn.2 (ars n))
 have hgd:((n.natAbs.gcd d.natAbs:Nat):Int)∣d:=arq (arl.2 (ajt _ _)) (arn.2 (ars d))
 have hc:(n.natAbs/n.natAbs.gcd d.natAbs).Coprime (d.natAbs/n.natAbs.gcd d.natAbs):=ajw hg0
 generalize hgg:n.natAbs.gcd d.natAbs=ik at *
 obtain⟨a,ha⟩:=hgn
 obtain⟨b,hb⟩:=hgd
 have hgi:(ik:Int)≠0:=by omega
 have hb0:b≠0:=by rintro rfl;simp at hb;exact hd hb
 have hsd:d.sign=b.sign:=by rw[hb,Int.sign_mul,amv (by omega),aae]
 have hs:d.sign*d.sign=1:=by
  rcases amy d 0 with h|h|h
  ·
   rw[baj h];rfl
  ·
   exact absurd h hd
  ·
   rw[amv h];rfl
 have hs0:d.sign≠0:=by intro h;rw[h]at hs;simp at hs
 have e1:n.tdiv (d.sign*ik)=d.sign*a:=by
  rw[ha];have:(ik:Int)*a=(d.sign*ik)*(d.sign*a):=by
   have:(d.sign*ik)*(d.sign*a)=(d.sign*d.sign)*(ik*a):=by simp only[Xr,amx,arp]
   rw[this,hs,aae]
  rw[this,aro _ (by simp[Int.mul_eq_zero];omega)]
 have e2:d.tdiv (d.sign*ik)=d.sign*b:=by
  conv=>lhs;arg 1;rw[hb]
  have:(ik:Int)*b=(d.sign*ik)*(d.sign*b):=by
   have:(d.sign*ik)*(d.sign*b)=(d.sign*d.sign)*(ik*b):=by simp only[Xr,amx,arp]
   rw[this,hs,aae]
  rw[this,aro _ (by simp[Int.mul_eq_zero];omega)]
 have e3:d.sign*b=b.natAbs:=by rw[hsd];exact Int.sign_mul_self b
 rw[e1,e2,e3]
 have hna:n.natAbs/ik=a.natAbs:=by rw[ha,Uu,Fq];exact Kr _ hg0
 have hda:d.natAbs/ik=b.natAbs:=by
  have:d.natAbs=ik*b.natAbs:=by rw[hb,Uu,Fq]
  rw[this];exact Kr _ hg0
 rw[hna,hda]at hc
 have hsn:(d.sign*a).natAbs=a.natAbs:=by
  rw[Uu];have:d.sign.natAbs=1:=by
   rcases amy d 0 with h|h|h
   ·
    rw[baj h];rfl
   ·
    exact absurd h hd
   ·
    rw[amv h];rfl
  rw[this,Iy]
 have hq:Rat.divInt n d=Rat.mk' (d.sign*a) b.natAbs (by omega) (by rw[hsn];exact hc):=by
  rw[Rat.mk_eq_divInt,Rat.divInt_eq_divInt_iff hd (by omega)];rw[← e3,ha];generalize d.sign=t at *;rw[hb];simp only[Xr,amx,arp]
 rw[hq]
 exact⟨rfl,rfl⟩

theorem aas {a:Int} (h:a.natAbs.Coprime b) {c:Int} (hc:c∣a):c.natAbs.Coprime b:=Nat.Coprime.coprime_dvd_left (Int.natAbs_dvd_natAbs.2 hc) h

theorem bfz (x y:Rat) (ik h:Nat) (n:Int) (hg:ik=x.den.gcd y.den) (hn:n=x.num*(y.den/ik:Nat)+y.num*(x.den/ik:Nat)) (hh:h=ik.gcd n.natAbs) :
  (x+y).num=n.tdiv h∧(x+y).den=x.den/ik*(y.den/h):=by
 have hx:=x.reduced
 have hy:=y.reduced
 have hxd:=x.den_pos
 have hyd:=y.den_pos
 have hg0:0<ik:=by rw[hg];exact ajs _ hxd
 obtain⟨a,ha⟩:ik∣x.den:=by rw[hg];exact aju _ _
 obtain⟨b,hb⟩:ik∣y.den:=by rw[hg];exact ajt _ _
 have hab:a.Coprime b:=by
  have:=ajw (m:=x.den) (n:=y.den) (by rw[← hg];exact hg0);rwa[← hg,ha,hb,Kr _ hg0,Kr _ hg0]at this
 have ea:x.den/ik=a:=by rw[ha,Kr _ hg0]
 have eb:y.den/ik=b:=by rw[hb,Kr _ hg0]
 rw[ea,eb]at hn
 rw[ea]
 have hh0:0<h:=by rw[hh];exact ajs _ hg0
 obtain⟨g',hg'⟩:h∣ik:=by rw[hh];exact aju _ _
 obtain⟨n',hn'⟩:(h:Int)∣n:=arq (arl.2 (by rw[hh];exact ajt _ _)) (arn.2 (ars n))
 have hgn:n'.natAbs.Coprime g':=by
  have:=ajw (m:=ik) (n:=n.natAbs) (by rw[← hh];exact hh0);rw[← hh,hn',Uu,Fq,Kr _ hh0]at this
  conv at this=>lhs;rw[hg',Kr _ hh0]
  exact this.symm
 have e1:n.tdiv h=n':=by rw[hn'];exact aro _ (by omega)
 have e2:y.den/h=g'*b:=by rw[hb,hg',uk,Kr _ hh0]
 rw[e1,e2]
 have ca:n.natAbs.Coprime a:=by
  have h1:(x.num*b).natAbs.Coprime a:=by
   rw[Uu,Fq];exact bbm (ash ⟨ik,by rw[ha,og]⟩ hx) hab.symm
  have h2:Int.gcd n a=1:=by
   have:Int.gcd (x.num*b) a=1:=by exact h1
   rw[hn,Int.gcd_add_mul_right_left];exact this
  exact h2
 have cb:n.natAbs.Coprime b:=by
  have h1:(y.num*a).natAbs.Coprime b:=by
   rw[Uu,Fq];exact bbm (ash ⟨ik,by rw[hb,og]⟩ hy) hab
  have h2:Int.gcd n b=1:=by
   have:Int.gcd (y.num*a) b=1:=by exact h1
   rw[hn,Int.add_comm,Int.gcd_add_mul_right_left];exact this
  exact h2
 have dn:n'∣n:=⟨h,by rw[hn',Xr]⟩
 have hc:n'.natAbs.Coprime (a*(g'*b)):=asg (aas ca dn) (asg hgn (aas cb dn))
 have hb0:b≠0:=by rintro rfl;simp at hb;omega
 have ha0:a≠0:=by rintro rfl;simp at ha;omega
 have cze:g'≠0:=by rintro rfl;simp at hg';omega
 refine azh _ _ _ (by simp[Yf];omega) hc ?_
 have hq:x+y=Rat.mk' n' (a*(g'*b)) (by simp[Yf];omega) hc:=by
  rw[Rat.add_def',Rat.mk_eq_mkRat,Rat.mkRat_eq_iff (by simp[Yf];omega) (by simp[Yf];omega)];have e3:x.num*y.den+y.num*x.den=ik*n:=by
   rw[hn,ha,hb];simp only[aaf,Int.mul_add];simp only[amx]
  rw[e3,ha,hb,hn'];simp only[hg',aaf];simp only[Xr,amx,arp]
 rw[hq]

theorem bfw (x y:Rat) (ik h:Nat) (hg:ik=x.num.natAbs.gcd y.den) (hh:h=y.num.natAbs.gcd x.den) :
  (x*y).num=x.num.tdiv ik*y.num.tdiv h∧(x*y).den=x.den/h*(y.den/ik):=by
 have hx:=x.reduced
 have hy:=y.reduced
 have hxd:=x.den_pos
 have hyd:=y.den_pos
 have hg0:0<ik:=by rw[hg];exact abp _ hyd
 have hh0:0<h:=by rw[hh];exact abp _ hxd
 obtain⟨a,ha⟩:(ik:Int)∣x.num:=arq (arl.2 (by rw[hg];exact aju _ _)) (arn.2 (ars _))
 obtain⟨b,hb⟩:ik∣y.den:=by rw[hg];exact ajt _ _
 obtain⟨c,hc⟩:(h:Int)∣y.num:=arq (arl.2 (by rw[hh];exact aju _ _)) (arn.2 (ars _))
 obtain⟨d,hd⟩:h∣x.den:=by rw[hh];exact ajt _ _
 have ea:x.num.tdiv ik=a:=by rw[ha];exact aro _ (by omega)
 have ec:y.num.tdiv h=c:=by rw[hc];exact aro _ (by omega)
 have eb:y.den/ik=b:=by rw[hb,Kr _ hg0]
 have ed:x.den/h=d:=by rw[hd,Kr _ hh0]
 rw[ea,ec,eb,ed]
 have cab:a.natAbs.Coprime b:=by
  have:=ajw (m:=x.num.natAbs) (n:=y.den) (by rw[← hg];exact hg0);rw[← hg,eb,ha,Uu,Fq,Kr _ hg0]at this;exact this
 have ccd:c.natAbs.Coprime d:=by
  have:=ajw (m:=y.num.natAbs) (n:=x.den) (by rw[← hh];exact hh0);rw[← hh,ed,hc,Uu,Fq,Kr _ hh0]at this;exact this
 have cad:a.natAbs.Coprime d:=ash ⟨h,by rw[hd,og]⟩ (aas hx ⟨ik,by rw[ha,Xr]⟩)
 have ccb:c.natAbs.Coprime b:=ash ⟨ik,by rw[hb,og]⟩ (aas hy ⟨h,by rw[hc,Xr]⟩)
 have cjn:(a*c).natAbs.Coprime (d*b):=by
  rw[Uu];exact bbm (asg cad cab) (asg ccd ccb)
 have hb0:b≠0:=by rintro rfl;simp at hb;omega
 have hd0:d≠0:=by rintro rfl;simp at hd;omega
 refine azh _ _ _ (by simp[Yf];omega) cjn ?_
 have hq:x*y=Rat.mk' (a*c) (d*b) (by simp[Yf];omega) cjn:=by
  rw[Rat.mul_def',Rat.mk_eq_mkRat,Rat.mkRat_eq_iff (by simp[Yf];omega) (by simp[Yf];omega)];rw[ha,hc,hb,hd];simp only[aaf];simp only[Xr,amx,arp]
 rw[hq]


def Gy (x k u:Nat):Prop:=x=2^k*u∧u%2=1

theorem axb {k k' u':Nat} (h:Gy x k u) (h':Gy x k' u'):k=k'∧u=u':=by
 have key : ∀ {k u k' u':Nat},2^k*u=2^k'*u'→u%2=1→u'%2=1→k≤k'→k=k'∧u=u':=by
  intro k u k' u' e h1 h2 hk;obtain⟨d,rfl⟩ : ∃ d,k'=k+d:=⟨k'-k,by omega⟩
  rw[Hq,uk]at e;have:=Nat.eq_of_mul_eq_mul_left (wz (by omega)) e
  cases d with
  | zero=>simp at this;exact⟨rfl,this⟩
  | succ d=>rw[this,Be,uk,og (2^d),uk]at h1;omega
 obtain⟨e1,o1⟩:=h
 obtain⟨e2,o2⟩:=h'
 rcases Nat.le_total k k' with hk|hk
 ·
  exact key (e1.symm.trans e2) o1 o2 hk
 ·
  have:=key (e2.symm.trans e1) o2 o1 hk;exact⟨this.1.symm,this.2.symm⟩

theorem Mg (hu:u%2=1) (k v:Nat):u.gcd (2^k*v)=u.gcd v:=by
 have h2:Nat.Coprime u 2:=by
  rw[Nat.Coprime,Ja,aex,hu];rfl
 have hk:Nat.Coprime u (2^k):=Nat.Coprime.pow_right k h2
 exact Nat.Coprime.gcd_mul_left_cancel_right v hk.symm

theorem bhx {a:Nat} (hx:Gy x a u) (hy:Gy y b v):x.gcd y=2^(min a b)*u.gcd v:=by
 obtain⟨rfl,hu⟩:=hx
 obtain⟨rfl,hv⟩:=hy
 rcases Nat.le_total a b with h|h
 ·
  obtain⟨d,rfl⟩ : ∃ d,b=a+d:=⟨b-a,by omega⟩
  rw[Ce h,Hq,uk,Nat.gcd_mul_left,Mg hu]
 ·
  obtain⟨d,rfl⟩ : ∃ d,a=b+d:=⟨a-b,by omega⟩
  rw[Nat.min_eq_right h,Hq,uk,Nat.gcd_mul_left,Ja,Mg hv,Ja]

theorem afy (k a b:Nat):(2^k*a) ||| (2^k*b)=2^k*(a ||| b):=by
 apply Nat.eq_of_testBit_eq
 intro i
 simp only[Nat.testBit_or,Nat.testBit_two_pow_mul]
 by_cases h:k≤i<;>simp[h]

theorem ave (a b:Nat):(a ||| b)%2=1↔a%2=1∨b%2=1:=by
 have h:=@Nat.testBit_or a b 0
 simp only[Nat.testBit_zero]at h
 have:decide ((a ||| b)%2=1)=decide (a%2=1∨b%2=1):=by rw[h];simp
 simp only[aer]at this
 exact this

theorem bhw {a:Nat} (hx:Gy x a u) (hy:Gy y b v) : ∃ w,Gy (x ||| y) (min a b) w:=by
 obtain⟨rfl,hu⟩:=hx
 obtain⟨rfl,hv⟩:=hy
 rcases Nat.le_total a b with h|h
 ·
  obtain⟨d,rfl⟩ : ∃ d,b=a+d:=⟨b-a,by omega⟩
  rw[Ce h,Hq,uk,afy];exact⟨_,rfl,(ave _ _).2 (.inl hu)⟩
 ·
  obtain⟨d,rfl⟩ : ∃ d,a=b+d:=⟨a-b,by omega⟩
  rw[Nat.min_eq_right h,Hq,uk,afy];exact⟨_,rfl,(ave _ _).2 (.inr hv)⟩

def Gn (G t x y:Nat):Prop:=x%2=1∧G=2^t*x.gcd y

theorem Gn.start {X a:Nat} (hX:Gy X a u) (hY:Gy Y b v) (ht : ∃ w,Gy (X ||| Y) t w):Gn (X.gcd Y) t u Y:=by
 obtain⟨w,hw⟩:=ht
 obtain⟨w',hw'⟩:=bhw hX hY
 obtain⟨rfl,_⟩:=axb hw hw'
 refine⟨hX.2,?_⟩
 rw[bhx hX hY]
 obtain⟨rfl,_⟩:=hY
 rw[Mg hX.2]

theorem Gn.cct {G k:Nat} (h:Gn G t x y) (hy:Gy y k v) (hle:x≤v):Gn G t x (v-x):=by
 obtain⟨h1,h2⟩:=h
 obtain⟨rfl,hv⟩:=hy
 refine⟨h1,?_⟩
 rw[h2,Mg h1]
 have:x.gcd v=x.gcd (v-x):=by
  rw[Ja,Ja x (v-x)];exact(Nat.gcd_sub_self_left hle).symm
 rw[this]

theorem Gn.ccu {G k:Nat} (h:Gn G t x y) (hy:Gy y k v) (hlt:v<x):Gn G t v (x-v):=by
 obtain⟨h1,h2⟩:=h
 obtain⟨rfl,hv⟩:=hy
 refine⟨hv,?_⟩
 rw[h2,Mg h1]
 have:x.gcd v=v.gcd (x-v):=by
  rw[Ja v];exact(Nat.gcd_sub_self_left (by omega)).symm
 rw[this]

theorem Gn.done {G:Nat} (h:Gn G t x 0):G=x*2^t:=by
 rw[h.2,asa,og]

theorem aos {k:Nat} (h:Gy x k u):x/2^k=u:=by
 rw[h.1];exact Kr _ (wz (by omega))
theorem avc {k:Nat} (h:Gy x k u):u≤x:=by
 rw[h.1];exact Nat.le_mul_of_pos_left _ (wz (by omega))


structure Ch (b y1 y0 u d q r:Nat):Prop where
 eq:q*y1+r=u
 ge:(u*b+d)/(y1*b+y0)≤q

theorem Ch.start (hy:0<y1) (hd:d<b):Ch b y1 y0 u d (u/y1) (u-u/y1*y1):=by
 have Jb:=Fv u y1
 have hml:u/y1*y1≤u:=Uz u y1
 refine⟨by omega,?_⟩
 rw[abo hy]
 have h1:(u*b+d)/(y1*b+y0)*(y1*b+y0)≤u*b+d:=Uz _ _
 generalize (u*b+d)/(y1*b+y0)=Q at *
 have h2:Q*y1*b<(u+1)*b:=by
  rw[uo,← uk]at h1;rw[xm];omega
 have:=arz h2
 omega

theorem Ch.step (hy:0<y1*b+y0) (hu:u<y1*b+y0) (hd:d<b) (h:Ch b y1 y0 u d q r) (ht:b≤q∨b*r+d<q*y0) :
  1≤q∧Ch b y1 y0 u d (q-1) (r+y1):=by
 have hlt:(u*b+d)/(y1*b+y0)<q:=by
  rcases ht with h1|h1
  ·
   refine zh ?_ h1
   rw[Fu hy];have:(u+1)*b≤(y1*b+y0)*b:=Dc _ hu;rw[xm]at this;rw[og b];omega
  ·
   rw[Fu hy,← h.eq,uo,xm,← uk,og r b];omega
 have e:=h.eq
 refine⟨Dm (ug _) hlt,⟨?_,Nat.le_sub_one_of_lt hlt⟩⟩
 have hq1:1≤q:=Dm (ug _) hlt
 clear hlt
 have:(q-1)*y1+y1=q*y1:=by
  obtain⟨p,rfl⟩ : ∃ p,q=p+1:=⟨q-1,by omega⟩
  rw[ase,xm,Iy]
 omega

theorem Ch.done (hy:0<y1*b+y0) (h:Ch b y1 y0 u d q r) (ht:q*y0≤b*r+d):q=(u*b+d)/(y1*b+y0):=by
 refine Nat.le_antisymm ?_ h.ge
 rw[abo hy,← h.eq,uo,xm,← uk,og r b]
 omega

theorem Ch.stop (hy:0<y1*b+y0) (hy0:y0<b) (hu:u<y1*b+y0) (h:Ch b y1 y0 u d q r) (ht:b≤r):q=(u*b+d)/(y1*b+y0):=by
 refine h.done hy ?_
 have e:=h.eq
 have h1:q*y1<y1*b:=by omega
 have hq:q<b:=by
  rw[og]at h1;exact Nat.lt_of_mul_lt_mul_left h1
 have h2:q*y0≤b*b:=abn (by omega) (by omega)
 have h3:b*b≤b*r:=Bo _ ht
 omega

theorem amd (hY:0<Y) (hu:u<Y) (hd:d<b):(u*b+d)/Y<b:=by
 rw[Fu hY]
 have:(u+1)*b≤Y*b:=Dc _ hu
 rw[xm]at this
 rw[og b];omega

theorem azx {d1 d0:Nat} (hY:0<Y):(u*(b*b)+d1*b+d0)/Y=(u*b+d1)/Y*b+((u*b+d1)%Y*b+d0)/Y ∧
  (u*(b*b)+d1*b+d0)%Y=((u*b+d1)%Y*b+d0)%Y:=by
 have Jb:=Fv (u*b+d1) Y
 generalize (u*b+d1)/Y=Q at *
 generalize (u*b+d1)%Y=R at *
 have e:u*(b*b)+d1*b+d0=Y*(Q*b)+(R*b+d0):=by
  have:(u*b+d1)*b=(Y*Q+R)*b:=by rw[Jb]
  rw[xm,xm,uk,uk]at this;omega
 rw[e]
 exact⟨by rw[Nat.mul_add_div hY],by rw[Nat.mul_add_mod]⟩

theorem Zt {N:Nat} (hS:0<S):N*S/(Y*S)=N/Y∧N*S%(Y*S)/S=N%Y:=by
 rw[Nat.mul_div_mul_right _ _ hS,ajq,Nat.mul_div_cancel _ hS]
 exact⟨rfl,rfl⟩

end Go.Proofs.YtfgeaakhlcaibaaGreatDoor
namespace Go.Proofs.YtfgeaakhlcaibaaGreatDoor
open Go.RowKit
open Go.Proofs.Tryz
open Go renaming World → Wq
open Go renaming Value → Vq
variable {B b i u n c d x y S r v cap j q Y t y1 y0 z hi lo id g s1 q1 h1:Nat} {w w':Wq} {zc xl yl l al m zl zr qc ul vl:List Nat} {a a0:Act} {P:Program} {L:Array Bool} {Q:Exit→Act→Wq→Prop} {E:Wq→Wq→Prop} {A:Option Addr} {G:Wq→Prop} {o:Oper} {p:Prop} {row:Option Nat}
theorem mi {P:Prop} (h:P:=by simp):P:=h
theorem zx {P:Prop} (h:P:=by simp<;>omega):P:=h
theorem om {P:Prop} (h:P:=by omega):P:=h
theorem bem {P:Prop} (h:P:=by(first|assumption|(repeat (first|exact df _ _|assumption|refine ny ?_|(refine qz ?_ zx _))))):P:=h

theorem ae (h:p):Hid p:=h
theorem aa (h:Hid p):p:=h

def Ws (k:IntKind) (w:Wq) (B:Nat) (A:Option Addr) (l:List Nat):Prop :=
 0<l.length → ∃ b off,A=some ⟨b,off,none⟩∧b<B ∧ ∀ j,j<l.length→w.cell? ⟨b,off+j,none⟩=some (.int k ((ik l j:Nat):Int))

section
variable {k:IntKind} {w w':Wq} {B B':Nat} {A:Option Addr} {l:List Nat}
theorem Ws.aeg:Ws k w B A []:=fun h=>absurd h mi
theorem Ws.at_ (h:Ws k w B A l) (hl:0<l.length) : ∃ b off,A=some ⟨b,off,none⟩∧b<B ∧ ∀ j,j<l.length→w.cell? ⟨b,off+j,none⟩=some (.int k ((ik l j:Nat):Int)):=h hl
theorem Ws.keep (h:Ws k w B A l) (hk : ∀ p:Addr,p.block<B→w'.cell? p=w.cell? p):Ws k w' B A l:=fun hl=>by
 obtain⟨b,off,e,hb,hc⟩:=h hl
 exact⟨b,off,e,hb,fun j hj=>(hk _ hb).trans (hc j hj)⟩
theorem Ws.more (h:Ws k w B A l) (hB:B≤B'):Ws k w B' A l:=fun hl=>by
 obtain⟨b,off,e,hb,hc⟩:=h hl
 exact⟨b,off,e,by omega,hc⟩
theorem Ws.below (h:Ws k w B A l) (hb:Below B w w'):Ws k w' B A l:=h.keep fun _ hp=>hb.cell hp
theorem Ws.drew (h:Ws k w B A l):Ws k w.drew B A l:=h
theorem Ws.drewN (h:Ws k w B A l) (n:Nat):Ws k (w.drewN n) B A l:=h
theorem Ws.alloc (h:Ws k w B A l) (hB:B≤w.heap.size) (o:Obj):Ws k (w.alloc o) B A l:=h.keep fun p hp=>World.cell?_alloc_lt w o p om
theorem Ws.setCell (h:Ws k w B A l) {p:Addr} (hB:B≤p.block) (u:Vq):Ws k (w.setCell p u) B A l :=
 h.keep fun q hq=>ajj w p q u (fun e=>by subst e;omega)
theorem Ws.adk (h:Ws k w B A l) (n:Nat):Ws k w B A (l.take n):=fun hl=>by
 have hl':0<l.length:=by simp at hl;omega
 obtain⟨b,off,e,hb,hc⟩:=h hl'
 refine⟨b,off,e,hb,fun j hj => ?_⟩
 have:j<n∧j<l.length:=by simp at hj;omega
 rw[pg,acz _ _ _ this.1]
 exact hc j this.2
end
theorem kr {P:Prop} (h:P:=by kernel_rfl):P:=h

def Ba (k:IntKind) (zs:List Nat):Array Vq:=(zs.map fun(x:Nat)=>Value.int k (x:Int)).toArray

def ZB (k:IntKind) (w:Wq) (b:Nat) (T:TypeId) (zs:List Nat):Prop:=w.heap[b]? = some (.cells (Ba k zs) T (0,0))

theorem bkz (k:IntKind) (zs:List Nat) (i:Nat) (h:i<zs.length):(Ba k zs)[i]? = some (.int k ((ik zs i:Nat):Int)):=by
 simp[Ba,ik,List.getD,h]

section
variable {k:IntKind} {w w':Wq} {b:Nat} {T:TypeId} {zs:List Nat}
theorem ZB.lt (h:ZB k w b T zs):b<w.heap.size:=by
 rcases Fa b w.heap.size with hlt|hge
 ·
  exact hlt
 ·
  unfold ZB at h;rw[bus hge]at h;cases h
theorem ZB.cell (h:ZB k w b T zs) (i:Nat) (hi:i<zs.length):w.cell? ⟨b,i,none⟩=some (.int k ((ik zs i:Nat):Int)):=by
 unfold ZB at h
 simp only[World.cell?,h,aeu,anb,if_false]
 exact bkz k zs i hi
theorem ZB.frozen (h:ZB k w b T zs) (i:Nat):w.frozen? ⟨b,i,none⟩=false:=by
 unfold ZB at h
 simp[World.frozen?,h]
theorem ZB.drew (h:ZB k w b T zs):ZB k w.drew b T zs:=h
theorem ZB.drewN (h:ZB k w b T zs) (n:Nat):ZB k (w.drewN n) b T zs:=h
theorem ZB.alloc (h:ZB k w b T zs) (o:Obj):ZB k (w.alloc o) b T zs:=(ags w o b h.lt).trans h
theorem ZB.Jr (h:ZB k w b T zs) (i v:Nat):ZB k (w.setCell ⟨b,i,none⟩ (.int k (v:Int))) b T (zs.set i v):=by
 unfold ZB at h ⊢
 have e:(Ba k zs).setIfInBounds i (.int k (v:Int))=Ba k (zs.set i v):=by
  simp[Ba,List.map_set]
 simp[World.setCell,avs,h,e]
theorem ZB.below (h:ZB k w b T zs) (hb:Below B w w') (hg:b<B):ZB k w' b T zs:=(hb.block b hg).trans h
theorem ZB.grown (h:ZB k w b T zs) (hb:w.grownBy w' row) (hg:some b≠row):ZB k w' b T zs:=(hb.block b h.lt hg).trans h
theorem ZB.ws (h:ZB k w b T zs) (off n:Nat) (hn:off+n≤zs.length) (B:Nat) (hB:b<B):Ws k w B (some ⟨b,off,none⟩) ((zs.drop off).take n):=fun _=>by
 refine⟨b,off,rfl,hB,fun j hj => ?_⟩
 have hj':j<n:=by simp at hj;omega
 rw[h.cell (off+j) om]
 simp[ik,List.getD,hj',Sd]
theorem ZB.Mk (h:ZB k w b T zs) (B:Nat) (hB:b<B):Ws k w B (some ⟨b,0,none⟩) zs:=fun _=>⟨b,0,rfl,hB,fun j hj=>by rw[Bn];exact h.cell j hj⟩
end

def win (us:List Nat) (off:Nat) (zc:List Nat):List Nat:=us.take off++zc++us.drop (off+zc.length)

theorem win_length (us:List Nat) (off:Nat) (zc:List Nat) (h:off+zc.length≤us.length):(win us off zc).length=us.length:=by
 simp[win];omega
theorem Xt (us:List Nat) (off:Nat) (zc:List Nat) (h:off+zc.length≤us.length) (i:Nat) (hi:i<zc.length):ik (win us off zc) (off+i)=ik zc i:=by
 have h1:(us.take off).length=off:=by simp;omega
 simp only[ik,win,List.getD,Lm]
 rw[bkn om,h1,asc,arh hi]
theorem Qs (us:List Nat) (off:Nat) (zc:List Nat) (h:off+zc.length≤us.length) (i v:Nat) (hi:i<zc.length):(win us off zc).set (off+i) v=win us off (zc.set i v):=by
 have h1:(us.take off).length=off:=by simp;omega
 simp only[win,Lm,Pn]
 rw[List.set_append_right _ _ om,h1,asc,List.set_append_left _ _ hi]
theorem Ww (us:List Nat) (off n:Nat) (h:off+n≤us.length):win us off ((us.drop off).take n)=us:=by
 have h1:((us.drop off).take n).length=n:=by simp;omega
 simp only[win,h1,Lm]
 rw[← arj,Lu,Lu]
theorem ccm (us:List Nat) (off:Nat) (zc zd:List Nat) (h:off+zc.length≤us.length) (hl:zd.length=zc.length):win (win us off zc) off zd=win us off zd:=by
 have h1:(us.take off).length=off:=by simp;omega
 have h2:(win us off zc).take off=us.take off:=by
  simp only[win,Lm];rw[bou om,Fb om]
 have h3:(win us off zc).drop (off+zc.length)=us.drop (off+zc.length):=by
  simp only[win];rw[bac (by simp;omega),Sg (by simp;omega),Pm]
 unfold win at h2 h3 ⊢
 rw[h2,hl,h3]
theorem win_zero (zs zc:List Nat) (h:zc.length=zs.length):win zs 0 zc=zc:=by simp[win,h]

def eu:Nat:=18446744073709551616
theorem ja:eu=18446744073709551616:=rfl
theorem zg:1<eu:=by rw[ja];omega
def dz:Nat:=4294967296
theorem fu:dz=4294967296:=rfl
theorem Bw:1<dz:=by rw[fu];omega

theorem qy (h:w.grownBy w' (some b)) (off:Nat) (u:Vq):w.grownBy (w'.setCell ⟨b,off,none⟩ u) (some b) :=
 ⟨h.os,h.tape,h.output,by simpa [World.setCell]using h.size,fun k hk hne=>(anc w' _ u k (by rintro rfl;exact hne rfl)).trans (h.block k hk hne)⟩
theorem bni {r:Option Nat} (h:w.grownBy w' r):w.grownBy w'.drew r:=⟨h.os,h.tape,h.output,h.size,h.block⟩
theorem bhl {r:Option Nat} (h:w.grownBy w' r) (n:Nat):w.grownBy (w'.drewN n) r:=⟨h.os,h.tape,h.output,h.size,h.block⟩
theorem wy (w:Wq) (r:Option Nat):w.grownBy w r:=⟨rfl,rfl,rfl,gu _,fun _ _ _=>rfl⟩
theorem aln {a b c:Wq} {r:Option Nat} (h:a.grownBy b r) (k:b.grownBy c r):a.grownBy c r :=
 ⟨k.os.trans h.os,k.tape.trans h.tape,k.output.trans h.output,xy h.size k.size,fun i hi hne=>(k.block i (zh hi h.size) hne).trans (h.block i hi hne)⟩
theorem Ws.grown {k:IntKind} (h:Ws k w B A l) (hg:w.grownBy w' row) (hB:B≤w.heap.size) (hr : ∀ g,row=some g→B≤g):Ws k w' B A l :=
 h.keep fun p hp=>Re (hg.block p.block om (fun e=>by have:=hr _ e.symm;omega))

structure qf (w:Wq) (A:Option Addr) (cap:Nat) (l:List Nat) (n:Nat):Prop where
 ws:Ws .u64 w w.heap.size A l
 Aj:l.length≤cap
 cap2:cap≤9223372036854775807
 lt : ∀ x∈l,x<eu
 norm:Ur l
 val:bf eu l=n

theorem qf.below (h:qf w A cap l n) (hb:Below w.heap.size w w'):qf w' A cap l n :=
 ⟨(h.ws.below hb).more hb.size,h.Aj,h.cap2,h.lt,h.norm,h.val⟩
theorem qf.len {k:Nat} (h:qf w A cap l n) (hn:n<eu^k):l.length≤k :=
 ael zg l h.norm k (by rw[h.val];exact hn)
theorem qf.aeg (w:Wq) (cap:Nat) (hc:cap≤9223372036854775807):qf w none cap [] 0:=⟨Ws.aeg,by simp,hc,by simp,.inl rfl,rfl⟩
theorem qf.Za (h:qf w A cap l n):n<eu^l.length:=by
 rw[← h.val];exact Bi l h.lt

theorem Mm {k:Nat} (h:k=n):Ending.returned (.slice A k cap) = .returned (.slice A n cap):=by rw[h]
theorem Ej {k:IntKind} {a b:Int} (h:a=b):Ending.returned (.int k a) = .returned (.int k b):=by rw[h]

def Qn (w:Wq) (n:Nat) (e:Ending) (w':Wq):Prop := ∃ A cap l,e = .returned (.slice A l.length cap)∧qf w' A cap l n∧Below w.heap.size w w'

theorem qf.Ij {T:TypeId} {zs:List Nat} {k:Nat} (hz:ZB .u64 w b T zs) (hlt : ∀ x∈zs,x<eu) (ht:Ib zs (zs.take k)) (hk:k≤zs.length) (hc:zs.length≤cap) (hc2:cap≤9223372036854775807) :
  qf w (some ⟨b,0,none⟩) cap (zs.take k) (bf eu zs) :=
 ⟨(hz.Mk _ hz.lt).adk k,by simp;omega,hc2,fun x hx=>hlt x (Dn hx),ht.norm,ht.val _⟩

theorem ccl (n i:Nat):ik (List.replicate n 0) i=0:=by
 simp only[ik,List.getD,List.getElem?_replicate]
 split<;>rfl
theorem aah (n i:Nat):(List.replicate n 0).getD i 0=0:=ccl n i
theorem Wu (hB:0<B) (n:Nat) : ∀ x∈List.replicate n 0,x<B:=fun x hx=>by rw[List.eq_of_mem_replicate hx];exact hB

theorem Vj (k:IntKind) (n:Nat):madeCells (Value.int k 0).cells (n*1)=Ba k (List.replicate n 0):=by
 apply Array.ext'
 simp only[Ba,Ns]
 apply bkp
 ·
  simp[madeCells]
 ·
  intro i h1 h2;simp[madeCells,Value.cells];exact Nat.mod_one i ▸ rfl

def slen:Vq→Nat
 | .slice _ n _=>n
 | _=>0

theorem Nc (A:Option Addr) (cap:Nat) (l:List Nat) (B:Nat) (w:Wq) (hr:Ws .u64 w B A l) (hcap:l.length≤cap) (hm:cap≤9223372036854775807) :
  Calls prog 217 #[.slice A l.length cap] w fun e w'=>(∃ k,e = .returned (.slice A k cap)∧Ib l (l.take k)∧k≤l.length)∧w'=w:=by
 go_enter func217,ntmps217
 go_wp2
 go_loop [0] (fun v => ∃ k:Nat,k≤l.length∧v = .slice A k cap ∧ ∀ i,k≤i→i<l.length→l.getD i 0=0) (fun v=>slen v)
 case atStart=>exact⟨l.length,gu _,rfl,fun i h1 h2=>by omega⟩
 case round =>
  obtain⟨k,hk,rfl,hz⟩:=hrel;have HZ:=bg hz;clear hz
  by_cases h0:k=0
  ·
   subst h0
   go_wp2
   go_ret
   exact⟨⟨0,rfl,⟨0,ug _,rfl,HZ.out,.inl rfl⟩,ug _⟩,rfl⟩
  ·
   obtain⟨b,off,rfl,hb,hc⟩:=hr om;have hck:=hc (k-1) om;clear hc
   go_wp2
   ·
    have ht:(((ik l (k-1):Nat):Int)==0)=true:=by assumption
    go_round
    case rel =>
     refine⟨k-1,by omega,rfl,fun i h1 h2 => ?_⟩
     by_cases hi:i=k-1
     ·
      subst hi;have:=Iw.1 ht;rw[pg]at this;omega
     ·
      exact HZ.out i om h2
    case measure=>simp[slen];omega
   ·
    have ht:(((ik l (k-1):Nat):Int)==0)=false:=by assumption
    go_ret
    refine⟨⟨k,rfl,⟨k,hk,rfl,HZ.out,.inr ?_⟩,hk⟩,rfl⟩
    have:=oo.1 ht;rw[pg]at this;omega

theorem adq (b:Bool) (w:Wq):Calls prog 199 #[.bool b] w fun e w'=>e = .returned (.int .i64 (if b=true then -1 else 1))∧w'=w:=by
 cases b
 all_goals
  go_enter func199,ntmps199
  go_wp2
  go_ret
  exact⟨rfl,rfl⟩

theorem Xd (A:Option Addr) (cap:Nat) (l:List Nat) (B:Nat) (i:Nat) (w:Wq) (hr:Ws .u64 w B A l) (hcap:l.length≤cap) (hm:cap≤9223372036854775807) (hi:i≤9223372036854775807) :
  Calls prog 214 #[.slice A l.length cap,.int .i64 i] w fun e w'=>e = .returned (.int .u64 ((ik l i:Nat):Int))∧w'=w:=by
 by_cases h:i<l.length
 ·
  obtain⟨b,off,rfl,hb,hc⟩:=hr om;have hci:=hc i h;clear hc
  go_enter func214,ntmps214
  go_wp2
  go_ret
  exact⟨rfl,rfl⟩
 ·
  have e:ik l i=0:=by simp[ik,List.getD,Ha (by omega:l.length≤i)]
  rw[e];clear e
  go_enter func214,ntmps214
  go_wp2
  go_ret
  exact⟨rfl,rfl⟩

theorem cif:(prog.info? 157).map (fun i=>(i.zero,i.size,i.bytes))=some (some (.int .u64 0),1,8):=by kernel_rfl
theorem Yy (n:Nat) (h:n≤35184372088832) (w:Wq):(Instr.makeSlice 75 (.int .i64 (n:Int)) (.int .i64 (n:Int))).run prog w =
  .ok (.slice (some ⟨w.heap.size,0,none⟩) n n) (w.alloc (.cells (Ba .u64 (List.replicate n 0)) 157)):=by
 obtain⟨i0,hi,hz0,hz1,hz2⟩:=info_parts cif
 have hr:=run_make (P:=prog) w 75 157 i0 (.int .u64 0) underlying75 hi hz0 .i64 .i64 n n om (Int.le_refl _) (by rw[hz2];omega) om
 simp only[agm]at hr
 rw[hr,hz1,Vj]

theorem brm {f:FuncId} {args:Array Vq} {a:Nat} {v:Vq}
  (h:Calls P f args (w.drewN (a+n)) fun e w'=>e = .returned v ∧ ∃ m,w'=(w.drewN (a+n)).drewN m) :
  Calls P f args (w.drewN (a+n)) fun e w''=>e = .returned v ∧ ∃ m,w''=w.drewN (a+m) :=
 h.mono fun _ _ ⟨he,m,hm⟩=>⟨he,n+m,by rw[hm,World.drewN_drewN,Yh]⟩
theorem cbm (x y c:Nat) (hc:c≤1) (w:Wq):(callFunc 216 #[.int .u64 (x:Int),.int .u64 (y:Int),.int .u64 (c:Int)]).run prog w =
  .ok (.value (.tuple #[.int .u64 (((x+y+c)%eu:Nat):Int),.int .u64 (((x+y+c)/eu:Nat):Int)])) w:=by
 rw[run_callFunc_extern func216 kr kr kr (e:=add64Entry) kr,run_add64 x y c om om om om]
 simp only[Result.andThen]
 rw[ja]
 congr 5<;>omega

theorem bzu (x y b:Nat) (hb:b≤1) (w:Wq):(callFunc 231 #[.int .u64 (x:Int),.int .u64 (y:Int),.int .u64 (b:Int)]).run prog w =
  .ok (.value (.tuple #[.int .u64 (((x+eu-y-b)%eu:Nat):Int),.int .u64 ((if x<y+b then 1 else 0:Nat):Int)])) w:=by
 rw[run_callFunc_extern func231 kr kr kr (e:=sub64Entry) kr,run_sub64 x y b hb]
 rfl

structure bor (B:Nat) (zl yl zr:List Nat) (c:Nat):Prop where
 len:zr.length=zl.length
 lt : ∀ x∈zr,x<B
 eq:bf B zr+B^zl.length*c=bf B zl+bf B yl
 c1:c≤1

theorem aei (b off cap T:Nat) (us zl yl:List Nat) (Ay:Option Addr) (bnr:Nat) (B:Nat) (w:Wq)
  (hz:ZB .u64 w b T us) (hoff:off+zl.length≤us.length) (hzl:zl=(us.drop off).take zl.length) (hcz:zl.length≤cap) (beo:cap≤9223372036854775807)
  (hy:Ws .u64 w B Ay yl) (hB:B≤b) (hcy:yl.length≤bnr) (cry:bnr≤9223372036854775807) (hyz:yl.length≤zl.length)
  (hlz : ∀ x∈zl,x<eu) (hly : ∀ x∈yl,x<eu) :
  Calls prog 230 #[.slice (some ⟨b,off,none⟩) zl.length cap,.slice Ay yl.length bnr] w fun e w' =>
   ∃ zr c,e = .returned (.int .u64 ((c:Nat):Int))∧bor eu zl yl zr c∧ZB .u64 w' b T (win us off zr)∧w.grownBy w' (some b):=by
 have HZ:=bg hzl
 clear hzl
 go_enter func230,ntmps230
 go_wp2
 go_loopw [5,9] (fun cv iv wr => ∃ (i c:Nat) (zc:List Nat),i≤zl.length∧cv = .int .u64 ((c:Nat):Int)∧iv = .int .i64 ((i:Nat):Int)∧Da eu zl yl zc i c∧ZB .u64 wr b T (win us off zc)∧w.grownBy wr (some b)) (fun _ iv _=>zl.length-(intOf iv).toNat)
 case atStart=>exact⟨0,0,zl,ug _,rfl,rfl,Da.start _ _ hlz,by rw[HZ.out,Ww _ _ _ hoff];exact hz,wy _ _⟩
 case round =>
  obtain⟨i,c,zc,hi,rfl,rfl,hinv,qh,hg⟩:=hrel;have hlen:=hinv.len;have hc1:=hinv.c1;have HI:=bg hinv;clear hinv
  by_cases hlt:i<zl.length
  ·
   by_cases hst:yl.length≤i∧c=0
   ·
    obtain⟨hst,rfl⟩:=hst;have b1:decide ((yl.length:Int)≤(i:Int))=true:=by simp;omega
    go_wp2
    go_ret
    exact⟨zc,0,rfl,⟨hlen,HI.out.lt,by rw[HI.out.stop hst];simp,by omega⟩,qh,hg⟩
   ·
    have hwl:=win_length us off zc om;have hzc:=qh.cell (off+i) om;rw[Xt us off zc om i om]at hzc;have hzf:=qh.frozen (off+i);have hyr:Ws .u64 wr B Ay yl:=hy.grown hg (xy hB (Lt hz.lt)) (fun g e=>by injection e with e;omega);obtain⟨zi,hzi⟩ : ∃ zi,zi=ik zc i:=⟨_,rfl⟩
    obtain⟨yi,hyi⟩ : ∃ yi,yi=ik yl i:=⟨_,rfl⟩
    obtain⟨s,hs⟩ : ∃ s,s=(zi+yi+c)%eu:=⟨_,rfl⟩
    obtain⟨q,hq⟩ : ∃ q,q=(zi+yi+c)/eu:=⟨_,rfl⟩
    have hadd:=cbm zi yi c hc1;rw[← hzi]at hzc;rw[← hs,← hq]at hadd;have HS:=bg hs;have HQ:=bg hq;have HZI:=bg hzi;have HYI:=bg hyi;clear hs hq hzi hyi;have hfin : ∀ W,W=wr.drew.setCell ⟨b,off+i,none⟩ (.int .u64 (s:Int))→Da eu zl yl (zc.set i s) (i+1) q∧ZB .u64 W b T (win us off (zc.set i s))∧w.grownBy W (some b):=by
     rintro W rfl;refine⟨?_,?_,qy (bni hg) _ _⟩
     ·
      have:=HI.out.step zg hly hlt;rw[HS.out,HQ.out,HZI.out,HYI.out];exact this
     ·
      rw[← Qs us off zc om i s om];exact(qh.drew).Jr _ _
    have HF:=ae hfin;clear hfin qh hg;have hcase:(i<yl.length)∨(((c:Int)==0)=false∧yl.length≤i):=by
     rcases Fa i yl.length with h|h
     ·
      exact .inl h
     ·
      exact .inr ⟨by simp;omega,h⟩
    rcases hcase with h|⟨b2,h⟩
    all_goals
     go_wp2_with fail
     go_region_with (go_at_call 214;refine(Xd Ay bnr yl B i _ (by exact hyr) hcy cry (by omega)).mono ?_;rintro e w' ⟨rfl,rfl⟩;rw[← HYI.out])
     all_goals
      go_wp2
      go_roundw
      case rel =>
       obtain⟨r1,r2,r3⟩:=(aa HF) _ rfl;exact⟨i+1,q,zc.set i s,by omega,rfl,by go_num,r1,r2,r3⟩
      case measure=>simp[intOf];omega
  ·
   have e:i=zl.length:=by omega
   subst e
   go_wp2
   go_ret
   exact⟨zc,c,rfl,⟨hlen,HI.out.lt,HI.out.done hyz,hc1⟩,qh,hg⟩

theorem ala (x y:Nat) (hx:x<eu) (hy:y<eu) (w:Wq) :
  Calls prog 189 #[.int .u64 ((x:Nat):Int),.int .u64 ((y:Nat):Int)] w fun e w'=>e = .returned (.tuple #[.int .u64 ((x*y/eu:Nat):Int),.int .u64 ((x*y%eu:Nat):Int)])∧w'=w:=by
 rw[ja]at *
 obtain⟨bd,bt,bw,hhi⟩:=Lib.mul64_hi x y hx hy
 have ba:=Lib.half_mul_le (a:=x/4294967296) (b:=y/4294967296) om om
 have bb:=Lib.half_mul_le (a:=x/4294967296) (b:=y%4294967296) om om
 have bc:=Lib.half_mul_le (a:=x%4294967296) (b:=y/4294967296) om om
 have ba':x/4294967296*(y/4294967296)<18446744073709551616:=by omega
 have bb':x/4294967296*(y%4294967296)<18446744073709551616:=by omega
 have bc':x%4294967296*(y/4294967296)<18446744073709551616:=by omega
 have bh1:x/4294967296*(y/4294967296)+(x/4294967296*(y%4294967296)+x%4294967296*(y%4294967296)/4294967296)/4294967296<18446744073709551616:=by omega
 have bh:x/4294967296*(y/4294967296)+(x/4294967296*(y%4294967296)+x%4294967296*(y%4294967296)/4294967296)/4294967296+((x/4294967296*(y%4294967296)+x%4294967296*(y%4294967296)/4294967296)%4294967296+x%4294967296*(y/4294967296))/4294967296<18446744073709551616:=by omega
 go_enter func189,ntmps189
 go_wp2
 simp only[Mul64.maskN x hx,Mul64.maskN y hy,Mul64.divN,Mul64.mulN,Mul64.addN,Yi _ bd,Yi _ bb',Yi _ bt,Mul64.maskN _ bt,Yi _ bc',Yi _ bw,Yi _ ba',Yi _ bh1,Yi _ bh,Mul64.wrapM (x*y)]
 rw[hhi]
 go_ret2
 exact⟨rfl,rfl⟩


theorem awy (x y:Nat) (w:Wq):(callFunc 216 #[.int .u64 (x:Int),.int .u64 (y:Int),.int .u64 0]).run prog w =
  .ok (.value (.tuple #[.int .u64 (((x+y)%eu:Nat):Int),.int .u64 (((x+y)/eu:Nat):Int)])) w:=cbm x y 0 om w

theorem bmm {p s2 q2:Nat} (hp:p+c+z<eu*eu) (hhi:hi=p/eu) (hlo:lo=p%eu) (hs1:s1=(lo+c)%eu) (hq1:q1=(lo+c)/eu) (hh1:h1=hi+q1)
  (hs2:s2=(z+s1)%eu) (hq2:q2=(z+s1)/eu) (hr:r=h1+q2):s2=(p+c+z)%eu∧r=(p+c+z)/eu∧hi+q1<eu∧h1+q2<eu:=by
 rw[ja]at *
 omega

theorem agv {a:Nat} (h:c=a+b) (hc:c<eu):IntKind.u64.wrap ((a:Int)+(b:Int))=((c:Nat):Int):=by
 rw[Ct,h];rw[ja]at hc;omega

theorem awk (Ax Ay:Option Addr) (cx cy:Nat) (xl yl:List Nat) (n m:Nat) (w:Wq) (hx:qf w Ax cx xl n) (hy:qf w Ay cy yl m) (hk:xl.length+yl.length≤35184372088832) :
  Calls prog 192 #[.slice Ax xl.length cx,.slice Ay yl.length cy] w fun e w'=>Qn w (n*m) e w':=by
 have hmk:=Yy (xl.length+yl.length) hk
 simp only[adg]at hmk
 have hx1:=hx.Aj;have hx2:=hx.cap2;have hy1:=hy.Aj;have hy2:=hy.cap2
 go_enter func192,ntmps192
 go_wp2
 go_loopw [22] (fun iv wr => ∃ (i:Nat) (zr:List Nat),i≤xl.length∧iv = .int .i64 ((i:Nat):Int)∧Ia eu xl yl zr i∧ZB .u64 wr w.heap.size 157 zr∧Below w.heap.size w wr) (fun iv _=>xl.length-(intOf iv).toNat)
 case atStart=>exact⟨0,List.replicate (xl.length+yl.length) 0,ug _,rfl,Ia.start _ _ _ (by rw[ja];omega) mi (aah _),heap_alloc_new w _,(df _ _).alloc (gu _) _⟩
 case round =>
  obtain⟨i,zr,hi,rfl,hinv,qh,hg⟩:=hrel;obtain⟨wo,rfl⟩ : ∃ wo:Wq,wo=wr:=⟨_,rfl⟩
  have hlen:=hinv.len;have HI:=bg hinv;clear hinv
  by_cases hlt:i<xl.length
  ·
   obtain⟨bx,ox,rfl,hbx,hcx⟩:=hx.ws om;have Lj:=(hg.cell (p:=⟨bx,ox+i,none⟩) hbx).trans (hcx i hlt);clear hcx;obtain⟨xi,hxi⟩ : ∃ xi,xi=ik xl i:=⟨_,rfl⟩
   rw[← hxi]at Lj;have Cf:xi<eu:=by rw[hxi];exact jy (by rw[ja];omega) _ hx.lt i
   have HXI:=bg hxi;have HXB:=ae Cf;clear hxi Cf;go_wp2_with fail
   go_loopw [8,29] (fun cv jv wr => ∃ (j c:Nat) (zc:List Nat),j≤yl.length∧cv = .int .u64 ((c:Nat):Int)∧jv = .int .i64 ((j:Nat):Int)∧Gm eu zr yl zc i (ik xl i) j c∧ZB .u64 wr w.heap.size 157 zc∧Below w.heap.size w wr) (fun _ jv _=>yl.length-(intOf jv).toNat)
   case atStart=>exact⟨0,0,zr,ug _,rfl,rfl,Gm.start _ _ _ _ (by rw[ja];omega) HI.out.lt,qh,hg⟩
   case round =>
    obtain⟨j,c,zc,hj,rfl,rfl,ahw,hzc,hgc⟩:=hrel;have ahx:=ahw.len;have HM:=bg ahw;clear ahw
    by_cases hjl:j<yl.length
    ·
     obtain⟨by',oy,rfl,hby,hcy⟩:=hy.ws om;have hyc:=(hgc.cell (p:=⟨by',oy+j,none⟩) hby).trans (hcy j hjl);clear hcy;have alc:=hzc.cell (i+j) om;have hzf:=hzc.frozen (i+j);obtain⟨yj,hyj⟩ : ∃ yj,yj=ik yl j:=⟨_,rfl⟩
     obtain⟨z,hz⟩ : ∃ z,z=ik zc (i+j):=⟨_,rfl⟩
     rw[← hyj]at hyc;rw[← hz]at alc;have Gz:yj<eu:=by rw[hyj];exact jy (by rw[ja];omega) _ hy.lt j
     have Qz:z<eu:=by rw[hz];exact jy (by rw[ja];omega) _ HM.out.lt _
     obtain⟨hi',hhi⟩ : ∃ t,t=xi*yj/eu:=⟨_,rfl⟩
     obtain⟨lo,hlo⟩ : ∃ t,t=xi*yj%eu:=⟨_,rfl⟩
     obtain⟨s1,hs1⟩ : ∃ t,t=(lo+c)%eu:=⟨_,rfl⟩
     obtain⟨q1,hq1⟩ : ∃ t,t=(lo+c)/eu:=⟨_,rfl⟩
     obtain⟨h1,hh1⟩ : ∃ t,t=hi'+q1:=⟨_,rfl⟩
     obtain⟨s2,hs2⟩ : ∃ t,t=(z+s1)%eu:=⟨_,rfl⟩
     obtain⟨q2,hq2⟩ : ∃ t,t=(z+s1)/eu:=⟨_,rfl⟩
     obtain⟨r,hr⟩ : ∃ t,t=h1+q2:=⟨_,rfl⟩
     obtain⟨e1,e2,e3,e4⟩:=bmm (Qg (aa HXB) Gz HM.out.c1 Qz) hhi hlo hs1 hq1 hh1 hs2 hq2 hr;have ha1:=awy lo c;rw[← hs1,← hq1]at ha1;have ha2:=awy z s1;rw[← hs2,← hq2]at ha2;have hw1:=agv hh1 (by rw[hh1];exact e3);have hw2:=agv hr (by rw[hr];exact e4);have hmul:=ala xi yj (aa HXB) Gz;rw[← hhi,← hlo]at hmul;have bzd:=ae hmul;have hfin : ∀ W,W=wr.setCell ⟨w.heap.size,i+j,none⟩ (.int .u64 (s2:Int))→Gm eu zr yl (zc.set (i+j) s2) i (ik xl i) (j+1) r∧ZB .u64 W w.heap.size 157 (zc.set (i+j) s2)∧Below w.heap.size w W:=by
      rintro W rfl;refine⟨?_,hzc.Jr _ _,hgc.setCell mi _⟩
      have:=HM.out.step zg (by rw[← HXI.out];exact aa HXB) hy.lt om;rw[e1,e2,HXI.out,hyj,hz];exact this
     have HF:=ae hfin;clear hfin hmul hhi hlo hs1 hq1 hh1 hs2 hq2 hr e1 e2 e3 e4 hyj hz Gz Qz hzc hgc qh hg hlen ahx;go_wp2_with fail;refine((aa bzd) _).mono ?_
     rintro e w' ⟨rfl,rfl⟩;go_wp2_with fail
     go_roundw
     case rel =>
      obtain⟨r1,r2,r3⟩:=(aa HF) _ rfl;exact⟨j+1,r,zc.set (i+j) s2,by omega,rfl,by go_num,r1,r2,r3⟩
     case measure=>simp[intOf];omega
    ·
     have e:j=yl.length:=by omega
     subst e;have alc:=hzc.cell (i+yl.length) om;have hzf:=hzc.frozen (i+yl.length);have hrow:=HI.out.step hlt HM.out;have HR:=bg hrow;clear hrow;have hfin : ∀ W,W=wr.setCell ⟨w.heap.size,i+yl.length,none⟩ (.int .u64 (c:Int))→ZB .u64 W w.heap.size 157 (zc.set (i+yl.length) c)∧Below w.heap.size w W:=by
      rintro W rfl;exact⟨hzc.Jr _ _,hgc.setCell mi _⟩
     have HF:=ae hfin;clear hfin hzc hgc qh hg hlen ahx;go_wp2_with fail
     go_roundw
     case rel =>
      obtain⟨r2,r3⟩:=(aa HF) _ rfl;exact⟨i+1,zc.set (i+yl.length) c,by omega,by go_num,HR.out,r2,r3⟩
     case measure=>simp[intOf];omega
  ·
   have e:i=xl.length:=by omega
   subst e;have hlt2:=HI.out.lt;have hv:=HI.out.done;rw[hx.val,hy.val]at hv;have HV:=bg hv;have qp:=ae hlt2;clear hv hlt2;go_wp2_with fail;have htr:=Nc (some ⟨w.heap.size,0,none⟩) zr.length zr (wo.heap.size) wo (qh.Mk _ qh.lt) (gu _) om;rw[hlen]at htr;refine htr.mono ?_
   rintro e w' ⟨⟨k,rfl,ht,hk2⟩,rfl⟩;go_wp2_with fail
   go_ret
   have hk3:k=(zr.take k).length:=by simp;omega
   refine⟨some ⟨w.heap.size,0,none⟩,xl.length+yl.length,zr.take k,Mm hk3,?_,hg⟩
   have:=qf.Ij (cap:=xl.length+yl.length) qh (aa qp) ht om om om;rwa[HV.out]at this

theorem bbx (hx:x<eu) (hy:y<eu) (hb:b≤1) (hd:d=(x+eu-y-b)%eu) (hc:c=if x<y+b then 1 else 0) :
  d<eu∧c≤1∧d+y+b=x+eu*c:=by
 rw[ja]at *
 split at hc<;>subst hc<;>omega

theorem ang (Ax Ay:Option Addr) (cx cy:Nat) (xl yl:List Nat) (n m:Nat) (w:Wq) (hx:qf w Ax cx xl n) (hy:qf w Ay cy yl m) (hle:m≤n) (hk:xl.length≤35184372088832) :
  Calls prog 203 #[.slice Ax xl.length cx,.slice Ay yl.length cy] w fun e w'=>Qn w (n-m) e w':=by
 have hmk:=Yy xl.length hk
 have hyx:yl.length≤xl.length:=by
  apply aag
  intro h;have:=Bh zg xl yl hx.lt hy.norm om;rw[hx.val,hy.val]at this;omega
 go_enter func203,ntmps203
 go_wp2
 go_loopw [6,13] (fun bv iv wr => ∃ (i c:Nat) (zc:List Nat),i≤xl.length∧bv = .int .u64 ((c:Nat):Int)∧iv = .int .i64 ((i:Nat):Int)∧Gl eu xl yl zc i c∧ZB .u64 wr w.heap.size 157 zc∧Below w.heap.size w wr) (fun _ iv _=>xl.length-(intOf iv).toNat)
 case atStart=>exact⟨0,0,List.replicate xl.length 0,ug _,rfl,rfl,Gl.start _ _ _ mi (Wu (by rw[ja];omega) _),heap_alloc_new w _,(df _ _).alloc (gu _) _⟩
 case round =>
  obtain⟨i,c,zc,hi,rfl,rfl,hinv,qh,hg⟩:=hrel;have hlen:=hinv.len;have hc1:=hinv.b1;have HI:=bg hinv;clear hinv
  by_cases hlt:i<xl.length
  ·
   obtain⟨bx,ox,rfl,hbx,hcx⟩:=hx.ws om;have Lj:=(hg.cell (p:=⟨bx,ox+i,none⟩) hbx).trans (hcx i hlt);clear hcx;have hzc:=qh.cell i om;have hzf:=qh.frozen i;have hyr:qf wr Ay cy yl m:=hy.below hg;have crz:=hx.cap2;have csa:=hx.Aj;obtain⟨xi,hxi⟩ : ∃ xi,xi=ik xl i:=⟨_,rfl⟩
   obtain⟨yi,hyi⟩ : ∃ yi,yi=ik yl i:=⟨_,rfl⟩
   obtain⟨d,hd⟩ : ∃ d,d=(xi+eu-yi-c)%eu:=⟨_,rfl⟩
   obtain⟨q,hq⟩ : ∃ q,q=if xi<yi+c then 1 else 0:=⟨_,rfl⟩
   have hsub:=bzu xi yi c hc1;rw[← hxi]at Lj;rw[← hd,← hq]at hsub;have hfin : ∀ W,W=wr.drew.setCell ⟨w.heap.size,i,none⟩ (.int .u64 (d:Int))→Gl eu xl yl (zc.set i d) (i+1) q∧ZB .u64 W w.heap.size 157 (zc.set i d)∧Below w.heap.size w W:=by
    rintro W rfl;obtain⟨e1,e2,e3⟩:=bbx (by rw[hxi];exact jy (by rw[ja];omega) _ hx.lt i) (by rw[hyi];exact jy (by rw[ja];omega) _ hy.lt i) hc1 hd hq;rw[hxi,hyi]at e3;exact⟨HI.out.step hlt e1 e2 e3,(qh.drew).Jr _ _,hg.drew.setCell mi _⟩
   have HF:=ae hfin;have HYI:=bg hyi;clear hfin qh hg hd hq hxi hyi;go_wp2_with fail
   go_region_with (go_at_call 214;refine(Xd Ay cy yl wr.heap.size i _ (by exact hyr.ws) hyr.Aj hyr.cap2 om).mono ?_;rintro e w' ⟨rfl,rfl⟩;rw[← HYI.out])
   all_goals
    go_wp2
    go_roundw
    case rel =>
     obtain⟨r1,r2,r3⟩:=(aa HF) _ rfl;exact⟨i+1,q,zc.set i d,by omega,rfl,by go_num,r1,r2,r3⟩
    case measure=>simp[intOf];omega
  ·
   have e:i=xl.length:=by omega
   subst e;have hlt2:=HI.out.lt;have hv:=HI.out.ces hyx (by rw[hx.val,hy.val];exact hle);rw[hx.val,hy.val]at hv;have HV:=bg hv;have qp:=ae hlt2;clear hv hlt2;have crz:=hx.cap2;have csa:=hx.Aj;go_wp2_with fail;have htr:=Nc (some ⟨w.heap.size,0,none⟩) zc.length zc (wr.heap.size) wr (qh.Mk _ qh.lt) (gu _) om;rw[hlen]at htr;refine htr.mono ?_
   rintro e w' ⟨⟨k,rfl,ht,hk2⟩,rfl⟩;go_wp2_with fail
   go_ret
   have hk3:k=(zc.take k).length:=by simp;omega
   refine⟨some ⟨w.heap.size,0,none⟩,xl.length,zc.take k,Mm hk3,?_,hg⟩
   have:=qf.Ij (cap:=xl.length) qh (aa qp) ht om om om;rwa[HV.out]at this

theorem bil (x y:Nat) (w:Wq):(callFunc 231 #[.int .u64 (x:Int),.int .u64 (y:Int),.int .u64 0]).run prog w =
  .ok (.value (.tuple #[.int .u64 (((x+eu-y-0)%eu:Nat):Int),.int .u64 ((if x<y+0 then 1 else 0:Nat):Int)])) w:=bzu x y 0 om w

theorem bpo {p:Nat} (hp:p+c<eu*eu) (hz:z<eu) (hhi:hi=p/eu) (hlo:lo=p%eu) (hs1:s1=(lo+c)%eu) (hq1:q1=(lo+c)/eu) (hh1:h1=hi+q1)
  (hd:d=(z+eu-s1-0)%eu) (hb:b=if z<s1+0 then 1 else 0) (hr:r=h1+b) (hpb:p≤(eu-1)*(eu-1)) (hc:c<eu) :
  d<eu∧hi+q1<eu∧h1+b<eu∧p+c=h1*eu+s1∧d+s1=z+eu*b:=by
 rw[ja]at *
 split at hb<;>subst hb<;>omega

theorem cdz {a:Nat} (ha:a<B) (hb:b<B):a*b≤(B-1)*(B-1):=abn om om

theorem avv (b off cap T:Nat) (us ul vl:List Nat) (Av:Option Addr) (cv:Nat) (B:Nat) (k:Nat) (w:Wq)
  (hz:ZB .u64 w b T us) (hoff:off+ul.length≤us.length) (Zf:ul=(us.drop off).take ul.length) (hcz:ul.length≤cap) (beo:cap≤9223372036854775807)
  (hv:Ws .u64 w B Av vl) (hB:B≤b) (hcv:vl.length≤cv) (bng:cv≤9223372036854775807) (huv:ul.length=vl.length+1)
  (hlu : ∀ x∈ul,x<eu) (hlv : ∀ x∈vl,x<eu) (hkB:k<eu) :
  Calls prog 247 #[.slice (some ⟨b,off,none⟩) ul.length cap,.slice Av vl.length cv,.int .u64 ((k:Nat):Int)] w fun e w' =>
   ∃ zr c,e = .returned (.bool (decide (c=1)))∧zr.length=ul.length∧(∀ x∈zr,x<eu)∧bf eu zr+k*bf eu vl=bf eu ul+eu^ul.length*c∧c≤1∧ZB .u64 w' b T (win us off zr)∧w.grownBy w' (some b):=by
 have HUL:=bg Zf
 have Wi:=bg huv
 have cyv:vl.length<ul.length:=by omega
 clear Zf huv
 go_enter func247,ntmps247
 go_wp2
 go_loopw [7,16] (fun cv iv wr => ∃ (i c:Nat) (zc:List Nat),i≤vl.length∧cv = .int .u64 ((c:Nat):Int)∧iv = .int .i64 ((i:Nat):Int)∧Hid (Eo eu ul vl zc k i c)∧ZB .u64 wr b T (win us off zc)∧w.grownBy wr (some b)) (fun _ iv _=>vl.length-(intOf iv).toNat)
 case atStart=>exact⟨0,0,ul,ug _,rfl,rfl,Eo.start _ _ _ (by rw[ja];omega) hlu,by rw[HUL.out,Ww _ _ _ hoff];exact hz,wy _ _⟩
 case round =>
  obtain⟨i,c,zc,hi,rfl,rfl,HI,qh,hg⟩:=hrel;have hlen:=HI.out.len;have hwl:=win_length us off zc om;have hBw:=hz.lt
  by_cases hlt:i<vl.length
  ·
   obtain⟨bv,ov,hA,hbv,cjm⟩:=(hv.grown hg (xy hB (Lt hBw)) (fun g e=>by injection e with e;omega)) om;subst hA;have hvc:=cjm i hlt;clear cjm;have hzc:=qh.cell (off+i) om;rw[Xt us off zc om i om]at hzc;have hzf:=qh.frozen (off+i);obtain⟨vi,hvi⟩ : ∃ t,t=ik vl i:=⟨_,rfl⟩
   obtain⟨z,hz2⟩ : ∃ t,t=ik zc i:=⟨_,rfl⟩
   rw[← hvi]at hvc;rw[← hz2]at hzc;have hvB:vi<eu:=by rw[hvi];exact jy (by rw[ja];omega) _ hlv i
   have Qz:z<eu:=by rw[hz2];exact jy (by rw[ja];omega) _ HI.out.lt _
   obtain⟨hi',hhi⟩ : ∃ t,t=k*vi/eu:=⟨_,rfl⟩
   obtain⟨lo,hlo⟩ : ∃ t,t=k*vi%eu:=⟨_,rfl⟩
   obtain⟨s1,hs1⟩ : ∃ t,t=(lo+c)%eu:=⟨_,rfl⟩
   obtain⟨q1,hq1⟩ : ∃ t,t=(lo+c)/eu:=⟨_,rfl⟩
   obtain⟨h1,hh1⟩ : ∃ t,t=hi'+q1:=⟨_,rfl⟩
   obtain⟨d,hd⟩ : ∃ t,t=(z+eu-s1-0)%eu:=⟨_,rfl⟩
   obtain⟨b2,hb2⟩ : ∃ t,t=if z<s1+0 then 1 else 0:=⟨_,rfl⟩
   obtain⟨r,hr⟩ : ∃ t,t=h1+b2:=⟨_,rfl⟩
   have hpl:=cdz hkB hvB;obtain⟨e0,e1,e2,e3,e4⟩:=bpo (by have:=Qg hkB hvB HI.out.c1 Qz;omega) Qz hhi hlo hs1 hq1 hh1 hd hb2 hr hpl HI.out.c1;have ha1:=awy lo c;rw[← hs1,← hq1]at ha1;have ha2:=bil z s1;rw[← hd,← hb2]at ha2;have hw1:=agv hh1 (by rw[hh1];exact e1);have hw2:=agv hr (by rw[hr];exact e2);have hmul:=ala k vi hkB hvB;rw[← hhi,← hlo]at hmul;have bzd:=ae hmul;have hfin : ∀ W,W=wr.setCell ⟨b,off+i,none⟩ (.int .u64 (d:Int))→Hid (Eo eu ul vl (zc.set i d) k (i+1) r)∧ZB .u64 W b T (win us off (zc.set i d))∧w.grownBy W (some b):=by
    rintro W rfl;refine⟨?_,?_,qy hg _ _⟩
    ·
     rw[hr];refine HI.out.step (lo:=s1) om e0 e2 ?_ ?_
     ·
      rw[← pg,← hvi];exact e3
     ·
      rw[← pg,← hz2];exact e4
    ·
     rw[← Qs us off zc om i d om];exact qh.Jr _ _
   have HF:=ae hfin;clear hfin hmul hhi hlo hs1 hq1 hh1 hd hb2 hr e0 e1 e2 e3 e4 hvi hz2 hvB Qz qh hg hz hpl;go_wp2_with fail;refine((aa bzd) _).mono ?_
   rintro e w' ⟨rfl,rfl⟩;go_wp2_with fail
   go_roundw
   case rel =>
    obtain⟨r1,r2,r3⟩:=(aa HF) _ rfl;exact⟨i+1,r,zc.set i d,by omega,rfl,by go_num,r1,r2,r3⟩
   case measure=>simp[intOf]<;>omega
  ·
   have e:i=vl.length:=by omega
   subst e;have hzc:=qh.cell (off+vl.length) om;rw[Xt us off zc om vl.length om]at hzc;have hzf:=qh.frozen (off+vl.length);obtain⟨z,hz2⟩ : ∃ t,t=ik zc vl.length:=⟨_,rfl⟩
   rw[← hz2]at hzc;have Qz:z<eu:=by rw[hz2];exact jy (by rw[ja];omega) _ HI.out.lt _
   obtain⟨d,hd⟩ : ∃ t,t=(z+eu-c-0)%eu:=⟨_,rfl⟩
   obtain⟨b2,hb2⟩ : ∃ t,t=if z<c+0 then 1 else 0:=⟨_,rfl⟩
   have ha2:=bil z c;rw[← hd,← hb2]at ha2;obtain⟨e0,e1,e2⟩:=bbx Qz HI.out.c1 (ug 1) hd hb2;have hfin : ∀ W,W=wr.setCell ⟨b,off+vl.length,none⟩ (.int .u64 (d:Int))→(zc.set vl.length d).length=ul.length∧(∀ x∈zc.set vl.length d,x<eu)∧bf eu (zc.set vl.length d)+k*bf eu vl=bf eu ul+eu^ul.length*b2∧b2≤1∧ZB .u64 W b T (win us off (zc.set vl.length d))∧w.grownBy W (some b):=by
    rintro W rfl;refine⟨by simp[hlen],Bl _ _ _ HI.out.lt e0,HI.out.done Wi.out (by rw[← pg,← hz2];omega),e1,?_,qy hg _ _⟩
    rw[← Qs us off zc om _ d om];exact qh.Jr _ _
   have HF:=ae hfin;have hne:((b2:Int) != 0)=decide (b2=1):=by
    have:b2=0∨b2=1:=by omega
    rcases this with h|h<;>rw[h]<;>rfl
   clear hfin hd hb2 e0 e1 e2 hz2 Qz qh hg hz;have cyw:(ul.length:Int)-1=(vl.length:Int):=by have:=Wi.out;omega
   go_wp2_with fail
   go_ret
   exact⟨_,b2,rfl,(aa HF) _ rfl⟩
end Go.Proofs.YtfgeaakhlcaibaaGreatDoor
