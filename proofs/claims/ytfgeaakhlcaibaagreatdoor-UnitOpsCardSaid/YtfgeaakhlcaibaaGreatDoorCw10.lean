/- Texts beneath a law of layer 1. -/
import Derived.Test.YtfgeaakhlcaibaaGreatDoorCw9
set_option maxRecDepth 100000
set_option maxHeartbeats 16000000
namespace Go.Proofs.YtfgeaakhlcaibaaGreatDoor
namespace Rg

def slB (l : List Oper) (n : Nat) (sl : Nat → Tmp) : Bool := (List.range n).all fun k => (jl l k).isSome || (List.range n).any fun j => waits l k j (sl k)
def aai (P : Program) (Q : Exit → Act → World → Prop) (l : List Oper) (n : Nat) (sl : Nat → Tmp) (T : Nat → World → Value → Prop) (G : World → Prop) (E : World → World → Prop) (a0 : Act) (k : Nat) (o : Oper) : Prop :=
 o.guard = none ∧ ∀ (a : Act) (w : World), G w → (∀ t, Ev l n t = true → a.tmps.getD t undef = a0.tmps.getD t undef) → (∀ j d, waits l k j d = true → T j w (a.tmps.getD d undef)) →
  o.wp P a w (fun a' w' => ∃ v, a' = a.put o.dst v ∧ G w' ∧ E w w' ∧ T k w' v ∧ (o.dst = none → v = a.tmps.getD (sl k) undef)) Q
def Ky (P : Program) (Q : Exit → Act → World → Prop) (l : List Oper) (n : Nat) (sl : Nat → Tmp) (T : Nat → World → Value → Prop) (G : World → Prop) (E : World → World → Prop) (a0 : Act) : Nat → List Oper → Prop
 | _, [] => True
 | k, o :: r => aai P Q l n sl T G E a0 k o ∧ Ky P Q l n sl T G E a0 (k + 1) r
section
variable {P : Program} {Q : Exit → Act → World → Prop} {l : List Oper} {n sz : Nat} {sl : Nat → Tmp} {T : Nat → World → Value → Prop} {G : World → Prop} {E : World → World → Prop} {a0 : Act}
theorem yf {k : Nat} {o : Oper} {r : List Oper} (h : aai P Q l n sl T G E a0 k o) (hr : Ky P Q l n sl T G E a0 (k + 1) r) : Ky P Q l n sl T G E a0 k (o :: r) := ⟨h, hr⟩
theorem alc {k : Nat} : Ky P Q l n sl T G E a0 k [] := trivial
theorem Cv {k : Nat} {o : Oper} (hg : o.guard = none) (hd : o.dst.isSome = true) (h : Step P Q l n T G E [] a0 k o) : aai P Q l n sl T G E a0 k o :=
 ⟨hg, fun a w hG hO hN => Oper.wp_mono (fun a' w' hK => by
  obtain ⟨v, h1, h2, h3, h4, _⟩ := hK
  exact ⟨v, h1, h2, h3, h4, fun e => by rw [e] at hd; cases hd⟩) (h a w hG hO hN)⟩
theorem Ky.get : ∀ {r : List Oper} {k : Nat}, Ky P Q l n sl T G E a0 k r → ∀ {i : Nat} {o : Oper}, r[i]? = some o → aai P Q l n sl T G E a0 (k + i) o
 | [], _, _, i, o, h => by simp at h
 | o' :: r, k, hs, 0, o, h => by
  have : o' = o := by simpa using h
  subst this; exact hs.1
 | o' :: r, k, hs, i + 1, o, h => by
  have := Ky.get hs.2 (i := i) (o := o) (by simpa using h)
  rwa [show k + 1 + i = k + (i + 1) by omega] at this
structure TG (l : List Oper) (n : Nat) (sl : Nat → Tmp) (T : Nat → World → Value → Prop) (G : World → Prop) (a0 : Act) (S : Nat → Prop) (a : Act) (w : World) : Prop where
 defers : a.defers = a0.defers
 size : a.tmps.size = a0.tmps.size
 old : ∀ t, Ev l n t = true → a.tmps.getD t undef = a0.tmps.getD t undef
 new : ∀ k d, k < n → S k → jl l k = some d → T k w (a.tmps.getD d undef)
 nod : ∀ k, k < n → S k → jl l k = none → T k w (a.tmps.getD (sl k) undef)
 cl : ∀ k j d, k < n → S k → waits l k j d = true → S j
 good : G w
theorem TG.finish {a : Act} {w : World} (hsz : a0.tmps.size = sz) (hds : ∀ i j d, i < n → j < n → jl l i = some d → jl l j = some d → d < sz ∧ j = i)
  {S : Nat → Prop} (hall : ∀ k, k < n → S k) (inv : TG l n sl T G a0 S a w) : ∃ v : Nat → Value, a = puts v 0 (l.take n) a0 ∧ (∀ k, k < n → T k w (v k)) ∧ ∀ k j, k < n → j < n → jl l k = none → jl l j = some (sl k) → v k = v j := by
 have hv : ∃ v : Nat → Value, (∀ k d, jl l k = some d → v k = a.tmps.getD d undef) ∧ ∀ k, jl l k = none → v k = a.tmps.getD (sl k) undef :=
  ⟨fun k => match jl l k with | some d => a.tmps.getD d undef | none => a.tmps.getD (sl k) undef, fun k d h => by simp only [h], fun k h => by simp only [h]⟩
 obtain ⟨v, hv1, hv2⟩ := hv
 refine ⟨v, ?_, fun k hk => ?_, fun k j hk hj h1 h2 => by rw [hv2 k h1, hv1 j _ h2]⟩
 rotate_left
 ·
  cases hd : jl l k with
  | none => rw [hv2 k hd]; exact inv.nod k hk (hall k hk) hd
  | some d => rw [hv1 k d hd]; exact inv.new k d hk (hall k hk) hd
 refine abt (by rw [inv.defers, Jw]) (by rw [inv.size, Nw]) (fun t => ?_)
 by_cases ht : ∃ k, k < n ∧ jl l k = some t
 ·
  obtain ⟨k, hk, hkt⟩ := ht
  have hdt : ∀ j, jl (l.take n) j = some t → j = k := fun j hj => (hds k j t hk (Dz hj).1 hkt (Dz hj).2).2
  rw [Rf v t (l.take n) 0 k a0 (by unfold jl at hkt ⊢; rwa [List.getElem?_take_of_lt hk]) hdt (by rw [hsz]; exact (hds k k t hk hk hkt hkt).1), Nat.zero_add]
  exact (hv1 k t hkt).symm
 ·
  have hf : Ev l n t = true := List.all_eq_true.2 (fun o ho => by
   obtain ⟨k, hk⟩ := List.getElem?_of_mem ho
   have hkn : k < n := by
    rcases Nat.lt_or_ge k n with h | h
    ·
     exact h
    ·
     rw [List.getElem?_eq_none (by simp; omega)] at hk; cases hk
   rw [List.getElem?_take_of_lt hkn] at hk
   simp only [bne_iff_ne]
   intro h
   exact ht ⟨k, hkn, by unfold jl; rw [hk]; exact h⟩)
  rw [inv.old t hf, Mo v t (l.take n) 0 a0 (fun j hj => ht ⟨j, Dz hj⟩)]
theorem TG.step {a : Act} {w w2 : World} {S : Nat → Prop} {i : Nat} {o : Oper} {v : Value} (hsz : a0.tmps.size = sz) (hds : ∀ i j d, i < n → j < n → jl l i = some d → jl l j = some d → d < sz ∧ j = i)
  (hsl : ∀ k, k < n → jl l k = none → ∃ j, j < n ∧ waits l k j (sl k) = true) (hT : ∀ k w w' v, E w w' → T k w v → T k w' v) (inv : TG l n sl T G a0 S a w) (hin : i < n) (ho : l[i]? = some o) (Kr : ¬ S i) (hwt : ∀ j d, waits l i j d = true → S j) (hG : G w2) (hE : E w w2) (Gr : T i w2 v) (hno : o.dst = none → v = a.tmps.getD (sl i) undef) :
  TG l n sl T G a0 (fun k => k = i ∨ S k) (a.put o.dst v) w2 := by
 have hdi : jl l i = o.dst := by unfold jl; rw [ho]; rfl
 refine ⟨by rw [put_defers]; exact inv.defers, by rw [Rh]; exact inv.size, fun t ht => ?_, fun k d hk hl hd => ?_, fun k hk hl hd => ?_, fun k j d hk hl hw => ?_, hG⟩
 ·
  rw [Gg _ _ _ _ (agz ht hin ho)]; exact inv.old t ht
 ·
  by_cases hki : k = i
  ·
   subst hki
   rw [hdi] at hd
   rw [hd, Po _ _ _ (by rw [inv.size, hsz]; exact (hds k k d hk hk (by rw [hdi]; exact hd) (by rw [hdi]; exact hd)).1)]
   exact Gr
  ·
   rw [Gg _ _ _ _ (fun h => hki ((hds i k d hin hk (by rw [hdi]; exact h) hd).2))]
   exact hT k w w2 _ hE (inv.new k d hk (hl.resolve_left hki) hd)
 ·
  by_cases hki : k = i
  ·
   subst hki
   have hon : o.dst = none := by rw [← hdi]; exact hd
   rw [hon, show (a.put none v) = a from rfl, ← hno hon]
   exact Gr
  ·
   have hSk := hl.resolve_left hki
   obtain ⟨j, hj, hw⟩ := hsl k hk hd
   have hSj := inv.cl k j _ hk hSk hw
   have hji : j ≠ i := fun e => Kr (e ▸ hSj)
   rw [Gg _ _ _ _ (fun h => hji ((hds i j _ hin hj (by rw [hdi]; exact h) (Dr hw)).2))]
   exact hT k w w2 _ hE (inv.nod k hk hSk hd)
 ·
  by_cases hki : k = i
  ·
   subst hki; exact .inr (hwt j d hw)
  ·
   exact .inr (inv.cl k j d hk (hl.resolve_left hki) hw)
theorem TG.mono {a : Act} {w : World} {S S' : Nat → Prop} (inv : TG l n sl T G a0 S a w) (h : ∀ k, k < n → (S' k ↔ S k)) (hb : ∀ k j d, k < n → waits l k j d = true → j < n) : TG l n sl T G a0 S' a w :=
 ⟨inv.defers, inv.size, inv.old, fun k d hk hs hd => inv.new k d hk ((h k hk).1 hs) hd, fun k hk hs hd => inv.nod k hk ((h k hk).1 hs) hd, fun k j d hk hs hw => (h j (hb k j d hk hw)).2 (inv.cl k j d hk ((h k hk).1 hs) hw), inv.good⟩
end
theorem azp {P : Program} {id : Nat} {Q : Exit → Act → World → Prop} {a : Act} {w : World} {l : List Oper} (n sz : Nat) (sl : Nat → Tmp) (T : Nat → World → Value → Prop) (G : World → Prop) (E : World → World → Prop)
  (hm : P.follows .mixedOrders = true) (hB : okB l n sz = true) (hS1 : slB l n sl = true) (hsz : a.tmps.size = sz)
  (hT : ∀ k w w' v, E w w' → T k w v → T k w' v) (hG : G w.drew)
  (hS : Ky P Q l n sl T G E a 0 (l.take n))
  (hend : ∀ (v : Nat → Value) (w' : World), G w' → (∀ k, k < n → T k w' (v k)) → (∀ k j, k < n → j < n → jl l k = none → jl l j = some (sl k) → v k = v j) → wpList P l.toArray Q (l.drop n) (puts v 0 (l.take n) a) w') :
  (Code.region id l.toArray true).wp P Q a w := by
 simp only [okB, Bool.and_eq_true, Bool.or_eq_true, decide_eq_true_eq] at hB
 obtain ⟨⟨⟨⟨hn, Zo⟩, hback⟩, Lu⟩, hseq⟩ := hB
 have hget : ∀ k, k < n → ∃ o, l[k]? = some o := fun k hk => ⟨l[k]'(by omega), List.getElem?_eq_getElem om⟩
 have hbk := Md hback
 have hds := Ma Lu
 have hsl : ∀ k, k < n → jl l k = none → ∃ j, j < n ∧ waits l k j (sl k) = true := fun k hk hd => by
  have h1 := List.all_eq_true.1 hS1 k (List.mem_range.2 hk)
  simp only [hd, Option.isSome_none, Bool.false_or, List.any_eq_true, List.mem_range] at h1
  exact h1
 have hwb : ∀ k j d, k < n → waits l k j d = true → j < n := fun k j d hk hw => by
  simp only [waits, Bool.and_eq_true, beq_iff_eq] at hw
  obtain ⟨oj, hoj, e, he, hb, hon⟩ := Region.waitsFor_spec hw.1
  have := hbk k oj hk (by simpa using hoj) e he hb
  omega
 refine wp_region_any hm ?_
 have key : ∀ (f : Nat) (L : Array Bool) (a' : Act) (w' : World), HeadInv .any l.toArray n L → TG l n sl T G a (fun k => L.getD k false = true) a' w' → cnt L n = f → wpAny P .any l.toArray Q (f + (l.length - n)) L a' w' := by
  intro f
  induction f with
  | zero =>
   intro L a' w' head inv hc
   have hall := Nh hc
   have hL : L = full n (l.length - n) := by
    have hs := head.size
    refine Array.ext (by simp [full, hs]; omega) (fun i h1 h2 => ?_)
    by_cases hi : i < n
    ·
     have g := hall i hi
     simp [h1] at g
     simp [full, hi, g]
    ·
     have g := head.tail i om (by rw [← hs]; exact h1)
     simp [h1] at g
     simp [full, Array.getElem_append, hi, g]
   obtain ⟨v, he, hv, Fq⟩ := inv.finish hsz hds (fun k hk => by rw [hL]; simp [full, Array.getElem?_append, hk])
   rw [he, Nat.zero_add]
   have hlen : (l.drop n).length = l.length - n := by simp
   rw [← hlen]
   exact wpAny_of_seq (md := .any) (ops := l.toArray) (Q' := Q) (l.drop n) n L _ w' (fun j => by simp [List.getElem?_drop]) (by rw [hlen, hL]; exact hseq)
    (hend v w' inv.good hv Fq)
  | succ f ih =>
   intro L a' w' head inv hc
   obtain ⟨i0, hi0, Ui, hle0⟩ := Vm (L := L) (m := n) om
   have Wn : L.size = l.length := by rw [head.size]; simp
   rw [show f + 1 + (l.length - n) = (f + (l.length - n)) + 1 by omega]
   refine ⟨fun hr => ?_, fun i hi => ?_⟩
   ·
    exfalso
    obtain ⟨o, ho⟩ := hget i0 hi0
    have : i0 ∈ Region.ready .any l.toArray L := mem_ready.2 ⟨Ui, o, by simpa using ho, fun e he hb => by
     have hlt := hbk i0 o hi0 ho e he hb
     have h1 := hle0 e.on hlt
     simp [show e.on < L.size by rw [Wn]; omega] at h1
     simp [show e.on < L.size by rw [Wn]; omega, h1]⟩
    rw [hr] at this; cases this
   ·
    obtain ⟨hun, o, ho, Zm⟩ := mem_ready.1 hi
    have ho' : l[i]? = some o := by simpa using ho
    have hil : i < l.length := by
     have := (Array.getElem?_eq_some_iff.1 ho).1
     simpa using this
    have hin : i < n := by
     rcases Nat.lt_or_ge i n with h | h
     ·
      exact h
     ·
      exfalso
      rcases Zo with he | ⟨hs, hch⟩
      ·
       omega
      ·
       exact tail_waits hs hch (by simp only [List.size_toArray]; omega) head _ i0 rfl hi0 Ui i h hi
    have hst := hS.get (i := i) (o := o) (by rw [List.getElem?_take_of_lt hin]; exact ho')
    rw [Nat.zero_add] at hst
    have hdone : ∀ j d, waits l i j d = true → L.getD j false = true := fun j d hjd => by
     simp only [waits, Bool.and_eq_true, beq_iff_eq] at hjd
     obtain ⟨oj, hoj, e, he, hb, hon⟩ := Region.waitsFor_spec hjd.1
     have : oj = o := Option.some.inj (hoj.symm.trans ho)
     subst this
     have hlj := Zm e he hb
     rwa [hon] at hlj
    have hw := hst.2 a' w' inv.good inv.old (fun j d hjd => inv.new j d (hwb i j d hin hjd) (hdone j d hjd) (Dr hjd))
    have Kr : ¬ L.getD i false = true := fun h => by rw [getD_both hun] at h; cases h
    have go : ∀ v w2, G w2 → E w' w2 → T i w2 v → (o.dst = none → v = a'.tmps.getD (sl i) undef) → wpAny P .any l.toArray Q (f + (l.length - n)) (L.setIfInBounds i true) (a'.put o.dst v) w2 := by
     intro v w2 hg2 hE Gr hno
     refine ih (L.setIfInBounds i true) _ w2 (head.set hi hin) ((inv.step hsz hds hsl hT hin ho' Kr hdone hg2 hE Gr hno).mono (fun k hk => ?_) hwb) (by have := Vk hun (m := n) hin; omega)
     by_cases hki : k = i
     ·
      subst hki
      exact ⟨fun _ => .inl rfl, fun _ => by simp [show k < L.size by rw [Wn]; omega]⟩
     ·
      rw [getD_set_ne false (Ne.symm hki)]
      exact ⟨fun h => .inr h, fun h => h.resolve_left hki⟩
    unfold wpOp
    simp only [ho]
    split
    ·
     refine .inl (Oper.wp_mono (fun a2 w2 hK => ?_) hw)
     obtain ⟨v, rfl, hg2, hE, Gr, hno⟩ := hK
     exact go v w2 hg2 hE Gr hno
    ·
     rename_i hwd
     exact absurd (by simp [Region.wanted, hst.1]) hwd
 have h0 := key n (Array.replicate l.length false) a w.drew
  ⟨by simp, fun j oj _ hl => (by rw [getD_replicate_false] at hl; cases hl), fun t _ ht => getD_in (by simpa using ht) (getD_replicate_false _ _)⟩
  ⟨rfl, rfl, fun _ _ => rfl, fun k d _ hs _ => (by rw [getD_replicate_false] at hs; cases hs), fun k _ hs _ => (by rw [getD_replicate_false] at hs; cases hs), fun k j d _ hs _ => (by rw [getD_replicate_false] at hs; cases hs), hG⟩ (Vl _ hn)
 rw [show n + (l.length - n) = l.length by omega] at h0
 have hsz2 : l.toArray.size = l.length := by simp
 rw [hsz2]
 exact h0
end Rg
namespace Rg

def uv (l : List Oper) (sl : Nat → Tmp) (a : Act) (k : Nat) : Value := match jl l k with | some d => a.tmps.getD d undef | none => a.tmps.getD (sl k) undef
theorem Ve {l : List Oper} {sl : Nat → Tmp} {a : Act} {k : Nat} {d : Tmp} (h : jl l k = some d) : uv l sl a k = a.tmps.getD d undef := by unfold uv; rw [h]
def Ov (P : Program) (Q : Exit → Act → World → Prop) (l : List Oper) (n : Nat) (sl : Nat → Tmp) (T : Nat → World → Value → Prop) (G : World → Prop) (E : World → World → Prop) (J : (Nat → Prop) → (Nat → Value) → World → Prop) (a0 : Act) (k : Nat) (o : Oper) : Prop :=
 o.guard = none ∧ ∀ (a : Act) (w : World), G w → (∀ t, Ev l n t = true → a.tmps.getD t undef = a0.tmps.getD t undef) → (∀ j d, waits l k j d = true → T j w (a.tmps.getD d undef)) → (∃ S u, J S u w ∧ ¬ S k ∧ ∀ j d, waits l k j d = true → S j ∧ u j = a.tmps.getD d undef) →
  o.wp P a w (fun a' w' => ∃ v, a' = a.put o.dst v ∧ G w' ∧ E w w' ∧ T k w' v ∧ (o.dst = none → v = a.tmps.getD (sl k) undef) ∧
   (∀ S u u', J S u w → (∀ j, j < n → S j → u' j = u j) → (o.dst ≠ none → u' k = v) → ¬ S k → (∀ j d, waits l k j d = true → S j ∧ u j = a.tmps.getD d undef) → J (fun j => j = k ∨ S j) u' w')) Q
def Kw (P : Program) (Q : Exit → Act → World → Prop) (l : List Oper) (n : Nat) (sl : Nat → Tmp) (T : Nat → World → Value → Prop) (G : World → Prop) (E : World → World → Prop) (J : (Nat → Prop) → (Nat → Value) → World → Prop) (a0 : Act) : Nat → List Oper → Prop
 | _, [] => True
 | k, o :: r => Ov P Q l n sl T G E J a0 k o ∧ Kw P Q l n sl T G E J a0 (k + 1) r
section
variable {P : Program} {Q : Exit → Act → World → Prop} {l : List Oper} {n sz : Nat} {sl : Nat → Tmp} {T : Nat → World → Value → Prop} {G : World → Prop} {E : World → World → Prop} {J : (Nat → Prop) → (Nat → Value) → World → Prop} {a0 : Act}
theorem ko {k : Nat} {o : Oper} {r : List Oper} (h : Ov P Q l n sl T G E J a0 k o) (hr : Kw P Q l n sl T G E J a0 (k + 1) r) : Kw P Q l n sl T G E J a0 k (o :: r) := ⟨h, hr⟩
theorem Qv {k : Nat} : Kw P Q l n sl T G E J a0 k [] := trivial
theorem Kw.get : ∀ {r : List Oper} {k : Nat}, Kw P Q l n sl T G E J a0 k r → ∀ {i : Nat} {o : Oper}, r[i]? = some o → Ov P Q l n sl T G E J a0 (k + i) o
 | [], _, _, i, o, h => by simp at h
 | o' :: r, k, hs, 0, o, h => by
  have : o' = o := by simpa using h
  subst this; exact hs.1
 | o' :: r, k, hs, i + 1, o, h => by
  have := Kw.get hs.2 (i := i) (o := o) (by simpa using h)
  rwa [show k + 1 + i = k + (i + 1) by omega] at this
theorem bbp {a : Act} {i : Nat} {o : Oper} {v : Value} (hsz : a0.tmps.size = sz) (has : a.tmps.size = a0.tmps.size) (hds : ∀ i j d, i < n → j < n → jl l i = some d → jl l j = some d → d < sz ∧ j = i) (hin : i < n) (ho : l[i]? = some o) (hd : o.dst ≠ none) : uv l sl (a.put o.dst v) i = v := by
 have hdi : jl l i = o.dst := by unfold jl; rw [ho]; rfl
 obtain ⟨d, hd'⟩ := Option.ne_none_iff_exists'.1 hd
 rw [Ve (hdi.trans hd'), hd', Po _ _ _ (by rw [has, hsz]; exact (hds i i d hin hin (hdi.trans hd') (hdi.trans hd')).1)]
theorem TG.bbo {a : Act} {w : World} {S : Nat → Prop} {i j : Nat} {o : Oper} {v : Value} (hds : ∀ i j d, i < n → j < n → jl l i = some d → jl l j = some d → d < sz ∧ j = i)
  (hsl : ∀ k, k < n → jl l k = none → ∃ j, j < n ∧ waits l k j (sl k) = true) (inv : TG l n sl T G a0 S a w) (hin : i < n) (ho : l[i]? = some o) (Kr : ¬ S i) (hj : j < n) (hSj : S j) : uv l sl (a.put o.dst v) j = uv l sl a j := by
 have hdi : jl l i = o.dst := by unfold jl; rw [ho]; rfl
 have hji : j ≠ i := fun e => Kr (e ▸ hSj)
 unfold uv
 cases hd : jl l j with
 | some d => exact Gg _ _ _ _ (fun h => hji ((hds i j d hin hj (by rw [hdi]; exact h) hd).2))
 | none =>
  obtain ⟨m, hm, hw⟩ := hsl j hj hd
  have hSm := inv.cl j m _ hj hSj hw
  have hmi : m ≠ i := fun e => Kr (e ▸ hSm)
  exact Gg _ _ _ _ (fun h => hmi ((hds i m _ hin hm (by rw [hdi]; exact h) (Dr hw)).2))
theorem TG.bag {a : Act} {w : World} (hsz : a0.tmps.size = sz) (hds : ∀ i j d, i < n → j < n → jl l i = some d → jl l j = some d → d < sz ∧ j = i)
  {S : Nat → Prop} (hall : ∀ k, k < n → S k) (inv : TG l n sl T G a0 S a w) : ∃ v : Nat → Value, a = puts v 0 (l.take n) a0 ∧ (∀ k, k < n → T k w (v k)) ∧ (∀ k j, k < n → j < n → jl l k = none → jl l j = some (sl k) → v k = v j) ∧ v = uv l sl a := by
 have hv1 : ∀ k d, jl l k = some d → uv l sl a k = a.tmps.getD d undef := fun k d h => Ve h
 have hv2 : ∀ k, jl l k = none → uv l sl a k = a.tmps.getD (sl k) undef := fun k h => by unfold uv; rw [h]
 refine ⟨uv l sl a, ?_, fun k hk => ?_, fun k j hk hj h1 h2 => by rw [hv2 k h1, hv1 j _ h2], rfl⟩
 rotate_left
 ·
  cases hd : jl l k with
  | none => rw [hv2 k hd]; exact inv.nod k hk (hall k hk) hd
  | some d => rw [hv1 k d hd]; exact inv.new k d hk (hall k hk) hd
 refine abt (by rw [inv.defers, Jw]) (by rw [inv.size, Nw]) (fun t => ?_)
 by_cases ht : ∃ k, k < n ∧ jl l k = some t
 ·
  obtain ⟨k, hk, hkt⟩ := ht
  have hdt : ∀ j, jl (l.take n) j = some t → j = k := fun j hj => (hds k j t hk (Dz hj).1 hkt (Dz hj).2).2
  rw [Rf (uv l sl a) t (l.take n) 0 k a0 (by unfold jl at hkt ⊢; rwa [List.getElem?_take_of_lt hk]) hdt (by rw [hsz]; exact (hds k k t hk hk hkt hkt).1), Nat.zero_add]
  exact (hv1 k t hkt).symm
 ·
  have hf : Ev l n t = true := List.all_eq_true.2 (fun o ho => by
   obtain ⟨k, hk⟩ := List.getElem?_of_mem ho
   have hkn : k < n := by
    rcases Nat.lt_or_ge k n with h | h
    ·
     exact h
    ·
     rw [List.getElem?_eq_none (by simp; omega)] at hk; cases hk
   rw [List.getElem?_take_of_lt hkn] at hk
   simp only [bne_iff_ne]
   intro h
   exact ht ⟨k, hkn, by unfold jl; rw [hk]; exact h⟩)
  rw [inv.old t hf, Mo (uv l sl a) t (l.take n) 0 a0 (fun j hj => ht ⟨j, Dz hj⟩)]
end
theorem aaz {P : Program} {id : Nat} {Q : Exit → Act → World → Prop} {a : Act} {w : World} {l : List Oper} (n sz : Nat) (sl : Nat → Tmp) (T : Nat → World → Value → Prop) (G : World → Prop) (E : World → World → Prop) (J : (Nat → Prop) → (Nat → Value) → World → Prop)
  (hm : P.follows .mixedOrders = true) (hB : okB l n sz = true) (hS1 : slB l n sl = true) (hsz : a.tmps.size = sz)
  (hT : ∀ k w w' v, E w w' → T k w v → T k w' v) (hG : G w.drew) (hJ : ∀ u, J (fun _ => False) u w.drew) (hJc : ∀ S S' u w, (∀ k, k < n → (S' k ↔ S k)) → J S u w → J S' u w)
  (hS : Kw P Q l n sl T G E J a 0 (l.take n))
  (hend : ∀ (v : Nat → Value) (w' : World), G w' → J (fun _ => True) v w' → (∀ k, k < n → T k w' (v k)) → (∀ k j, k < n → j < n → jl l k = none → jl l j = some (sl k) → v k = v j) → wpList P l.toArray Q (l.drop n) (puts v 0 (l.take n) a) w') :
  (Code.region id l.toArray true).wp P Q a w := by
 simp only [okB, Bool.and_eq_true, Bool.or_eq_true, decide_eq_true_eq] at hB
 obtain ⟨⟨⟨⟨hn, Zo⟩, hback⟩, Lu⟩, hseq⟩ := hB
 have hget : ∀ k, k < n → ∃ o, l[k]? = some o := fun k hk => ⟨l[k]'(by omega), List.getElem?_eq_getElem om⟩
 have hbk := Md hback
 have hds := Ma Lu
 have hsl : ∀ k, k < n → jl l k = none → ∃ j, j < n ∧ waits l k j (sl k) = true := fun k hk hd => by
  have h1 := List.all_eq_true.1 hS1 k (List.mem_range.2 hk)
  simp only [hd, Option.isSome_none, Bool.false_or, List.any_eq_true, List.mem_range] at h1
  exact h1
 have hwb : ∀ k j d, k < n → waits l k j d = true → j < n := fun k j d hk hw => by
  simp only [waits, Bool.and_eq_true, beq_iff_eq] at hw
  obtain ⟨oj, hoj, e, he, hb, hon⟩ := Region.waitsFor_spec hw.1
  have := hbk k oj hk (by simpa using hoj) e he hb
  omega
 refine wp_region_any hm ?_
 have key : ∀ (f : Nat) (L : Array Bool) (a' : Act) (w' : World), HeadInv .any l.toArray n L → TG l n sl T G a (fun k => L.getD k false = true) a' w' → J (fun k => L.getD k false = true) (uv l sl a') w' → cnt L n = f → wpAny P .any l.toArray Q (f + (l.length - n)) L a' w' := by
  intro f
  induction f with
  | zero =>
   intro L a' w' head inv jv hc
   have hall := Nh hc
   have hL : L = full n (l.length - n) := by
    have hs := head.size
    refine Array.ext (by simp [full, hs]; omega) (fun i h1 h2 => ?_)
    by_cases hi : i < n
    ·
     have g := hall i hi
     simp [h1] at g
     simp [full, hi, g]
    ·
     have g := head.tail i om (by rw [← hs]; exact h1)
     simp [h1] at g
     simp [full, Array.getElem_append, hi, g]
   obtain ⟨v, he, hv, Fq, hvu⟩ := inv.bag hsz hds (fun k hk => by rw [hL]; simp [full, Array.getElem?_append, hk])
   rw [he, Nat.zero_add]
   have hlen : (l.drop n).length = l.length - n := by simp
   rw [← hlen]
   exact wpAny_of_seq (md := .any) (ops := l.toArray) (Q' := Q) (l.drop n) n L _ w' (fun j => by simp [List.getElem?_drop]) (by rw [hlen, hL]; exact hseq)
    (hend v w' inv.good (hvu ▸ hJc _ _ _ _ (fun k hk => by rw [hL]; simp [full, Array.getElem?_append, hk]) jv) hv Fq)
  | succ f ih =>
   intro L a' w' head inv jv hc
   obtain ⟨i0, hi0, Ui, hle0⟩ := Vm (L := L) (m := n) om
   have Wn : L.size = l.length := by rw [head.size]; simp
   rw [show f + 1 + (l.length - n) = (f + (l.length - n)) + 1 by omega]
   refine ⟨fun hr => ?_, fun i hi => ?_⟩
   ·
    exfalso
    obtain ⟨o, ho⟩ := hget i0 hi0
    have : i0 ∈ Region.ready .any l.toArray L := mem_ready.2 ⟨Ui, o, by simpa using ho, fun e he hb => by
     have hlt := hbk i0 o hi0 ho e he hb
     have h1 := hle0 e.on hlt
     simp [show e.on < L.size by rw [Wn]; omega] at h1
     simp [show e.on < L.size by rw [Wn]; omega, h1]⟩
    rw [hr] at this; cases this
   ·
    obtain ⟨hun, o, ho, Zm⟩ := mem_ready.1 hi
    have ho' : l[i]? = some o := by simpa using ho
    have hil : i < l.length := by
     have := (Array.getElem?_eq_some_iff.1 ho).1
     simpa using this
    have hin : i < n := by
     rcases Nat.lt_or_ge i n with h | h
     ·
      exact h
     ·
      exfalso
      rcases Zo with he | ⟨hs, hch⟩
      ·
       omega
      ·
       exact tail_waits hs hch (by simp only [List.size_toArray]; omega) head _ i0 rfl hi0 Ui i h hi
    have hst := hS.get (i := i) (o := o) (by rw [List.getElem?_take_of_lt hin]; exact ho')
    rw [Nat.zero_add] at hst
    have hdone : ∀ j d, waits l i j d = true → L.getD j false = true := fun j d hjd => by
     simp only [waits, Bool.and_eq_true, beq_iff_eq] at hjd
     obtain ⟨oj, hoj, e, he, hb, hon⟩ := Region.waitsFor_spec hjd.1
     have : oj = o := Option.some.inj (hoj.symm.trans ho)
     subst this
     have hlj := Zm e he hb
     rwa [hon] at hlj
    have Kr : ¬ L.getD i false = true := fun h => by rw [getD_both hun] at h; cases h
    have hw := hst.2 a' w' inv.good inv.old (fun j d hjd => inv.new j d (hwb i j d hin hjd) (hdone j d hjd) (Dr hjd)) ⟨_, _, jv, Kr, fun j d hjd => ⟨hdone j d hjd, Ve (Dr hjd)⟩⟩
    have go : ∀ v w2, G w2 → E w' w2 → T i w2 v → (o.dst = none → v = a'.tmps.getD (sl i) undef) → (∀ S u u', J S u w' → (∀ j, j < n → S j → u' j = u j) → (o.dst ≠ none → u' i = v) → ¬ S i → (∀ j d, waits l i j d = true → S j ∧ u j = a'.tmps.getD d undef) → J (fun k => k = i ∨ S k) u' w2) → wpAny P .any l.toArray Q (f + (l.length - n)) (L.setIfInBounds i true) (a'.put o.dst v) w2 := by
     intro v w2 hg2 hE Gr hno hj
     have hiff : ∀ k, k < n → ((L.setIfInBounds i true).getD k false = true ↔ (k = i ∨ L.getD k false = true)) := fun k hk => ?_
     refine ih (L.setIfInBounds i true) _ w2 (head.set hi hin) ((inv.step hsz hds hsl hT hin ho' Kr hdone hg2 hE Gr hno).mono hiff hwb) (hJc _ _ _ _ hiff (hj _ (uv l sl a') _ jv (fun j hj hSj => inv.bbo hds hsl hin ho' Kr hj hSj) (fun hd => bbp hsz inv.size hds hin ho' hd) Kr (fun j d hjd => ⟨hdone j d hjd, Ve (Dr hjd)⟩))) (by have := Vk hun (m := n) hin; omega)
     by_cases hki : k = i
     ·
      subst hki
      exact ⟨fun _ => .inl rfl, fun _ => by simp [show k < L.size by rw [Wn]; omega]⟩
     ·
      rw [getD_set_ne false (Ne.symm hki)]
      exact ⟨fun h => .inr h, fun h => h.resolve_left hki⟩
    unfold wpOp
    simp only [ho]
    split
    ·
     refine .inl (Oper.wp_mono (fun a2 w2 hK => ?_) hw)
     obtain ⟨v, rfl, hg2, hE, Gr, hno, hj⟩ := hK
     exact go v w2 hg2 hE Gr hno hj
    ·
     rename_i hwd
     exact absurd (by simp [Region.wanted, hst.1]) hwd
 have h0 := key n (Array.replicate l.length false) a w.drew
  ⟨by simp, fun j oj _ hl => (by rw [getD_replicate_false] at hl; cases hl), fun t _ ht => getD_in (by simpa using ht) (getD_replicate_false _ _)⟩
  ⟨rfl, rfl, fun _ _ => rfl, fun k d _ hs _ => (by rw [getD_replicate_false] at hs; cases hs), fun k _ hs _ => (by rw [getD_replicate_false] at hs; cases hs), fun k j d _ hs _ => (by rw [getD_replicate_false] at hs; cases hs), hG⟩ (hJc _ _ _ _ (fun k _ => ⟨fun h => (by rw [getD_replicate_false] at h; cases h), fun h => h.elim⟩) (hJ _)) (Vl _ hn)
 rw [show n + (l.length - n) = l.length by omega] at h0
 have hsz2 : l.toArray.size = l.length := by simp
 rw [hsz2]
 exact h0
end Rg
end Go.Proofs.YtfgeaakhlcaibaaGreatDoor
namespace Go.Proofs.YtfgeaakhlcaibaaGreatDoor
open Go.RowKit

namespace Sb
def EN (B : Nat) (TB : TypeId) (new : List jq) (w w' : World) : Prop := dm w w' ∨ ∃ (b : Nat) (us cs : List Value), B ≤ b ∧ eu w new us ∧ w.heap[b]? = some (.cells cs.toArray TB (0, 0)) ∧ Ec cs ∧ us.length = cs.length ∧ w' = setM w b 0 us
theorem aem {B : Nat} {TB : TypeId} {new : List jq} (c : Value) : Rg.Eb (EN B TB new) (Rg.ai c) := fun _ _ _ _ h => h
theorem Fa {B : Nat} {TB : TypeId} {new : List jq} (ls : List jq) : Rg.Eb (EN B TB new) (au ls) := by
 rintro w w' v (hb | ⟨b, us, cs, _, h1, h2, h3, h4, rfl⟩) h
 ·
  exact ay ls _ _ _ hb h
 ·
  obtain ⟨ds, rfl, h⟩ := h
  exact ⟨ds, rfl, h.upto h2 h3 (ym b us 0 w w (qz _ _))⟩
def Iu (T : TypeId) (m : Nat) (B : Nat) : World → Value → Prop := fun W v => ∃ b, v = .pointer (some ⟨b, 0, none⟩) ∧ B ≤ b ∧ ∃ cs : List Value, W.heap[b]? = some (.cells cs.toArray T (0, 0)) ∧ Ec cs ∧ cs.length = m
theorem ald {B B' m : Nat} {TB T : TypeId} {new : List jq} : Rg.Eb (EN B TB new) (Iu T m B') := by
 rintro w w' v (hb | ⟨b, us, cs, _, h1, h2, h3, h4, rfl⟩) ⟨c, rfl, h5, ds, h6, h7, h8⟩
 ·
  exact ⟨c, rfl, h5, ds, (hb.block _ (lt_of_block h6)).trans h6, h7, h8⟩
 ·
  refine ⟨c, rfl, h5, ?_⟩
  by_cases hbc : c = b
  ·
   subst hbc
   rw [h6] at h2
   have h9 := Option.some.inj h2
   injection h9 with e1 e2 e3
   subst e2
   have e4 : ds = cs := by simpa using e1
   subst e4
   exact ⟨us, Ij h6 h4, h1.noW, by rw [h4, h8]⟩
  ·
   exact ⟨ds, ((ym b us 0 w w (qz _ _)).block c (lt_of_block h6) (fun x => hbc (by injection x))).trans h6, h7, h8⟩
def Jt (TB : TypeId) (new : List jq) (B : Nat) : World → Value → Prop := fun W v => ∃ b, v = .pointer (some ⟨b, 0, none⟩) ∧ B ≤ b ∧ uo W b TB new
theorem aog {B B' : Nat} {TB : TypeId} {new : List jq} : Rg.Eb (EN B TB new) (Jt TB new B') := by
 rintro w w' v (hb | ⟨b, us, cs, _, h1, h2, h3, h4, rfl⟩) ⟨c, rfl, h5, ds, h6, h7⟩
 ·
  exact ⟨c, rfl, h5, uo.below ⟨ds, h6, h7⟩ hb⟩
 ·
  refine ⟨c, rfl, h5, ?_⟩
  have hg := ym b us 0 w w (qz _ _)
  by_cases hbc : c = b
  ·
   subst hbc
   exact ⟨us, Ij h2 h4, h1.upto h2 h3 hg⟩
  ·
   exact ⟨ds, (hg.block c (lt_of_block h6) (fun x => hbc (by injection x))).trans h6, h7.upto h2 h3 hg⟩
theorem Ag {P : Program} {Q : Exit → Act → World → Prop} {l : List Oper} {n : Nat} {T : Nat → World → Value → Prop} {G : World → Prop} {B : Nat} {TB : TypeId} {new : List jq} {al : List Nat} {a0 : Act} {k : Nat} {o : Oper} (h : Rg.Step P Q l n T G dm al a0 k o) : Rg.Step P Q l n T G (EN B TB new) al a0 k o := by
 intro a w hG hO hN
 refine Oper.wp_mono (fun a' w' hK => ?_) (h a w hG hO hN)
 obtain ⟨v, h1, h2, h3, h4, h5⟩ := hK
 exact ⟨v, h1, h2, .inl h3, h4, h5⟩
theorem asz {P : Program} {Q : Exit → Act → World → Prop} {l : List Oper} {n : Nat} {T : Nat → World → Value → Prop} {G : World → Prop} {a0 : Act} {k d B m : Nat} {TL : TypeId} {cs : List Value} {ty : TypeId} {pos : String} {af : Array Edge} {gd : Option (Nat × Bool)} (hN : Iw P TL cs) (hw : cs.all okV = true) (hm : cs.length = m)
  (Ir : ∀ W W', G W → dm W W' → G W') (hB : ∀ W, G W → B ≤ W.heap.size) (hT : T k = Iu TL m B) :
  Rg.Step P Q l n T G dm [] a0 k { dst := some d, op := .alloc TL, type := ty, pos := pos, after := af, guard := gd } := by
 refine awr (N := Iu TL m) (B := B) ?_ Ir hB hT (fun j W u h => by simp at h)
 intro a w
 exact ⟨_, (Below.refl _ _).alloc (Nat.le_refl _) _, fun hB => ⟨w.heap.size, rfl, hB, cs, heap_alloc_new w _, (eu.vs w cs hw).noW, hm⟩, hN a.eval w (some d) ty pos af gd⟩
theorem asw {P : Program} {Q : Exit → Act → World → Prop} {l : List Oper} {n : Nat} {sl : Nat → Tmp} {T : Nat → World → Value → Prop} {w0 V : World} {bs : List xx} {a0 : Act} {k m t : Nat} {TL TB : TypeId} {x : Operand} {new : List jq} {ty : TypeId} {pos : String} {af : Array Edge}
  (hO : Own w0 bs V) (hS : zq P TL m) (hp : Rg.iq l n T a0 k (.tmp t) (Iu TB m V.heap.size)) (hx : Rg.iq l n T a0 k x (au new)) (hn : qm new = m) (hsl : sl k = t) (hT : T k = Jt TB new V.heap.size) :
  Rg.aai P Q l n sl T (az w0 bs V) (EN V.heap.size TB new) a0 k { dst := none, op := .store TL (.tmp t) x, type := ty, pos := pos, after := af, guard := none } := by
 refine ⟨rfl, fun a w hG hA hN => ?_⟩
 obtain ⟨us, ex, hu⟩ := hx a w hA hN
 obtain ⟨b, ep, hge, cs, hb, hnw, hlen⟩ := hp a w hA hN
 have hl : us.length = cs.length := by rw [hu.len, hn, hlen]
 have hr := hS a.eval w none (.tmp t) x b 0 cs TB us ty pos af none (by rw [hu.len, hn]) (fun u h => (hu.noW u h).2.1) hb (by rw [hlen]; omega) ep ex
 unfold Oper.wp
 rw [hr]
 have hg := ym b us 0 w w (qz _ _)
 have hbel : dm V (setM w b 0 us) := hG.2.grown hg hG.2.size (fun k hk => by injection hk with hk; omega)
 exact ⟨a.tmps.getD (sl k) undef, rfl, ⟨Own.step _ _ hO hbel, hbel⟩, .inr ⟨b, us, cs, hge, hu, hb, hnw, hl, rfl⟩, by rw [hT, hsl]; exact ⟨b, ep, hge, us, Ij hb hl, hu.upto hb hnw hg⟩, fun _ => rfl⟩
end Sb


namespace Sb
def EX (B : Nat) (TB : TypeId) (w w' : World) : Prop := dm w w' ∨ ∃ (b : Nat) (us cs : List Value), B ≤ b ∧ w.heap[b]? = some (.cells cs.toArray TB (0, 0)) ∧ Ec cs ∧ us.length = cs.length ∧ w' = setM w b 0 us
theorem Jh {B : Nat} {TB : TypeId} (c : Value) : Rg.Eb (EX B TB) (Rg.ai c) := fun _ _ _ _ h => h
theorem zt {B : Nat} {TB : TypeId} : Rg.Eb (EX B TB) (fun _ _ => True) := fun _ _ _ _ _ => trivial
theorem vg {B : Nat} {TB : TypeId} (ls : List jq) : Rg.Eb (EX B TB) (au ls) := by
 rintro w w' v (hb | ⟨b, us, cs, _, h2, h3, h4, rfl⟩) h
 ·
  exact ay ls _ _ _ hb h
 ·
  obtain ⟨ds, rfl, h⟩ := h
  exact ⟨ds, rfl, h.upto h2 h3 (ym b us 0 w w (qz _ _))⟩
def J2 (TB : TypeId) (m B k5 k6 s1 s2 : Nat) (Cj Cx : List jq) (S : Nat → Prop) (u : Nat → Value) (w : World) : Prop :=
 (S k5 → Iu TB m B w (u k5)) ∧ (S k6 → Iu TB m B w (u k6)) ∧ (S k5 → S k6 → u k5 ≠ u k6) ∧ (S s1 → S k5 ∧ Jt TB Cj B w (u k5)) ∧ (S s2 → S k6 ∧ Jt TB Cx B w (u k6))
section
variable {TB : TypeId} {m B k5 k6 s1 s2 n : Nat} {Cj Cx : List jq} {S S' : Nat → Prop} {u u' : Nat → Value} {w w' : World}
theorem akk : J2 TB m B k5 k6 s1 s2 Cj Cx = J2 TB m B k6 k5 s2 s1 Cx Cj := by
 funext S u w
 exact propext ⟨fun ⟨a, b, c, d, e⟩ => ⟨b, a, fun x y h => c y x h.symm, e, d⟩, fun ⟨a, b, c, d, e⟩ => ⟨b, a, fun x y h => c y x h.symm, e, d⟩⟩
theorem J2.start : J2 TB m B k5 k6 s1 s2 Cj Cx (fun _ => False) u w := ⟨False.elim, False.elim, fun h => h.elim, False.elim, False.elim⟩
theorem J2.congr (hl : k5 < n ∧ k6 < n ∧ s1 < n ∧ s2 < n) (hS : ∀ k, k < n → (S' k ↔ S k)) (h : J2 TB m B k5 k6 s1 s2 Cj Cx S u w) : J2 TB m B k5 k6 s1 s2 Cj Cx S' u w := by
 unfold J2 at h ⊢
 rw [hS k5 hl.1, hS k6 hl.2.1, hS s1 hl.2.2.1, hS s2 hl.2.2.2]
 exact h
theorem Iu.bel {v : Value} (hb : dm w w') (h : Iu TB m B w v) : Iu TB m B w' v := by
 obtain ⟨c, rfl, h5, ds, h6, h7, h8⟩ := h
 exact ⟨c, rfl, h5, ds, (hb.block _ (lt_of_block h6)).trans h6, h7, h8⟩
theorem Jt.bel {new : List jq} {v : Value} (hb : dm w w') (h : Jt TB new B w v) : Jt TB new B w' v := by
 obtain ⟨c, rfl, h5, h6⟩ := h
 exact ⟨c, rfl, h5, h6.below hb⟩
theorem J2.same {k : Nat} (hl : k5 < n ∧ k6 < n) (hne : k ≠ k5 ∧ k ≠ k6 ∧ k ≠ s1 ∧ k ≠ s2) (h : J2 TB m B k5 k6 s1 s2 Cj Cx S u w) (hb : dm w w') (hu : ∀ j, j < n → S j → u' j = u j) : J2 TB m B k5 k6 s1 s2 Cj Cx (fun j => j = k ∨ S j) u' w' := by
 obtain ⟨a, b, c, d, e⟩ := h
 have r5 : (k5 = k ∨ S k5) → S k5 := fun h => h.resolve_left (Ne.symm hne.1)
 have r6 : (k6 = k ∨ S k6) → S k6 := fun h => h.resolve_left (Ne.symm hne.2.1)
 refine ⟨fun h => ?_, fun h => ?_, fun h h' => ?_, fun h => ?_, fun h => ?_⟩
 ·
  rw [hu _ hl.1 (r5 h)]; exact (a (r5 h)).bel hb
 ·
  rw [hu _ hl.2 (r6 h)]; exact (b (r6 h)).bel hb
 ·
  rw [hu _ hl.1 (r5 h), hu _ hl.2 (r6 h')]; exact c (r5 h) (r6 h')
 ·
  have q := d (h.resolve_left (Ne.symm hne.2.2.1))
  rw [hu _ hl.1 q.1]; exact ⟨.inr q.1, q.2.bel hb⟩
 ·
  have q := e (h.resolve_left (Ne.symm hne.2.2.2))
  rw [hu _ hl.2 q.1]; exact ⟨.inr q.1, q.2.bel hb⟩
theorem J2.alloc (hl : k5 < n ∧ k6 < n) (hne : k5 ≠ k6 ∧ k5 ≠ s1 ∧ k5 ≠ s2) (h : J2 TB m B k5 k6 s1 s2 Cj Cx S u w) (hb : dm w w') (hu : ∀ j, j < n → S j → u' j = u j) (Kr : ¬ S k5) (hv : u' k5 = .pointer (some ⟨w.heap.size, 0, none⟩)) (hN : Iu TB m B w' (u' k5)) :
  J2 TB m B k5 k6 s1 s2 Cj Cx (fun j => j = k5 ∨ S j) u' w' := by
 obtain ⟨a, b, c, d, e⟩ := h
 have r6 : (k6 = k5 ∨ S k6) → S k6 := fun h => h.resolve_left (Ne.symm hne.1)
 refine ⟨fun _ => hN, fun h => ?_, fun _ h' => ?_, fun h => ?_, fun h => ?_⟩
 ·
  rw [hu _ hl.2 (r6 h)]; exact (b (r6 h)).bel hb
 ·
  obtain ⟨g, e1, _, ds, h6, _⟩ := b (r6 h')
  rw [hv, hu _ hl.2 (r6 h'), e1]
  intro x
  have := lt_of_block h6
  injection x with x
  injection x with x
  injection x with x
  omega
 ·
  exact absurd (d (h.resolve_left (Ne.symm hne.2.1))).1 Kr
 ·
  have q := e (h.resolve_left (Ne.symm hne.2.2))
  rw [hu _ hl.2 q.1]; exact ⟨.inr q.1, q.2.bel hb⟩
theorem Iu.set {b : Nat} {us cs : List Value} {v : Value} (h2 : w.heap[b]? = some (.cells cs.toArray TB (0, 0))) (h3 : Ec us) (h4 : us.length = cs.length) (h : Iu TB m B w v) : Iu TB m B (setM w b 0 us) v := by
 obtain ⟨c, rfl, h5, ds, h6, h7, h8⟩ := h
 refine ⟨c, rfl, h5, ?_⟩
 by_cases hbc : c = b
 ·
  subst hbc
  rw [h6] at h2
  have h9 := Option.some.inj h2
  injection h9 with e1 e2 e3
  have e4 : ds = cs := by simpa using e1
  subst e4
  exact ⟨us, Ij h6 h4, h3, by rw [h4, h8]⟩
 ·
  exact ⟨ds, ((ym b us 0 w w (qz _ _)).block c (lt_of_block h6) (fun x => hbc (by injection x))).trans h6, h7, h8⟩
theorem Jt.set {b : Nat} {us cs : List Value} {new : List jq} {v : Value} (h2 : w.heap[b]? = some (.cells cs.toArray TB (0, 0))) (h3 : Ec cs) (hv : v ≠ .pointer (some ⟨b, 0, none⟩)) (h : Jt TB new B w v) : Jt TB new B (setM w b 0 us) v := by
 obtain ⟨c, rfl, h5, ds, h6, h7⟩ := h
 have hg := ym b us 0 w w (qz _ _)
 have hbc : c ≠ b := fun x => hv (by rw [x])
 exact ⟨c, rfl, h5, ds, (hg.block c (lt_of_block h6) (fun x => hbc (by injection x))).trans h6, h7.upto h2 h3 hg⟩
theorem J2.store {b : Nat} {us cs : List Value} (hl : k5 < n ∧ k6 < n) (hne : s1 ≠ k5 ∧ s1 ≠ k6 ∧ s1 ≠ s2) (h : J2 TB m B k5 k6 s1 s2 Cj Cx S u w) (hu : ∀ j, j < n → S j → u' j = u j) (hS : S k5) (hv : u k5 = .pointer (some ⟨b, 0, none⟩))
  (h2 : w.heap[b]? = some (.cells cs.toArray TB (0, 0))) (h3 : Ec cs) (h4 : us.length = cs.length) (h5 : Ec us) (hF : Jt TB Cj B (setM w b 0 us) (.pointer (some ⟨b, 0, none⟩))) :
  J2 TB m B k5 k6 s1 s2 Cj Cx (fun j => j = s1 ∨ S j) u' (setM w b 0 us) := by
 obtain ⟨a, b', c, d, e⟩ := h
 have r6 : (k6 = s1 ∨ S k6) → S k6 := fun h => h.resolve_left (Ne.symm hne.2.1)
 refine ⟨fun _ => ?_, fun h => ?_, fun _ h' => ?_, fun _ => ?_, fun h => ?_⟩
 ·
  rw [hu _ hl.1 hS]; exact (a hS).set h2 h5 h4
 ·
  rw [hu _ hl.2 (r6 h)]; exact (b' (r6 h)).set h2 h5 h4
 ·
  rw [hu _ hl.1 hS, hu _ hl.2 (r6 h')]; exact c hS (r6 h')
 ·
  rw [hu _ hl.1 hS, hv]; exact ⟨.inr hS, hF⟩
 ·
  have q := e (h.resolve_left (Ne.symm hne.2.2))
  rw [hu _ hl.2 q.1]
  exact ⟨.inr q.1, q.2.set h2 h3 (fun x => c hS q.1 (by rw [hv, x]))⟩
end
section
variable {P : Program} {Q : Exit → Act → World → Prop} {l : List Oper} {n : Nat} {sl : Nat → Tmp} {T : Nat → World → Value → Prop} {w0 V : World} {bs : List xx} {a0 : Act} {TB : TypeId} {m k5 k6 s1 s2 : Nat} {Cj Cx : List jq} {ty : TypeId} {pos : String} {af : Array Edge}
theorem Ci {k : Nat} {o : Oper} (h : Rg.Step P Q l n T (az w0 bs V) dm [] a0 k o) (hg : o.guard = none := by rfl) (hd : o.dst.isSome = true := by rfl) (hl : k5 < n ∧ k6 < n := by decide) (hne : k ≠ k5 ∧ k ≠ k6 ∧ k ≠ s1 ∧ k ≠ s2 := by decide) :
  Rg.Ov P Q l n sl T (az w0 bs V) (EX V.heap.size TB) (J2 TB m V.heap.size k5 k6 s1 s2 Cj Cx) a0 k o :=
 ⟨hg, fun a w hG hO hN _ => Oper.wp_mono (fun a' w' hK => by
  obtain ⟨v, h1, h2, h3, h4, _⟩ := hK
  exact ⟨v, h1, h2, .inl h3, h4, fun e => by rw [e] at hd; (cases hd), fun S u u' hJ hu _ _ _ => hJ.same hl hne h3 hu⟩) (h a w hG hO hN)⟩
theorem Vd {d : Tmp} {cs : List Value} (hN : Iw P TB cs) (hw : cs.all okV = true) (hm : cs.length = m) (hT : T k5 = fun _ _ => True) (hl : k5 < n ∧ k6 < n := by decide) (hne : k5 ≠ k6 ∧ k5 ≠ s1 ∧ k5 ≠ s2 := by decide) :
  Rg.Ov P Q l n sl T (az w0 bs V) (EX V.heap.size TB) (J2 TB m V.heap.size k5 k6 s1 s2 Cj Cx) a0 k5 { dst := some d, op := .alloc TB, type := ty, pos := pos, after := af, guard := none } :=
 ⟨rfl, fun a w hG hO _ _ => by
  have hb : dm w (w.alloc (.cells cs.toArray TB)) := (Below.refl _ _).alloc (Nat.le_refl _) _
  refine jm (P := P) (hN a.eval w (some d) ty pos af none) ⟨_, rfl, az.step _ _ hG hb, .inl hb, by rw [hT]; trivial, fun e => by (cases e), fun S u u' hJ hu hv Kr _ => ?_⟩
  have hv' := hv (by simp)
  exact hJ.alloc hl hne hb hu Kr hv' (by rw [hv']; exact ⟨w.heap.size, rfl, hG.2.size, cs, heap_alloc_new w _, (eu.vs w cs hw).noW, hm⟩)⟩
theorem Vb {x : Operand} {t : Tmp} (hO : Own w0 bs V) (hS : zq P TB m) (hw : Rg.waits l s1 k5 t = true) (hx : Rg.iq l n T a0 s1 x (au Cj)) (hn : qm Cj = m) (hsl : sl s1 = t) (hT : T s1 = fun _ _ => True) (hl : k5 < n ∧ k6 < n := by decide) (hne : s1 ≠ k5 ∧ s1 ≠ k6 ∧ s1 ≠ s2 := by decide) :
  Rg.Ov P Q l n sl T (az w0 bs V) (EX V.heap.size TB) (J2 TB m V.heap.size k5 k6 s1 s2 Cj Cx) a0 s1 { dst := none, op := .store TB (.tmp t) x, type := ty, pos := pos, after := af, guard := none } := by
 refine ⟨rfl, fun a w hG hA hN hE => ?_⟩
 obtain ⟨us, ex, hu⟩ := hx a w hA hN
 obtain ⟨S0, u0, hJ0, _, hw0⟩ := hE
 obtain ⟨b, ep, hge, cs, hb, hnw, hlen⟩ := hJ0.1 (hw0 k5 t hw).1
 rw [(hw0 k5 t hw).2] at ep
 have hle : us.length = cs.length := by rw [hu.len, hn, hlen]
 have hr := hS a.eval w none (.tmp t) x b 0 cs TB us ty pos af none (by rw [hu.len, hn]) (fun u h => (hu.noW u h).2.1) hb (by rw [hlen]; omega) ep ex
 unfold Oper.wp
 rw [hr]
 have hg := ym b us 0 w w (qz _ _)
 have hbel : dm V (setM w b 0 us) := hG.2.grown hg hG.2.size (fun k hk => by injection hk with hk; omega)
 refine ⟨a.tmps.getD (sl s1) undef, rfl, ⟨Own.step _ _ hO hbel, hbel⟩, .inr ⟨b, us, cs, hge, hb, hnw, hle, rfl⟩, by rw [hT]; trivial, fun _ => rfl, fun S u u' hJ hu' _ Kr hwt => ?_⟩
 exact hJ.store hl hne hu' (hwt k5 t hw).1 ((hwt k5 t hw).2.trans ep) hb hnw hle hu.noW ⟨b, rfl, hge, us, Ij hb hle, hu.upto hb hnw hg⟩
theorem Wv {d : Tmp} {cs : List Value} (hN : Iw P TB cs) (hw : cs.all okV = true) (hm : cs.length = m) (hT : T k6 = fun _ _ => True) (hl : k6 < n ∧ k5 < n := by decide) (hne : k6 ≠ k5 ∧ k6 ≠ s2 ∧ k6 ≠ s1 := by decide) :
  Rg.Ov P Q l n sl T (az w0 bs V) (EX V.heap.size TB) (J2 TB m V.heap.size k5 k6 s1 s2 Cj Cx) a0 k6 { dst := some d, op := .alloc TB, type := ty, pos := pos, after := af, guard := none } := by
 rw [akk]
 exact Vd hN hw hm hT hl hne
theorem Wu {x : Operand} {t : Tmp} (hO : Own w0 bs V) (hS : zq P TB m) (hw : Rg.waits l s2 k6 t = true) (hx : Rg.iq l n T a0 s2 x (au Cx)) (hn : qm Cx = m) (hsl : sl s2 = t) (hT : T s2 = fun _ _ => True) (hl : k6 < n ∧ k5 < n := by decide) (hne : s2 ≠ k6 ∧ s2 ≠ k5 ∧ s2 ≠ s1 := by decide) :
  Rg.Ov P Q l n sl T (az w0 bs V) (EX V.heap.size TB) (J2 TB m V.heap.size k5 k6 s1 s2 Cj Cx) a0 s2 { dst := none, op := .store TB (.tmp t) x, type := ty, pos := pos, after := af, guard := none } := by
 rw [akk]
 exact Vb hO hS hw hx hn hsl hT hl hne
end
theorem abn : Qm Tryz.prog 79 3 3 := by
 intro ρ w d x y us vs ty pos af gd h1 h2 e1 e2
 match us, h1, vs, h2 with
 | [u0, u1, u2], _, [v0, v1, v2], _ =>
 simp only [execOp]
 simp [go_sem, e1, e2]
 try rfl
end Sb


namespace Sb
abbrev L7 (f : Nat → Int) : List Int := [f 0, f 1, f 2, f 3, f 4, f 5, f 6]
theorem axi {f g : Nat → Int} (h : ∀ j, j < 7 → f j = g j) : L7 f = L7 g := by
 simp only [L7, h 0 om, h 1 om, h 2 om, h 3 om, h 4 om, h 5 om, h 6 om]
theorem aqc (f : Nat → Int) {k : Nat} (h : k < 7) : (L7 f)[k]? = some (f k) := by
 match k, h with
 | 0, _ => rfl
 | 1, _ => rfl
 | 2, _ => rfl
 | 3, _ => rfl
 | 4, _ => rfl
 | 5, _ => rfl
 | 6, _ => rfl
 | k + 7, h => omega
theorem bdd (f : Nat → Int) {k : Nat} (h : k < 7) (v : Int) : (L7 f).set k v = L7 (fun j => if j = k then v else f j) := by
 match k, h with
 | 0, _ => rfl
 | 1, _ => rfl
 | 2, _ => rfl
 | 3, _ => rfl
 | 4, _ => rfl
 | 5, _ => rfl
 | 6, _ => rfl
 | k + 7, h => omega
def eKL (l : List Int) : Kind where
 size := 7
 ok := fun _ c => c = l.map (fun n => .int .i64 n) ∧ l.length = 7
 noW := by
  rintro W c ⟨rfl, _⟩ u hu
  obtain ⟨n, _, rfl⟩ := List.mem_map.1 hu
  exact iw n
 below := fun _ h => h
 upto := fun _ _ _ h => h
 len := by rintro W c ⟨rfl, h⟩; rw [List.length_map, h]
def eK (f : Nat → Int) : Kind := eKL (L7 f)
theorem bfg {f g : Nat → Int} (h : ∀ j, j < 7 → f j = g j) : eK f = eK g := congrArg eKL (axi h)
def Dw (f h : Nat → Int) (k : Nat) : Nat → Int := fun j => if j < k then h j else f j
theorem Td (f h : Nat → Int) : Dw f h 0 = f := by funext j; simp [Dw]
theorem aat (f h : Nat → Int) (k : Nat) : Dw f h k k = f k := if_neg (Nat.lt_irrefl k)
theorem Wx (f h : Nat → Int) : eK (Dw f h 7) = eK h := bfg fun j hj => if_pos hj
theorem Te (f h : Nat → Int) (k : Nat) : ∀ j, j < 7 → (if j = k then h k else Dw f h k j) = Dw f h (k + 1) j := fun j _ => by
 unfold Dw
 by_cases e : j = k
 ·
  subst e; rw [if_pos rfl, if_pos (Nat.lt_succ_self j)]
 ·
  rw [if_neg e]
  by_cases e2 : j < k
  ·
   rw [if_pos e2, if_pos om]
  ·
   rw [if_neg e2, if_neg om]
theorem eu.e {W : World} {f : Nat → Int} {ls : List jq} {cs : List Value} (h : eu W ls cs) : eu W (.k (eK f) :: ls) (.int .i64 (f 0) :: .int .i64 (f 1) :: .int .i64 (f 2) :: .int .i64 (f 3) :: .int .i64 (f 4) :: .int .i64 (f 5) :: .int .i64 (f 6) :: cs) := ⟨[_, _, _, _, _, _, _], cs, rfl, ⟨rfl, rfl⟩, h⟩
theorem eu.Zw {W : World} {f : Nat → Int} {ls : List jq} {cs : List Value} (h : eu W (.k (eK f) :: ls) cs) : ∃ r, cs = .int .i64 (f 0) :: .int .i64 (f 1) :: .int .i64 (f 2) :: .int .i64 (f 3) :: .int .i64 (f 4) :: .int .i64 (f 5) :: .int .i64 (f 6) :: r ∧ eu W ls r := by
 obtain ⟨c, r, rfl, h1, h⟩ := h
 have h1' : c = (L7 f).map (fun n => .int .i64 n) := h1.1
 subst h1'
 exact ⟨r, rfl, h⟩
theorem bhz {W : World} {f : Nat → Int} {v : Value} (h : au [.k (eK f)] W v) : v = .agg #[.int .i64 (f 0), .int .i64 (f 1), .int .i64 (f 2), .int .i64 (f 3), .int .i64 (f 4), .int .i64 (f 5), .int .i64 (f 6)] := by
 obtain ⟨cs, rfl, h⟩ := h
 obtain ⟨r0, rfl, k⟩ := h.Zw
 clear h
 cases k; rfl
theorem pg {W : World} {f : Nat → Int} {a b v : Value} (h : au [.k (eK f), .v a, .v b] W v) : v = .agg #[.int .i64 (f 0), .int .i64 (f 1), .int .i64 (f 2), .int .i64 (f 3), .int .i64 (f 4), .int .i64 (f 5), .int .i64 (f 6), a, b] := by
 obtain ⟨cs, rfl, h⟩ := h
 obtain ⟨r0, rfl, k⟩ := h.Zw
 clear h
 obtain ⟨r1, rfl, _, k1⟩ := k.Dv
 obtain ⟨r2, rfl, _, k2⟩ := k1.Dv
 cases k2; rfl
theorem Vo {W : World} {f : Nat → Int} {x : Rat} {v : Value} (h : au [.k (eK f), .q x] W v) : ∃ s1 n1 A1 c1 l1 s2 n2 A2 c2 l2, v = .agg #[.int .i64 (f 0), .int .i64 (f 1), .int .i64 (f 2), .int .i64 (f 3), .int .i64 (f 4), .int .i64 (f 5), .int .i64 (f 6), .int .i64 s1, .bool n1, .slice A1 (List.length l1) c1, .int .i64 s2, .bool n2, .slice A2 (List.length l2) c2] ∧ gu W s1 n1 A1 c1 l1 x.num ∧ gu W s2 n2 A2 c2 l2 (x.den : Int) := by
 obtain ⟨cs, rfl, h⟩ := h
 obtain ⟨r0, rfl, k⟩ := h.Zw
 clear h
 obtain ⟨s1, n1, A1, c1, l1, s2, n2, A2, c2, l2, r, rfl, h1, h2, k1⟩ := k.awy
 cases k1
 exact ⟨_, _, _, _, _, _, _, _, _, _, rfl, h1, h2⟩
theorem abq {W : World} {f : Nat → Int} {x : Rat} {v : Value} (h : au [.k (eK f), .r x] W v) : ∃ A1 c1 l1 m1 A2 c2 l2 m2, v = .agg #[.int .i64 (f 0), .int .i64 (f 1), .int .i64 (f 2), .int .i64 (f 3), .int .i64 (f 4), .int .i64 (f 5), .int .i64 (f 6), .slice A1 (List.length l1) c1, .bool m1, .slice A2 (List.length l2) c2, .bool m2] ∧ QV W A1 c1 l1 m1 A2 c2 l2 m2 x := by
 obtain ⟨cs, rfl, h⟩ := h
 obtain ⟨r0, rfl, k⟩ := h.Zw
 clear h
 obtain ⟨A1, c1, l1, m1, A2, c2, l2, m2, r, rfl, h1, k1⟩ := k.adp
 cases k1
 exact ⟨_, _, _, _, _, _, _, _, rfl, h1⟩
theorem uo.amz {W : World} {b : Nat} {T : TypeId} {pre post : List jq} {f : Nat → Int} (h : uo W b T (pre ++ (.k (eK f) :: post))) {k : Nat} (hk : k < 7) : W.cell? ⟨b, qm pre + k, none⟩ = some (.int .i64 (f k)) := by
 obtain ⟨cs, h1, h2⟩ := h
 obtain ⟨c, cd, rfl, k1, k2⟩ := h2.cut
 obtain ⟨c1, r, rfl, h3, k4⟩ := k2
 have h3' : c1 = (L7 f).map (fun n => .int .i64 n) := h3.1
 have := Om h1 k (by rw [h3']; simpa using hk)
 rw [← k1.len, this, h3', List.getElem?_map, aqc f hk]; rfl
end Sb

namespace Sb
def z7 : Nat → Int := fun _ => 0
abbrev zU : List jq := [iv 0, iv 0, iv 0, iv 0, iv 0, iv 0, iv 0, iv 0, iv 0]
abbrev zM : List jq := [iv 0, iv 0, iv 0, iv 0, iv 0, iv 0, iv 0, iv 0, .v (.bool false), .v (.slice none 0 0), iv 0, .v (.bool false), .v (.slice none 0 0)]
abbrev zV : List jq := [iv 0, iv 0, iv 0, iv 0, iv 0, iv 0, iv 0, .v (.slice none 0 0), .v (.bool false), .v (.slice none 0 0), .v (.bool false)]
def aV (f : Nat → Int) : Value := .agg #[.int .i64 (f 0), .int .i64 (f 1), .int .i64 (f 2), .int .i64 (f 3), .int .i64 (f 4), .int .i64 (f 5), .int .i64 (f 6)]
theorem Du {W : World} {f : Nat → Int} {ls : List jq} {cs : List Value} : eu W (.k (eK f) :: ls) cs ↔ eu W ((L7 f).map iv ++ ls) cs := by
 constructor
 ·
  intro h
  obtain ⟨r, rfl, h1⟩ := h.Zw
  exact eu.v (iw _) (eu.v (iw _) (eu.v (iw _) (eu.v (iw _) (eu.v (iw _) (eu.v (iw _) (eu.v (iw _) h1))))))
 ·
  intro h
  obtain ⟨r1, rfl, _, h1⟩ := eu.Dv h
  obtain ⟨r2, rfl, _, h2⟩ := eu.Dv h1
  obtain ⟨r3, rfl, _, h3⟩ := eu.Dv h2
  obtain ⟨r4, rfl, _, h4⟩ := eu.Dv h3
  obtain ⟨r5, rfl, _, h5⟩ := eu.Dv h4
  obtain ⟨r6, rfl, _, h6⟩ := eu.Dv h5
  obtain ⟨r7, rfl, _, h7⟩ := eu.Dv h6
  exact eu.e h7
theorem Own.conv {w W : World} {xs ys : List xx} {b : Nat} {T : TypeId} {ls ls' : List jq} (h : Own w (xs ++ (b, T, ls) :: ys) W) (hc : ∀ cs, eu W ls cs → eu W ls' cs) : Own w (xs ++ (b, T, ls') :: ys) W := by
 refine ⟨h.bel, by have := h.nd; rw [List.map_append, List.map_cons] at this ⊢; exact this, fun b' T' l' hm => ?_⟩
 rcases List.mem_append.1 hm with hm | hm
 ·
  exact h.box _ _ _ (List.mem_append_left _ hm)
 ·
  rcases List.mem_cons.1 hm with e | hm
  ·
   cases e
   obtain ⟨g, cs, h1, h2⟩ := h.box b T ls (List.mem_append_right _ List.mem_cons_self)
   exact ⟨g, cs, h1, hc cs h2⟩
  ·
   exact h.box _ _ _ (List.mem_append_right _ (List.mem_cons_of_mem _ hm))
theorem Own.blh {w W : World} {xs ys : List xx} {b k : Nat} {T : TypeId} {f g : Nat → Int} {post : List jq} {v : Int} (h : Own w (xs ++ (b, T, .k (eK f) :: post) :: ys) W) (hk : k < 7) (hg : ∀ j, j < 7 → (if j = k then v else f j) = g j) :
  Own w (xs ++ (b, T, .k (eK g) :: post) :: ys) (setM W b k [.int .i64 v]) := by
 have h1 := h.conv (fun cs => Du.1)
 have e : L7 g = (L7 f).set k v := by rw [bdd f hk]; exact (axi hg).symm
 have hv : ∀ W' : World, eu W' [iv v] [.int .i64 v] := fun W' => eu.v (iw _) rfl
 clear hg
 have hc : k = 0 ∨ k = 1 ∨ k = 2 ∨ k = 3 ∨ k = 4 ∨ k = 5 ∨ k = 6 := by omega
 rcases hc with rfl | rfl | rfl | rfl | rfl | rfl | rfl
 ·
  exact (Own.set (pre := []) (old := [iv (f 0)]) (new := [iv v]) (post := [iv (f 1), iv (f 2), iv (f 3), iv (f 4), iv (f 5), iv (f 6)] ++ post) (off := 0) h1 (hv _) rfl rfl).conv (fun cs hc => Du.2 (by rw [e]; exact hc))
 ·
  exact (Own.set (pre := [iv (f 0)]) (old := [iv (f 1)]) (new := [iv v]) (post := [iv (f 2), iv (f 3), iv (f 4), iv (f 5), iv (f 6)] ++ post) (off := 1) h1 (hv _) rfl rfl).conv (fun cs hc => Du.2 (by rw [e]; exact hc))
 ·
  exact (Own.set (pre := [iv (f 0), iv (f 1)]) (old := [iv (f 2)]) (new := [iv v]) (post := [iv (f 3), iv (f 4), iv (f 5), iv (f 6)] ++ post) (off := 2) h1 (hv _) rfl rfl).conv (fun cs hc => Du.2 (by rw [e]; exact hc))
 ·
  exact (Own.set (pre := [iv (f 0), iv (f 1), iv (f 2)]) (old := [iv (f 3)]) (new := [iv v]) (post := [iv (f 4), iv (f 5), iv (f 6)] ++ post) (off := 3) h1 (hv _) rfl rfl).conv (fun cs hc => Du.2 (by rw [e]; exact hc))
 ·
  exact (Own.set (pre := [iv (f 0), iv (f 1), iv (f 2), iv (f 3)]) (old := [iv (f 4)]) (new := [iv v]) (post := [iv (f 5), iv (f 6)] ++ post) (off := 4) h1 (hv _) rfl rfl).conv (fun cs hc => Du.2 (by rw [e]; exact hc))
 ·
  exact (Own.set (pre := [iv (f 0), iv (f 1), iv (f 2), iv (f 3), iv (f 4)]) (old := [iv (f 5)]) (new := [iv v]) (post := [iv (f 6)] ++ post) (off := 5) h1 (hv _) rfl rfl).conv (fun cs hc => Du.2 (by rw [e]; exact hc))
 ·
  exact (Own.set (pre := [iv (f 0), iv (f 1), iv (f 2), iv (f 3), iv (f 4), iv (f 5)]) (old := [iv (f 6)]) (new := [iv v]) (post := [] ++ post) (off := 6) h1 (hv _) rfl rfl).conv (fun cs hc => Du.2 (by rw [e]; exact hc))
theorem Ib : adw Tryz.prog 3 := by
 intro ρ w d x b off u ty pos af gd hc hx
 simp only [execOp, hx]
 simp [go_sem, hc]
theorem Ra {P : Program} {Q : Exit → Act → World → Prop} {l : List Oper} {n : Nat} {T : Nat → World → Value → Prop} {w V : World} {bs : List xx} {al : List Nat} {a0 : Act} {k d b off : Nat} {x : Operand} {TB TL : TypeId} {ls : List jq} {u : Value} {ty : TypeId} {pos : String} {af : Array Edge} {gd : Option (Nat × Bool)}
  (hL : adw P TL) (hm : (b, TB, ls) ∈ bs) (hx : Rg.iq l n T a0 k x (Rg.ai (.pointer (some ⟨b, off, none⟩)))) (pre post : List jq) (hT : T k = Rg.ai u) (he : ls = pre ++ (.v u :: post) := by rfl) (ho : qm pre = off := by rfl) (hal : al.contains k = false := by rfl) :
  Rg.Step P Q l n T (az w bs V) dm al a0 k { dst := some d, op := .load TL x, type := ty, pos := pos, after := af, guard := gd } := azb hL hal hx (fun W h => he ▸ az.box hm h) ho hT
theorem Lr {Q : Exit → Act → World → Prop} {l : List Oper} {n : Nat} {T : Nat → World → Value → Prop} {w V : World} {bs : List xx} {al : List Nat} {a0 : Act} {i d b k : Nat} {x : Operand} {TB : TypeId} {post : List jq} {f : Nat → Int} {c : Int} {ty : TypeId} {pos : String} {af : Array Edge} {gd : Option (Nat × Bool)}
  (hm : (b, TB, .k (eK f) :: post) ∈ bs) (hal : al.contains i = false) (hx : Rg.iq l n T a0 i x (Rg.ai (.pointer (some ⟨b, k, none⟩)))) (hk : k < 7) (hv : f k = c) (hT : T i = Rg.ai (.int .i64 c)) :
  Rg.Step Tryz.prog Q l n T (az w bs V) dm al a0 i { dst := some d, op := .load 3 x, type := ty, pos := pos, after := af, guard := gd } := by
 intro a w' hG hO hN
 have h1 := uo.amz (pre := []) (az.box hm hG) hk
 rw [show qm [] + k = k from Nat.zero_add k, hv] at h1
 exact jm (P := Tryz.prog) (Ib a.eval w' (some d) x b k _ ty pos af gd h1 (hx a w' hO hN)) ⟨_, rfl, hG, Below.refl _ _, by rw [hT]; rfl, fun h => by rw [hal] at h; cases h⟩
theorem Ls {Q : Exit → Act → World → Prop} {l : List Oper} {n : Nat} {T : Nat → World → Value → Prop} {w V : World} {bs : List xx} {al : List Nat} {a0 : Act} {i d b : Nat} {x : Operand} {TB : TypeId} {post : List jq} {f : Nat → Int} {ty : TypeId} {pos : String} {af : Array Edge} {gd : Option (Nat × Bool)}
  (hL : Dj Tryz.prog 42 7) (hm : (b, TB, .k (eK f) :: post) ∈ bs) (hal : al.contains i = false) (hx : Rg.iq l n T a0 i x (Rg.ai (.pointer (some ⟨b, 0, none⟩)))) (hT : T i = Rg.ai (aV f)) :
  Rg.Step Tryz.prog Q l n T (az w bs V) dm al a0 i { dst := some d, op := .load 42 x, type := ty, pos := pos, after := af, guard := gd } := by
 intro a w' hG hO hN
 have h1 := fun j (hj : j < 7) => uo.amz (pre := []) (k := j) (az.box hm hG) hj
 have hr := hL a.eval w' (some d) x b 0 ((L7 f).map (fun n => .int .i64 n)) ty pos af gd rfl (fun j hj => by
  have h2 := h1 j hj
  rw [show qm [] + j = 0 + j from rfl] at h2
  rw [h2, List.getElem?_map, aqc f hj]; rfl) (hx a w' hO hN)
 exact jm (P := Tryz.prog) hr ⟨_, rfl, hG, Below.refl _ _, by rw [hT]; rfl, fun h => by rw [hal] at h; cases h⟩
theorem ath {a : Act} {w : World} {d : Option Tmp} {x y : Operand} {b k : Nat} {ty : TypeId} {pos : String} {af : Array Edge} {gd : Option (Nat × Bool)} (hk : k < 7) (hx : a.eval x = .pointer (some ⟨b, 0, none⟩)) (hy : a.eval y = .int .i64 (k : Int)) :
  (execOp a.eval { dst := d, op := .indexAddr 42 x y, type := ty, pos := pos, after := af, guard := gd }).run Tryz.prog w = .ok (.value (.pointer (some ⟨b, k, none⟩))) w := by
 have hc : k = 0 ∨ k = 1 ∨ k = 2 ∨ k = 3 ∨ k = 4 ∨ k = 5 ∨ k = 6 := by omega
 rcases hc with rfl | rfl | rfl | rfl | rfl | rfl | rfl <;> (simp only [execOp, hx, hy]; simp [go_sem])
theorem Ed {Q : Exit → Act → World → Prop} {l : List Oper} {n : Nat} {T : Nat → World → Value → Prop} {G : World → Prop} {al : List Nat} {a0 : Act} {k d : Nat} {ty : TypeId} {pos : String} {af : Array Edge} {gd : Option (Nat × Bool)} {x y : Operand} {b : Nat} {i : Nat} (hal : al.contains i = false) (hx : Rg.iq l n T a0 i x (Rg.ai (.pointer (some ⟨b, 0, none⟩)))) (hy : Rg.iq l n T a0 i y (Rg.ai (.int .i64 (k : Int)))) (hk : k < 7) (hT : T i = Rg.ai (.pointer (some ⟨b, k, none⟩))) :
  Rg.Step Tryz.prog Q l n T G dm al a0 i { dst := some d, op := .indexAddr 42 x y, type := ty, pos := pos, after := af, guard := gd } := by
 intro a w hG hO hN
 exact jm (P := Tryz.prog) (ath hk (hx a w hO hN) (hy a w hO hN)) ⟨_, rfl, hG, Below.refl _ _, by rw [hT]; rfl, fun h => by rw [hal] at h; cases h⟩
theorem azh {ρ : Operand → Value} {w : World} {d : Option Tmp} {x y : Operand} {f : Nat → Int} {k : Nat} {ty : TypeId} {pos : String} {af : Array Edge} {gd : Option (Nat × Bool)} (hk : k < 7) (hx : ρ x = aV f) (hy : ρ y = .int .i64 (k : Int)) :
  (execOp ρ { dst := d, op := .index 42 x y, type := ty, pos := pos, after := af, guard := gd }).run Tryz.prog w = .ok (.value (.int .i64 (f k))) w := by
 unfold aV at hx
 have hc : k = 0 ∨ k = 1 ∨ k = 2 ∨ k = 3 ∨ k = 4 ∨ k = 5 ∨ k = 6 := by omega
 rcases hc with rfl | rfl | rfl | rfl | rfl | rfl | rfl <;> (simp only [execOp, hx, hy]; simp [go_sem, Instr.index])
theorem bgy {Q : Exit → Act → World → Prop} {l : List Oper} {n : Nat} {T : Nat → World → Value → Prop} {G : World → Prop} {al : List Nat} {a0 : Act} {k d : Nat} {ty : TypeId} {pos : String} {af : Array Edge} {gd : Option (Nat × Bool)} {x y : Operand} {f : Nat → Int} {i : Nat} (hal : al.contains i = false) (hx : Rg.iq l n T a0 i x (Rg.ai (aV f))) (hy : Rg.iq l n T a0 i y (Rg.ai (.int .i64 (k : Int)))) (hk : k < 7) (hT : T i = Rg.ai (.int .i64 (f k))) :
  Rg.Step Tryz.prog Q l n T G dm al a0 i { dst := some d, op := .index 42 x y, type := ty, pos := pos, after := af, guard := gd } := by
 intro a w hG hO hN
 exact jm (P := Tryz.prog) (azh hk (hx a w hO hN) (hy a w hO hN)) ⟨_, rfl, hG, Below.refl _ _, by rw [hT]; rfl, fun h => by rw [hal] at h; cases h⟩
theorem atm {ρ : Operand → Value} {w : World} {d : Option Tmp} {x y : Operand} {o z c : Int} {ty : TypeId} {pos : String} {af : Array Edge} {gd : Option (Nat × Bool)} (hx : ρ x = .int .i64 o) (hy : ρ y = .int .i64 z) (hw : wrap64 (o + z) = c) :
  (execOp ρ { dst := d, op := .binOp .add 3 x y 3, type := ty, pos := pos, after := af, guard := gd }).run Tryz.prog w = .ok (.value (.int .i64 c)) w := by
 have hw2 : IntKind.i64.wrap (o + z) = c := (IntWalk.i64_left _).trans hw
 simp only [execOp, hx, hy]
 simp [go_sem, Tryz.underlying3, hw, hw2]
theorem aov {Q : Exit → Act → World → Prop} {l : List Oper} {n : Nat} {T : Nat → World → Value → Prop} {G : World → Prop} {al : List Nat} {a0 : Act} {k d : Nat} {ty : TypeId} {pos : String} {af : Array Edge} {gd : Option (Nat × Bool)} {x y : Operand} {o z c : Int} (hal : al.contains k = false) (hx : Rg.iq l n T a0 k x (Rg.ai (.int .i64 o))) (hy : Rg.iq l n T a0 k y (Rg.ai (.int .i64 z))) (hw : wrap64 (o + z) = c) (hT : T k = Rg.ai (.int .i64 c)) :
  Rg.Step Tryz.prog Q l n T G dm al a0 k { dst := some d, op := .binOp .add 3 x y 3, type := ty, pos := pos, after := af, guard := gd } := by
 intro a w hG hO hN
 exact jm (P := Tryz.prog) (atm (hx a w hO hN) (hy a w hO hN) hw) ⟨_, rfl, hG, Below.refl _ _, by rw [hT]; rfl, fun h => by rw [hal] at h; cases h⟩
theorem ate {ρ : Operand → Value} {w : World} {d : Option Tmp} {x y : Operand} {o z c : Int} {ty : TypeId} {pos : String} {af : Array Edge} {gd : Option (Nat × Bool)} (hx : ρ x = .int .i64 o) (hy : ρ y = .int .i64 z) (hw : wrap64 (o * z) = c) :
  (execOp ρ { dst := d, op := .binOp .mul 3 x y 3, type := ty, pos := pos, after := af, guard := gd }).run Tryz.prog w = .ok (.value (.int .i64 c)) w := by
 have hw2 : IntKind.i64.wrap (o * z) = c := (IntWalk.i64_left _).trans hw
 simp only [execOp, hx, hy]
 simp [go_sem, Tryz.underlying3, hw, hw2]
theorem aoq {Q : Exit → Act → World → Prop} {l : List Oper} {n : Nat} {T : Nat → World → Value → Prop} {G : World → Prop} {al : List Nat} {a0 : Act} {k d : Nat} {ty : TypeId} {pos : String} {af : Array Edge} {gd : Option (Nat × Bool)} {x y : Operand} {o z c : Int} (hal : al.contains k = false) (hx : Rg.iq l n T a0 k x (Rg.ai (.int .i64 o))) (hy : Rg.iq l n T a0 k y (Rg.ai (.int .i64 z))) (hw : wrap64 (o * z) = c) (hT : T k = Rg.ai (.int .i64 c)) :
  Rg.Step Tryz.prog Q l n T G dm al a0 k { dst := some d, op := .binOp .mul 3 x y 3, type := ty, pos := pos, after := af, guard := gd } := by
 intro a w hG hO hN
 exact jm (P := Tryz.prog) (ate (hx a w hO hN) (hy a w hO hN) hw) ⟨_, rfl, hG, Below.refl _ _, by rw [hT]; rfl, fun h => by rw [hal] at h; cases h⟩
theorem jb : Dj Tryz.prog 44 9 := by
 intro ρ w d x b off us ty pos af gd hl hc hx
 match us, hl with
 | [u0, u1, u2, u3, u4, u5, u6, u7, u8], _ =>
 have k0 : w.cell? ⟨b, off, none⟩ = some u0 := hc 0 om
 have k1 : w.cell? ⟨b, off + 1, none⟩ = some u1 := hc 1 om
 have k2 : w.cell? ⟨b, off + 2, none⟩ = some u2 := hc 2 om
 have k3 : w.cell? ⟨b, off + 3, none⟩ = some u3 := hc 3 om
 have k4 : w.cell? ⟨b, off + 4, none⟩ = some u4 := hc 4 om
 have k5 : w.cell? ⟨b, off + 5, none⟩ = some u5 := hc 5 om
 have k6 : w.cell? ⟨b, off + 6, none⟩ = some u6 := hc 6 om
 have k7 : w.cell? ⟨b, off + 7, none⟩ = some u7 := hc 7 om
 have k8 : w.cell? ⟨b, off + 8, none⟩ = some u8 := hc 8 om
 clear hc
 simp only [execOp, hx]
 simp [go_sem, k0, k1, k2, k3, k4, k5, k6, k7, k8]
theorem oo : zq Tryz.prog 44 9 := by
 intro ρ w d p x b off cs TB us ty pos af gd hl hu hb ho hp hx
 match us, hl with
 | [u0, u1, u2, u3, u4, u5, u6, u7, u8], _ =>
 have o0 := hu u0 (by simp)
 have o1 := hu u1 (by simp)
 have o2 := hu u2 (by simp)
 have o3 := hu u3 (by simp)
 have o4 := hu u4 (by simp)
 have o5 := hu u5 (by simp)
 have o6 := hu u6 (by simp)
 have o7 := hu u7 (by simp)
 have o8 := hu u8 (by simp)
 have f0 : w.frozen? ⟨b, off, none⟩ = false := ax hb _
 have f1 : w.frozen? ⟨b, off + 1, none⟩ = false := ax hb _
 have f2 : w.frozen? ⟨b, off + 2, none⟩ = false := ax hb _
 have f3 : w.frozen? ⟨b, off + 3, none⟩ = false := ax hb _
 have f4 : w.frozen? ⟨b, off + 4, none⟩ = false := ax hb _
 have f5 : w.frozen? ⟨b, off + 5, none⟩ = false := ax hb _
 have f6 : w.frozen? ⟨b, off + 6, none⟩ = false := ax hb _
 have f7 : w.frozen? ⟨b, off + 7, none⟩ = false := ax hb _
 have f8 : w.frozen? ⟨b, off + 8, none⟩ = false := ax hb _
 obtain ⟨c0, k0⟩ : ∃ c, w.cell? ⟨b, off, none⟩ = some c := jf hb om
 obtain ⟨c1, k1⟩ : ∃ c, w.cell? ⟨b, off + 1, none⟩ = some c := jf hb om
 obtain ⟨c2, k2⟩ : ∃ c, w.cell? ⟨b, off + 2, none⟩ = some c := jf hb om
 obtain ⟨c3, k3⟩ : ∃ c, w.cell? ⟨b, off + 3, none⟩ = some c := jf hb om
 obtain ⟨c4, k4⟩ : ∃ c, w.cell? ⟨b, off + 4, none⟩ = some c := jf hb om
 obtain ⟨c5, k5⟩ : ∃ c, w.cell? ⟨b, off + 5, none⟩ = some c := jf hb om
 obtain ⟨c6, k6⟩ : ∃ c, w.cell? ⟨b, off + 6, none⟩ = some c := jf hb om
 obtain ⟨c7, k7⟩ : ∃ c, w.cell? ⟨b, off + 7, none⟩ = some c := jf hb om
 obtain ⟨c8, k8⟩ : ∃ c, w.cell? ⟨b, off + 8, none⟩ = some c := jf hb om
 have hlt := lt_of_block hb
 clear hb ho hu
 simp only [execOp, hp, hx, setM]
 simp [go_sem, hlt, run_store _ _ _ _ _ o0, o0, run_store _ _ _ _ _ o1, o1, run_store _ _ _ _ _ o2, o2, run_store _ _ _ _ _ o3, o3, run_store _ _ _ _ _ o4, o4, run_store _ _ _ _ _ o5, o5, run_store _ _ _ _ _ o6, o6, run_store _ _ _ _ _ o7, o7, run_store _ _ _ _ _ o8, o8, k0, k1, k2, k3, k4, k5, k6, k7, k8, f0, f1, f2, f3, f4, f5, f6, f7, f8]
theorem Jy : Iw Tryz.prog 44 [.int .i64 0, .int .i64 0, .int .i64 0, .int .i64 0, .int .i64 0, .int .i64 0, .int .i64 0, .int .i64 0, .int .i64 0] := by
 intro ρ w d ty pos af gd
 simp only [execOp]
 simp [go_sem]
theorem uh : Kb Tryz.prog 44 9 := by
 intro w b off us hl hc
 match us, hl with
 | [u0, u1, u2, u3, u4, u5, u6, u7, u8], _ =>
 have k0 : w.cell? ⟨b, off, none⟩ = some u0 := hc 0 om
 have k1 : w.cell? ⟨b, off + 1, none⟩ = some u1 := hc 1 om
 have k2 : w.cell? ⟨b, off + 2, none⟩ = some u2 := hc 2 om
 have k3 : w.cell? ⟨b, off + 3, none⟩ = some u3 := hc 3 om
 have k4 : w.cell? ⟨b, off + 4, none⟩ = some u4 := hc 4 om
 have k5 : w.cell? ⟨b, off + 5, none⟩ = some u5 := hc 5 om
 have k6 : w.cell? ⟨b, off + 6, none⟩ = some u6 := hc 6 om
 have k7 : w.cell? ⟨b, off + 7, none⟩ = some u7 := hc 7 om
 have k8 : w.cell? ⟨b, off + 8, none⟩ = some u8 := hc 8 om
 clear hc
 simp [go_sem, k0, k1, k2, k3, k4, k5, k6, k7, k8]
theorem Pv : Dj Tryz.prog 118 13 := by
 intro ρ w d x b off us ty pos af gd hl hc hx
 match us, hl with
 | [u0, u1, u2, u3, u4, u5, u6, u7, u8, u9, Tj, u11, u12], _ =>
 have k0 : w.cell? ⟨b, off, none⟩ = some u0 := hc 0 om
 have k1 : w.cell? ⟨b, off + 1, none⟩ = some u1 := hc 1 om
 have k2 : w.cell? ⟨b, off + 2, none⟩ = some u2 := hc 2 om
 have k3 : w.cell? ⟨b, off + 3, none⟩ = some u3 := hc 3 om
 have k4 : w.cell? ⟨b, off + 4, none⟩ = some u4 := hc 4 om
 have k5 : w.cell? ⟨b, off + 5, none⟩ = some u5 := hc 5 om
 have k6 : w.cell? ⟨b, off + 6, none⟩ = some u6 := hc 6 om
 have k7 : w.cell? ⟨b, off + 7, none⟩ = some u7 := hc 7 om
 have k8 : w.cell? ⟨b, off + 8, none⟩ = some u8 := hc 8 om
 have k9 : w.cell? ⟨b, off + 9, none⟩ = some u9 := hc 9 om
 have k10 : w.cell? ⟨b, off + 10, none⟩ = some Tj := hc 10 om
 have k11 : w.cell? ⟨b, off + 11, none⟩ = some u11 := hc 11 om
 have k12 : w.cell? ⟨b, off + 12, none⟩ = some u12 := hc 12 om
 clear hc
 simp only [execOp, hx]
 simp [go_sem, k0, k1, k2, k3, k4, k5, k6, k7, k8, k9, k10, k11, k12]
theorem Bq : zq Tryz.prog 118 13 := by
 intro ρ w d p x b off cs TB us ty pos af gd hl hu hb ho hp hx
 match us, hl with
 | [u0, u1, u2, u3, u4, u5, u6, u7, u8, u9, Tj, u11, u12], _ =>
 have o0 := hu u0 (by simp)
 have o1 := hu u1 (by simp)
 have o2 := hu u2 (by simp)
 have o3 := hu u3 (by simp)
 have o4 := hu u4 (by simp)
 have o5 := hu u5 (by simp)
 have o6 := hu u6 (by simp)
 have o7 := hu u7 (by simp)
 have o8 := hu u8 (by simp)
 have o9 := hu u9 (by simp)
 have o10 := hu Tj (by simp)
 have o11 := hu u11 (by simp)
 have o12 := hu u12 (by simp)
 have f0 : w.frozen? ⟨b, off, none⟩ = false := ax hb _
 have f1 : w.frozen? ⟨b, off + 1, none⟩ = false := ax hb _
 have f2 : w.frozen? ⟨b, off + 2, none⟩ = false := ax hb _
 have f3 : w.frozen? ⟨b, off + 3, none⟩ = false := ax hb _
 have f4 : w.frozen? ⟨b, off + 4, none⟩ = false := ax hb _
 have f5 : w.frozen? ⟨b, off + 5, none⟩ = false := ax hb _
 have f6 : w.frozen? ⟨b, off + 6, none⟩ = false := ax hb _
 have f7 : w.frozen? ⟨b, off + 7, none⟩ = false := ax hb _
 have f8 : w.frozen? ⟨b, off + 8, none⟩ = false := ax hb _
 have f9 : w.frozen? ⟨b, off + 9, none⟩ = false := ax hb _
 have f10 : w.frozen? ⟨b, off + 10, none⟩ = false := ax hb _
 have f11 : w.frozen? ⟨b, off + 11, none⟩ = false := ax hb _
 have f12 : w.frozen? ⟨b, off + 12, none⟩ = false := ax hb _
 obtain ⟨c0, k0⟩ : ∃ c, w.cell? ⟨b, off, none⟩ = some c := jf hb om
 obtain ⟨c1, k1⟩ : ∃ c, w.cell? ⟨b, off + 1, none⟩ = some c := jf hb om
 obtain ⟨c2, k2⟩ : ∃ c, w.cell? ⟨b, off + 2, none⟩ = some c := jf hb om
 obtain ⟨c3, k3⟩ : ∃ c, w.cell? ⟨b, off + 3, none⟩ = some c := jf hb om
 obtain ⟨c4, k4⟩ : ∃ c, w.cell? ⟨b, off + 4, none⟩ = some c := jf hb om
 obtain ⟨c5, k5⟩ : ∃ c, w.cell? ⟨b, off + 5, none⟩ = some c := jf hb om
 obtain ⟨c6, k6⟩ : ∃ c, w.cell? ⟨b, off + 6, none⟩ = some c := jf hb om
 obtain ⟨c7, k7⟩ : ∃ c, w.cell? ⟨b, off + 7, none⟩ = some c := jf hb om
 obtain ⟨c8, k8⟩ : ∃ c, w.cell? ⟨b, off + 8, none⟩ = some c := jf hb om
 obtain ⟨c9, k9⟩ : ∃ c, w.cell? ⟨b, off + 9, none⟩ = some c := jf hb om
 obtain ⟨c10, k10⟩ : ∃ c, w.cell? ⟨b, off + 10, none⟩ = some c := jf hb om
 obtain ⟨c11, k11⟩ : ∃ c, w.cell? ⟨b, off + 11, none⟩ = some c := jf hb om
 obtain ⟨c12, k12⟩ : ∃ c, w.cell? ⟨b, off + 12, none⟩ = some c := jf hb om
 have hlt := lt_of_block hb
 clear hb ho hu
 simp only [execOp, hp, hx, setM]
 simp [go_sem, hlt, run_store _ _ _ _ _ o0, o0, run_store _ _ _ _ _ o1, o1, run_store _ _ _ _ _ o2, o2, run_store _ _ _ _ _ o3, o3, run_store _ _ _ _ _ o4, o4, run_store _ _ _ _ _ o5, o5, run_store _ _ _ _ _ o6, o6, run_store _ _ _ _ _ o7, o7, run_store _ _ _ _ _ o8, o8, run_store _ _ _ _ _ o9, o9, run_store _ _ _ _ _ o10, o10, run_store _ _ _ _ _ o11, o11, run_store _ _ _ _ _ o12, o12, k0, k1, k2, k3, k4, k5, k6, k7, k8, k9, k10, k11, k12, f0, f1, f2, f3, f4, f5, f6, f7, f8, f9, f10, f11, f12]
theorem adr : Iw Tryz.prog 118 [.int .i64 0, .int .i64 0, .int .i64 0, .int .i64 0, .int .i64 0, .int .i64 0, .int .i64 0, .int .i64 0, .bool false, .slice none 0 0, .int .i64 0, .bool false, .slice none 0 0] := by
 intro ρ w d ty pos af gd
 simp only [execOp]
 simp [go_sem]
theorem Ia : Kb Tryz.prog 118 13 := by
 intro w b off us hl hc
 match us, hl with
 | [u0, u1, u2, u3, u4, u5, u6, u7, u8, u9, Tj, u11, u12], _ =>
 have k0 : w.cell? ⟨b, off, none⟩ = some u0 := hc 0 om
 have k1 : w.cell? ⟨b, off + 1, none⟩ = some u1 := hc 1 om
 have k2 : w.cell? ⟨b, off + 2, none⟩ = some u2 := hc 2 om
 have k3 : w.cell? ⟨b, off + 3, none⟩ = some u3 := hc 3 om
 have k4 : w.cell? ⟨b, off + 4, none⟩ = some u4 := hc 4 om
 have k5 : w.cell? ⟨b, off + 5, none⟩ = some u5 := hc 5 om
 have k6 : w.cell? ⟨b, off + 6, none⟩ = some u6 := hc 6 om
 have k7 : w.cell? ⟨b, off + 7, none⟩ = some u7 := hc 7 om
 have k8 : w.cell? ⟨b, off + 8, none⟩ = some u8 := hc 8 om
 have k9 : w.cell? ⟨b, off + 9, none⟩ = some u9 := hc 9 om
 have k10 : w.cell? ⟨b, off + 10, none⟩ = some Tj := hc 10 om
 have k11 : w.cell? ⟨b, off + 11, none⟩ = some u11 := hc 11 om
 have k12 : w.cell? ⟨b, off + 12, none⟩ = some u12 := hc 12 om
 clear hc
 simp [go_sem, k0, k1, k2, k3, k4, k5, k6, k7, k8, k9, k10, k11, k12]
theorem bdb : Dj Tryz.prog 113 11 := by
 intro ρ w d x b off us ty pos af gd hl hc hx
 match us, hl with
 | [u0, u1, u2, u3, u4, u5, u6, u7, u8, u9, Tj], _ =>
 have k0 : w.cell? ⟨b, off, none⟩ = some u0 := hc 0 om
 have k1 : w.cell? ⟨b, off + 1, none⟩ = some u1 := hc 1 om
 have k2 : w.cell? ⟨b, off + 2, none⟩ = some u2 := hc 2 om
 have k3 : w.cell? ⟨b, off + 3, none⟩ = some u3 := hc 3 om
 have k4 : w.cell? ⟨b, off + 4, none⟩ = some u4 := hc 4 om
 have k5 : w.cell? ⟨b, off + 5, none⟩ = some u5 := hc 5 om
 have k6 : w.cell? ⟨b, off + 6, none⟩ = some u6 := hc 6 om
 have k7 : w.cell? ⟨b, off + 7, none⟩ = some u7 := hc 7 om
 have k8 : w.cell? ⟨b, off + 8, none⟩ = some u8 := hc 8 om
 have k9 : w.cell? ⟨b, off + 9, none⟩ = some u9 := hc 9 om
 have k10 : w.cell? ⟨b, off + 10, none⟩ = some Tj := hc 10 om
 clear hc
 simp only [execOp, hx]
 simp [go_sem, k0, k1, k2, k3, k4, k5, k6, k7, k8, k9, k10]
theorem aaw : zq Tryz.prog 113 11 := by
 intro ρ w d p x b off cs TB us ty pos af gd hl hu hb ho hp hx
 match us, hl with
 | [u0, u1, u2, u3, u4, u5, u6, u7, u8, u9, Tj], _ =>
 have o0 := hu u0 (by simp)
 have o1 := hu u1 (by simp)
 have o2 := hu u2 (by simp)
 have o3 := hu u3 (by simp)
 have o4 := hu u4 (by simp)
 have o5 := hu u5 (by simp)
 have o6 := hu u6 (by simp)
 have o7 := hu u7 (by simp)
 have o8 := hu u8 (by simp)
 have o9 := hu u9 (by simp)
 have o10 := hu Tj (by simp)
 have f0 : w.frozen? ⟨b, off, none⟩ = false := ax hb _
 have f1 : w.frozen? ⟨b, off + 1, none⟩ = false := ax hb _
 have f2 : w.frozen? ⟨b, off + 2, none⟩ = false := ax hb _
 have f3 : w.frozen? ⟨b, off + 3, none⟩ = false := ax hb _
 have f4 : w.frozen? ⟨b, off + 4, none⟩ = false := ax hb _
 have f5 : w.frozen? ⟨b, off + 5, none⟩ = false := ax hb _
 have f6 : w.frozen? ⟨b, off + 6, none⟩ = false := ax hb _
 have f7 : w.frozen? ⟨b, off + 7, none⟩ = false := ax hb _
 have f8 : w.frozen? ⟨b, off + 8, none⟩ = false := ax hb _
 have f9 : w.frozen? ⟨b, off + 9, none⟩ = false := ax hb _
 have f10 : w.frozen? ⟨b, off + 10, none⟩ = false := ax hb _
 obtain ⟨c0, k0⟩ : ∃ c, w.cell? ⟨b, off, none⟩ = some c := jf hb om
 obtain ⟨c1, k1⟩ : ∃ c, w.cell? ⟨b, off + 1, none⟩ = some c := jf hb om
 obtain ⟨c2, k2⟩ : ∃ c, w.cell? ⟨b, off + 2, none⟩ = some c := jf hb om
 obtain ⟨c3, k3⟩ : ∃ c, w.cell? ⟨b, off + 3, none⟩ = some c := jf hb om
 obtain ⟨c4, k4⟩ : ∃ c, w.cell? ⟨b, off + 4, none⟩ = some c := jf hb om
 obtain ⟨c5, k5⟩ : ∃ c, w.cell? ⟨b, off + 5, none⟩ = some c := jf hb om
 obtain ⟨c6, k6⟩ : ∃ c, w.cell? ⟨b, off + 6, none⟩ = some c := jf hb om
 obtain ⟨c7, k7⟩ : ∃ c, w.cell? ⟨b, off + 7, none⟩ = some c := jf hb om
 obtain ⟨c8, k8⟩ : ∃ c, w.cell? ⟨b, off + 8, none⟩ = some c := jf hb om
 obtain ⟨c9, k9⟩ : ∃ c, w.cell? ⟨b, off + 9, none⟩ = some c := jf hb om
 obtain ⟨c10, k10⟩ : ∃ c, w.cell? ⟨b, off + 10, none⟩ = some c := jf hb om
 have hlt := lt_of_block hb
 clear hb ho hu
 simp only [execOp, hp, hx, setM]
 simp [go_sem, hlt, run_store _ _ _ _ _ o0, o0, run_store _ _ _ _ _ o1, o1, run_store _ _ _ _ _ o2, o2, run_store _ _ _ _ _ o3, o3, run_store _ _ _ _ _ o4, o4, run_store _ _ _ _ _ o5, o5, run_store _ _ _ _ _ o6, o6, run_store _ _ _ _ _ o7, o7, run_store _ _ _ _ _ o8, o8, run_store _ _ _ _ _ o9, o9, run_store _ _ _ _ _ o10, o10, k0, k1, k2, k3, k4, k5, k6, k7, k8, k9, k10, f0, f1, f2, f3, f4, f5, f6, f7, f8, f9, f10]
theorem abf : Kb Tryz.prog 113 11 := by
 intro w b off us hl hc
 match us, hl with
 | [u0, u1, u2, u3, u4, u5, u6, u7, u8, u9, Tj], _ =>
 have k0 : w.cell? ⟨b, off, none⟩ = some u0 := hc 0 om
 have k1 : w.cell? ⟨b, off + 1, none⟩ = some u1 := hc 1 om
 have k2 : w.cell? ⟨b, off + 2, none⟩ = some u2 := hc 2 om
 have k3 : w.cell? ⟨b, off + 3, none⟩ = some u3 := hc 3 om
 have k4 : w.cell? ⟨b, off + 4, none⟩ = some u4 := hc 4 om
 have k5 : w.cell? ⟨b, off + 5, none⟩ = some u5 := hc 5 om
 have k6 : w.cell? ⟨b, off + 6, none⟩ = some u6 := hc 6 om
 have k7 : w.cell? ⟨b, off + 7, none⟩ = some u7 := hc 7 om
 have k8 : w.cell? ⟨b, off + 8, none⟩ = some u8 := hc 8 om
 have k9 : w.cell? ⟨b, off + 9, none⟩ = some u9 := hc 9 om
 have k10 : w.cell? ⟨b, off + 10, none⟩ = some Tj := hc 10 om
 clear hc
 simp [go_sem, k0, k1, k2, k3, k4, k5, k6, k7, k8, k9, k10]
theorem xw : Dj Tryz.prog 42 7 := by
 intro ρ w d x b off us ty pos af gd hl hc hx
 match us, hl with
 | [u0, u1, u2, u3, u4, u5, u6], _ =>
 have k0 : w.cell? ⟨b, off, none⟩ = some u0 := hc 0 om
 have k1 : w.cell? ⟨b, off + 1, none⟩ = some u1 := hc 1 om
 have k2 : w.cell? ⟨b, off + 2, none⟩ = some u2 := hc 2 om
 have k3 : w.cell? ⟨b, off + 3, none⟩ = some u3 := hc 3 om
 have k4 : w.cell? ⟨b, off + 4, none⟩ = some u4 := hc 4 om
 have k5 : w.cell? ⟨b, off + 5, none⟩ = some u5 := hc 5 om
 have k6 : w.cell? ⟨b, off + 6, none⟩ = some u6 := hc 6 om
 clear hc
 simp only [execOp, hx]
 simp [go_sem, k0, k1, k2, k3, k4, k5, k6]
theorem avx : aao Tryz.prog 44 [.int .i64 0, .int .i64 0, .int .i64 0, .int .i64 0, .int .i64 0, .int .i64 0, .int .i64 0, .int .i64 0, .int .i64 0] := by
 intro ρ w d ty pos af gd
 simp only [execOp]
 simp [go_sem]
 try rfl
theorem Qb : Qm Tryz.prog 44 7 2 := by
 intro ρ w d x y us vs ty pos af gd h1 h2 e1 e2
 match us, h1, vs, h2 with
 | [u0, u1, u2, u3, u4, u5, u6], _, [v0, v1], _ =>
 simp only [execOp]
 simp [go_sem, e1, e2]
 try rfl
theorem bav : Qm Tryz.prog 118 7 6 := by
 intro ρ w d x y us vs ty pos af gd h1 h2 e1 e2
 match us, h1, vs, h2 with
 | [u0, u1, u2, u3, u4, u5, u6], _, [v0, v1, v2, v3, v4, v5], _ =>
 simp only [execOp]
 simp [go_sem, e1, e2]
 try rfl
theorem bau : Qm Tryz.prog 113 7 4 := by
 intro ρ w d x y us vs ty pos af gd h1 h2 e1 e2
 match us, h1, vs, h2 with
 | [u0, u1, u2, u3, u4, u5, u6], _, [v0, v1, v2, v3], _ =>
 simp only [execOp]
 simp [go_sem, e1, e2]
 try rfl
theorem bbd : Dn Tryz.prog (fun x => .fieldAddr 44 x 0) 0 := by
 intro a w d x b off ty pos af gd hx
 have hc : ∀ v, a.eval (.const v) = v := fun _ => rfl
 simp only [execOp, hx, hc]
 simp [go_sem]
theorem sw {Q : Exit → Act → World → Prop} {l : List Oper} {n : Nat} {T : Nat → World → Value → Prop} {G : World → Prop} {al : List Nat} {a0 : Act} {k d : Nat} {ty : TypeId} {pos : String} {af : Array Edge} {gd : Option (Nat × Bool)} {b off off' : Nat} {x : Operand} (hal : al.contains k = false) (hx : Rg.iq l n T a0 k x (Rg.ai (.pointer (some ⟨b, off, none⟩)))) (ho : off + 0 = off') (hT : T k = Rg.ai (.pointer (some ⟨b, off', none⟩))) :
  Rg.Step Tryz.prog Q l n T G dm al a0 k { dst := some d, op := .fieldAddr 44 x 0, type := ty, pos := pos, after := af, guard := gd } := by
 exact Ee (P := Tryz.prog) (o := fun x => .fieldAddr 44 x 0) bbd hal hx ho hT
theorem bbc : Dn Tryz.prog (fun x => .fieldAddr 44 x 1) 7 := by
 intro a w d x b off ty pos af gd hx
 have hc : ∀ v, a.eval (.const v) = v := fun _ => rfl
 simp only [execOp, hx, hc]
 simp [go_sem]
theorem vo {Q : Exit → Act → World → Prop} {l : List Oper} {n : Nat} {T : Nat → World → Value → Prop} {G : World → Prop} {al : List Nat} {a0 : Act} {k d : Nat} {ty : TypeId} {pos : String} {af : Array Edge} {gd : Option (Nat × Bool)} {b off off' : Nat} {x : Operand} (hal : al.contains k = false) (hx : Rg.iq l n T a0 k x (Rg.ai (.pointer (some ⟨b, off, none⟩)))) (ho : off + 7 = off') (hT : T k = Rg.ai (.pointer (some ⟨b, off', none⟩))) :
  Rg.Step Tryz.prog Q l n T G dm al a0 k { dst := some d, op := .fieldAddr 44 x 1, type := ty, pos := pos, after := af, guard := gd } := by
 exact Ee (P := Tryz.prog) (o := fun x => .fieldAddr 44 x 1) bbc hal hx ho hT
theorem bbi : Dn Tryz.prog (fun x => .fieldAddr 118 x 0) 0 := by
 intro a w d x b off ty pos af gd hx
 have hc : ∀ v, a.eval (.const v) = v := fun _ => rfl
 simp only [execOp, hx, hc]
 simp [go_sem]
theorem Co {Q : Exit → Act → World → Prop} {l : List Oper} {n : Nat} {T : Nat → World → Value → Prop} {G : World → Prop} {al : List Nat} {a0 : Act} {k d : Nat} {ty : TypeId} {pos : String} {af : Array Edge} {gd : Option (Nat × Bool)} {b off off' : Nat} {x : Operand} (hal : al.contains k = false) (hx : Rg.iq l n T a0 k x (Rg.ai (.pointer (some ⟨b, off, none⟩)))) (ho : off + 0 = off') (hT : T k = Rg.ai (.pointer (some ⟨b, off', none⟩))) :
  Rg.Step Tryz.prog Q l n T G dm al a0 k { dst := some d, op := .fieldAddr 118 x 0, type := ty, pos := pos, after := af, guard := gd } := by
 exact Ee (P := Tryz.prog) (o := fun x => .fieldAddr 118 x 0) bbi hal hx ho hT
theorem bbh : Dn Tryz.prog (fun x => .fieldAddr 118 x 1) 7 := by
 intro a w d x b off ty pos af gd hx
 have hc : ∀ v, a.eval (.const v) = v := fun _ => rfl
 simp only [execOp, hx, hc]
 simp [go_sem]
theorem Ff {Q : Exit → Act → World → Prop} {l : List Oper} {n : Nat} {T : Nat → World → Value → Prop} {G : World → Prop} {al : List Nat} {a0 : Act} {k d : Nat} {ty : TypeId} {pos : String} {af : Array Edge} {gd : Option (Nat × Bool)} {b off off' : Nat} {x : Operand} (hal : al.contains k = false) (hx : Rg.iq l n T a0 k x (Rg.ai (.pointer (some ⟨b, off, none⟩)))) (ho : off + 7 = off') (hT : T k = Rg.ai (.pointer (some ⟨b, off', none⟩))) :
  Rg.Step Tryz.prog Q l n T G dm al a0 k { dst := some d, op := .fieldAddr 118 x 1, type := ty, pos := pos, after := af, guard := gd } := by
 exact Ee (P := Tryz.prog) (o := fun x => .fieldAddr 118 x 1) bbh hal hx ho hT
theorem bbb : Dn Tryz.prog (fun x => .fieldAddr 113 x 0) 0 := by
 intro a w d x b off ty pos af gd hx
 have hc : ∀ v, a.eval (.const v) = v := fun _ => rfl
 simp only [execOp, hx, hc]
 simp [go_sem]
theorem Hy {Q : Exit → Act → World → Prop} {l : List Oper} {n : Nat} {T : Nat → World → Value → Prop} {G : World → Prop} {al : List Nat} {a0 : Act} {k d : Nat} {ty : TypeId} {pos : String} {af : Array Edge} {gd : Option (Nat × Bool)} {b off off' : Nat} {x : Operand} (hal : al.contains k = false) (hx : Rg.iq l n T a0 k x (Rg.ai (.pointer (some ⟨b, off, none⟩)))) (ho : off + 0 = off') (hT : T k = Rg.ai (.pointer (some ⟨b, off', none⟩))) :
  Rg.Step Tryz.prog Q l n T G dm al a0 k { dst := some d, op := .fieldAddr 113 x 0, type := ty, pos := pos, after := af, guard := gd } := by
 exact Ee (P := Tryz.prog) (o := fun x => .fieldAddr 113 x 0) bbb hal hx ho hT
theorem bba : Dn Tryz.prog (fun x => .fieldAddr 113 x 1) 7 := by
 intro a w d x b off ty pos af gd hx
 have hc : ∀ v, a.eval (.const v) = v := fun _ => rfl
 simp only [execOp, hx, hc]
 simp [go_sem]
theorem Hw {Q : Exit → Act → World → Prop} {l : List Oper} {n : Nat} {T : Nat → World → Value → Prop} {G : World → Prop} {al : List Nat} {a0 : Act} {k d : Nat} {ty : TypeId} {pos : String} {af : Array Edge} {gd : Option (Nat × Bool)} {b off off' : Nat} {x : Operand} (hal : al.contains k = false) (hx : Rg.iq l n T a0 k x (Rg.ai (.pointer (some ⟨b, off, none⟩)))) (ho : off + 7 = off') (hT : T k = Rg.ai (.pointer (some ⟨b, off', none⟩))) :
  Rg.Step Tryz.prog Q l n T G dm al a0 k { dst := some d, op := .fieldAddr 113 x 1, type := ty, pos := pos, after := af, guard := gd } := by
 exact Ee (P := Tryz.prog) (o := fun x => .fieldAddr 113 x 1) bba hal hx ho hT
theorem azd {ρ : Operand → Value} {w : World} {d : Option Tmp} {p x : Operand} {b off : Nat} {cs : List Value} {TB : TypeId} {v : Int} {ty : TypeId} {pos : String} {af : Array Edge} {gd : Option (Nat × Bool)} (hb : w.heap[b]? = some (.cells cs.toArray TB (0, 0))) (ho : off < cs.length) (hp : ρ p = .pointer (some ⟨b, off, none⟩)) (hx : ρ x = .int .i64 v) :
  (execOp ρ { dst := d, op := .store 3 p x, type := ty, pos := pos, after := af, guard := gd }).run Tryz.prog w = .ok .skip (setM w b off [.int .i64 v]) := by
 have f0 : w.frozen? ⟨b, off, none⟩ = false := ax hb _
 obtain ⟨c0, k0⟩ : ∃ c, w.cell? ⟨b, off, none⟩ = some c := jf hb ho
 have hlt := lt_of_block hb
 clear hb ho
 simp only [execOp, hp, hx, setM]
 simp [go_sem, hlt, k0, f0]
theorem aee {ops : Array Oper} {Q : Exit → Act → World → Prop} {rest : List Oper} {a : Act} {w0 w : World} {TB : TypeId} {p x : Operand} {b k : Nat} {f g : Nat → Int} {v : Int} {bs : List xx} {ty : TypeId} {pos : String} {af : Array Edge} (hO : Own w0 bs w) (i : Nat) (post : List jq)
  (hi : bs[i]? = some (b, TB, .k (eK f) :: post)) (hk : k < 7) (hp : a.eval p = .pointer (some ⟨b, k, none⟩)) (hv : a.eval x = .int .i64 v) (hg : ∀ j, j < 7 → (if j = k then v else f j) = g j)
  (hk2 : ∀ w', Own w0 (bs.set i (b, TB, .k (eK g) :: post)) w' → (∀ ks u, au ks w u → au ks w' u) → wpList Tryz.prog ops Q rest a w') :
  wpList Tryz.prog ops Q ({ dst := none, op := .store 3 p x, type := ty, pos := pos, after := af, guard := none } :: rest) a w := by
 obtain ⟨hlt, he⟩ := List.getElem?_eq_some_iff.1 hi
 have hbs : bs = bs.take i ++ (b, TB, .k (eK f) :: post) :: bs.drop (i + 1) := by
  rw [← he, ← List.drop_eq_getElem_cons hlt, List.take_append_drop]
 have hset : bs.set i (b, TB, .k (eK g) :: post) = bs.take i ++ (b, TB, .k (eK g) :: post) :: bs.drop (i + 1) := List.set_eq_take_append_cons_drop .. |>.trans (if_pos hlt)
 rw [hset] at hk2
 rw [hbs] at hO
 have hbx := hO.box b TB _ (List.mem_append_right _ List.mem_cons_self)
 obtain ⟨hge, cs, hb, hls⟩ := hbx
 have hlen : 7 ≤ cs.length := by
  have h1 := hls.len
  rw [h1]
  show 7 ≤ 7 + qm post
  omega
 unfold wpList
 rw [if_pos (by simp [Region.wanted])]
 refine .inl ?_
 unfold Oper.wp
 rw [azd hb om hp hv]
 exact hk2 _ (hO.blh hk hg) (fun ks u h => abp ⟨cs, hb, hls⟩ h)
theorem Ik {Q : Exit → Act → World → Prop} {l : List Oper} {n : Nat} {T : Nat → World → Value → Prop} {G : World → Prop} {al : List Nat} {a0 : Act} {k d : Nat} {ty : TypeId} {pos : String} {af : Array Edge} {gd : Option (Nat × Bool)} (hal : al.contains k = false) (hT : T k = au [.k (eK z7), .v (.int .i64 0), .v (.int .i64 0)]) :
  Rg.Step Tryz.prog Q l n T G dm al a0 k { dst := some d, op := .build 44 #[], type := ty, pos := pos, after := af, guard := gd } := by
 intro a w hG hO hN
 exact jm (P := Tryz.prog) (avx a.eval w (some d) ty pos af gd) ⟨_, rfl, hG, Below.refl _ _, by rw [hT]; exact ⟨_, rfl, eu.e (f := z7) (eu.v (iw _) (eu.v (iw _) rfl))⟩, fun h => by rw [hal] at h; cases h⟩
theorem aor {Q : Exit → Act → World → Prop} {l : List Oper} {n : Nat} {T : Nat → World → Value → Prop} {G : World → Prop} {al : List Nat} {a0 : Act} {k d : Nat} {ty : TypeId} {pos : String} {af : Array Edge} {gd : Option (Nat × Bool)} {b i m : Nat} {x y : Operand} (hal : al.contains k = false) (hx : Rg.iq l n T a0 k x (Rg.ai (.slice (some ⟨b, 0, none⟩) m m))) (hy : Rg.iq l n T a0 k y (Rg.ai (.int .i64 (i : Int)))) (hi : i < m) (hT : T k = Rg.ai (.pointer (some ⟨b, 1 * i, none⟩))) :
  Rg.Step Tryz.prog Q l n T G dm al a0 k { dst := some d, op := .indexAddr 37 x y, type := ty, pos := pos, after := af, guard := gd } := by
 intro a w hG hO hN
 have h1 := hx a w hO hN
 have h2 := hy a w hO hN
 have hr : (execOp a.eval { dst := some d, op := .indexAddr 37 x y, type := ty, pos := pos, after := af, guard := gd }).run Tryz.prog w = .ok (.value (.pointer (some ⟨b, 1 * i, none⟩))) w := by
  have h1' : a.eval x = .slice (some ⟨b, 0, none⟩) m m := h1
  have h2' : a.eval y = .int .i64 (i : Int) := h2
  simp only [execOp, h1', h2']
  simp [go_sem, hi, Nat.mul_comm]
 exact jm (P := Tryz.prog) hr ⟨_, rfl, hG, Below.refl _ _, by rw [hT]; rfl, fun h => by rw [hal] at h; cases h⟩
theorem aet {P : Program} {Q : Exit → Act → World → Prop} {l : List Oper} {n : Nat} {T : Nat → World → Value → Prop} {G : World → Prop} {al : List Nat} {a0 : Act} {k d : Nat} {ty : TypeId} {pos : String} {af : Array Edge} {gd : Option (Nat × Bool)} {F : Nat} {fn : Func} {f x1 : Operand} {A1 : World → Value → Prop} {ats : Array TypeId}
  (hF : P.funcs[F]? = some fn) (hn : (!(fn.name == "runtime.NumGoroutine") && fn.body.isSome) = true) (hal : al.contains k = false) (Ir : ∀ W W', G W → dm W W' → G W') (hf : Rg.iq l n T a0 k f (Rg.ai (.func (.func F) #[] #[]))) (h1 : Rg.iq l n T a0 k x1 A1)
  (hc : ∀ (W : World) (v1 : Value), G W → A1 W v1 → Calls P F #[v1] W fun e w' => ∃ u, e = .returned u ∧ dm W w' ∧ T k w' u) :
  Rg.Step P Q l n T G dm al a0 k { dst := some d, op := .call { callee := .value f, args := #[x1], argTypes := ats }, type := ty, pos := pos, after := af, guard := gd } := by
 intro a w hG hO hN
 refine Je (aox (Eo hF hn) (hf a w hO hN)) ?_
 simp only [List.map_toArray, List.map_cons, List.map_nil]
 refine (hc w (a.eval x1) hG (h1 a w hO hN)).mono ?_
 rintro e w' ⟨u, rfl, hb, ht⟩
 exact ⟨u, rfl, u, rfl, Ir _ _ hG hb, hb, ht, fun h => by rw [hal] at h; cases h⟩
theorem awt {Q : Exit → Act → World → Prop} {l : List Oper} {n : Nat} {T : Nat → World → Value → Prop} {G : World → Prop} {al : List Nat} {a0 : Act} {k d : Nat} {ty : TypeId} {pos : String} {af : Array Edge} {gd : Option (Nat × Bool)} {x : Operand} {TB : TypeId} {post : List jq} {f : Nat → Int} {b i : Nat}
  (hb : ∀ W, G W → uo W b TB (.k (eK f) :: post)) (hal : al.contains i = false) (hx : Rg.iq l n T a0 i x (Rg.ai (.pointer (some ⟨b, k, none⟩)))) (hk : k < 7) (hT : T i = Rg.ai (.int .i64 (f k))) :
  Rg.Step Tryz.prog Q l n T G dm al a0 i { dst := some d, op := .load 3 x, type := ty, pos := pos, after := af, guard := gd } := by
 intro a w' hG hO hN
 have h1 := uo.amz (pre := []) (hb w' hG) hk
 rw [show qm [] + k = k from Nat.zero_add k] at h1
 exact jm (P := Tryz.prog) (Ib a.eval w' (some d) x b k _ ty pos af gd h1 (hx a w' hO hN)) ⟨_, rfl, hG, Below.refl _ _, by rw [hT]; rfl, fun h => by rw [hal] at h; cases h⟩
theorem asx {Q : Exit → Act → World → Prop} {l : List Oper} {n : Nat} {T : Nat → World → Value → Prop} {G : World → Prop} {al : List Nat} {a0 : Act} {k d : Nat} {ty : TypeId} {pos : String} {af : Array Edge} {gd : Option (Nat × Bool)} {x : Operand} {b : Nat} {TB : TypeId} {post : List jq} {f : Nat → Int} (hb : ∀ W, G W → uo W b TB (.k (eK f) :: post)) (hal : al.contains k = false) (hx : Rg.iq l n T a0 k x (Rg.ai (.pointer (some ⟨b, 0, none⟩)))) (hT : T k = Rg.ai (.slice (some ⟨b, 0, none⟩) 7 7)) :
  Rg.Step Tryz.prog Q l n T G dm al a0 k { dst := some d, op := .slice 42 x none none none, type := ty, pos := pos, after := af, guard := gd } := by
 intro a w' hG hO hN
 have hr : (execOp a.eval { dst := some d, op := .slice 42 x none none none, type := ty, pos := pos, after := af, guard := gd }).run Tryz.prog w' = .ok (.value (.slice (some ⟨b, 0, none⟩) 7 7)) w' := by
  have hx' : a.eval x = .pointer (some ⟨b, 0, none⟩) := hx a w' hO hN
  simp only [execOp, hx']
  simp [go_sem, Instr.sliceAt, Instr.sliceBounds]
 exact jm (P := Tryz.prog) hr ⟨_, rfl, hG, Below.refl _ _, by rw [hT]; rfl, fun h => by rw [hal] at h; cases h⟩
end Sb

end Go.Proofs.YtfgeaakhlcaibaaGreatDoor
