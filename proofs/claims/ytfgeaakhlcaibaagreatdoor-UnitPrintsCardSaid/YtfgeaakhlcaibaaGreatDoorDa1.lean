/- Texts beneath a law of layer 1. -/
import Derived.StillTail
import Derived.OrdersHeld
import Derived.WalkKit
import Derived.WalkSpells
import Derived.Laws.OwnMore
import Derived.Deep.AppendLies
import Derived.Deep.Draws
import Derived.Laws.Rows
import Derived.Lib.Hide
import Derived.Test.YtfgeaakhlcaibaaGreatDoorProg
import Derived.BigQuiet
import Derived.Deep.QuietTactic
import Derived.StillTailTactics
import Derived.Deep.RegionWith
import Derived.Laws.Externs
import Derived.Shelf.Spec.BitsCarry
import Derived.Shelf.Bits.Mul64
set_option maxRecDepth 100000
set_option maxHeartbeats 16000000
namespace Go.Proofs.YtfgeaakhlcaibaaGreatDoor
theorem de {P : Prop} (h : P := by decide) : P := h
namespace Rg

def ja (l : List Oper) (j : Nat) : Option Tmp := (l[j]?).bind (·.dst)
def puts (v : Nat → Value) : Nat → List Oper → Act → Act
 | _, [], a => a
 | k, o :: l, a => puts v (k + 1) l (a.put o.dst (v k))
theorem put_defers (a : Act) (d : Option Tmp) (v : Value) : (a.put d v).defers = a.defers := by cases d <;> rfl
theorem Qz (a : Act) (d : Option Tmp) (v : Value) : (a.put d v).tmps.size = a.tmps.size := by cases d <;> simp [Act.put]
theorem Ex (a : Act) (d : Option Tmp) (v : Value) (t : Tmp) (h : d ≠ some t) : (a.put d v).tmps.getD t undef = a.tmps.getD t undef := by
 cases d with
 | none => rfl
 | some d =>
  have hne : d ≠ t := fun e => h (by rw [e])
  simp [Act.put, Array.getElem?_setIfInBounds_ne hne]
theorem Pj (a : Act) (v : Value) (d : Tmp) (h : d < a.tmps.size) : (a.put (some d) v).tmps.getD d undef = v := by
 simp [Act.put, h]
theorem Ju (v : Nat → Value) : ∀ (l : List Oper) (k : Nat) (a : Act), (puts v k l a).defers = a.defers
 | [], _, _ => rfl
 | o :: l, k, a => by rw [puts, Ju v l, put_defers]
theorem Np (v : Nat → Value) : ∀ (l : List Oper) (k : Nat) (a : Act), (puts v k l a).tmps.size = a.tmps.size
 | [], _, _ => rfl
 | o :: l, k, a => by rw [puts, Np v l, Qz]
theorem Me (v : Nat → Value) (t : Tmp) : ∀ (l : List Oper) (k : Nat) (a : Act), (∀ j, ja l j ≠ some t) → (puts v k l a).tmps.getD t undef = a.tmps.getD t undef
 | [], _, _, _ => rfl
 | o :: l, k, a, h => by
  rw [puts, Me v t l (k + 1) _ (fun j => h (j + 1)), Ex _ _ _ _ (show o.dst ≠ some t from h 0)]
theorem Qy (v : Nat → Value) (d : Tmp) : ∀ (l : List Oper) (k j : Nat) (a : Act), ja l j = some d → (∀ i, ja l i = some d → i = j) → d < a.tmps.size → (puts v k l a).tmps.getD d undef = v (k + j)
 | [], _, _, _, h, _, _ => by cases h
 | o :: l, k, 0, a, h, hu, hs => by
  have ho : o.dst = some d := h
  rw [puts, Me v d l (k + 1) _ (fun j hj => by have := hu (j + 1) hj; omega), ho, Pj _ _ _ hs]; rfl
 | o :: l, k, j + 1, a, h, hu, hs => by
  rw [puts, Qy v d l (k + 1) j _ h (fun i hi => by have := hu (i + 1) hi; omega) (by rw [Qz]; exact hs)]
  congr 1; omega
theorem abv {a b : Act} (hd : a.defers = b.defers) (hs : a.tmps.size = b.tmps.size) (h : ∀ t, a.tmps.getD t undef = b.tmps.getD t undef) : a = b := by
 obtain ⟨x, y⟩ := a
 obtain ⟨x', y'⟩ := b
 dsimp only at *
 subst hd
 congr 1
 refine Array.ext hs (fun i h1 h2 => ?_)
 have := h i
 simpa [h1, h2] using this

def cnt (L : Array Bool) : Nat → Nat
 | 0 => 0
 | m + 1 => cnt L m + (if L.getD m true = true then 0 else 1)
theorem aac {L : Array Bool} {i : Nat} : ∀ {m : Nat}, m ≤ i → cnt (L.setIfInBounds i true) m = cnt L m
 | 0, _ => rfl
 | m + 1, h => by rw [cnt, cnt, aac (by omega), getD_set_ne true (by omega)]
theorem ado {L : Array Bool} {i : Nat} : (L.setIfInBounds i true).getD i true = true := by
 simp only [Array.getD_eq_getD_getElem?, Array.getElem?_setIfInBounds]
 simp only [if_true]
 split <;> rfl
theorem Vg {L : Array Bool} {i : Nat} (hi : L.getD i true = false) : ∀ {m : Nat}, i < m → cnt (L.setIfInBounds i true) m + 1 = cnt L m
 | 0, h => by omega
 | m + 1, h => by
  rw [cnt, cnt]
  by_cases hm : i = m
  ·
   subst hm
   rw [aac (Nat.le_refl _), ado, hi]
   simp
  ·
   rw [getD_set_ne true hm, ← Vg hi (m := m) (by omega)]; omega
theorem Mv {L : Array Bool} : ∀ {m : Nat}, cnt L m = 0 → ∀ i, i < m → L.getD i true = true
 | 0, _, i, h => by omega
 | m + 1, h, i, hi => by
  rw [cnt] at h
  by_cases him : i = m
  ·
   subst him
   by_cases hg : L.getD i true = true
   ·
    exact hg
   ·
    rw [if_neg hg] at h; omega
  ·
   exact Mv (m := m) (by omega) i (by omega)
theorem Vi {L : Array Bool} : ∀ {m : Nat}, cnt L m ≠ 0 → ∃ i, i < m ∧ L.getD i true = false ∧ ∀ j, j < i → L.getD j true = true
 | 0, h => absurd rfl h
 | m + 1, h => by
  by_cases h0 : cnt L m = 0
  ·
   rw [cnt, h0] at h
   refine ⟨m, by omega, ?_, fun j hj => Mv h0 j hj⟩
   cases hg : L.getD m true with
   | false => rfl
   | true => rw [if_pos hg] at h; exact absurd rfl h
  ·
   obtain ⟨i, hi, h1, h2⟩ := Vi (m := m) h0
   exact ⟨i, by omega, h1, h2⟩
theorem Vh (n : Nat) : ∀ {m : Nat}, m ≤ n → cnt (Array.replicate n false) m = m
 | 0, _ => rfl
 | m + 1, h => by
  rw [cnt, Vh n (by omega)]
  have : (Array.replicate n false).getD m true = false := by simp [show m < n by omega]
  rw [this]; simp

def waits (l : List Oper) (k j : Nat) (d : Tmp) : Bool := Region.waitsFor .any l.toArray k j && ja l j == some d
def Ez (l : List Oper) (n : Nat) (t : Tmp) : Bool := (l.take n).all fun o => o.dst != some t
def aob (l : List Oper) (n : Nat) : Bool := (List.range n).all fun i => match l[i]? with
 | some o => o.after.all fun e => !Region.binds .any e || decide (e.on < i)
 | none => false
def anv (l : List Oper) (n sz : Nat) : Bool := (List.range n).all fun i => match ja l i with
 | some d => decide (d < sz) && (List.range n).all fun j => ja l j != some d || j == i
 | none => true
def full (n m : Nat) : Array Bool := Array.replicate n true ++ Array.replicate m false
def okB (l : List Oper) (n sz : Nat) : Bool :=
 decide (n ≤ l.length) && (decide (n = l.length) || (Region.sinkB .any l.toArray n && Region.chainB .any l.toArray n)) && aob l n && anv l n sz &&
  Region.seqB .any l.toArray (l.length - n) n (full n (l.length - n))

def Step (P : Program) (Q : Exit → Act → World → Prop) (l : List Oper) (n : Nat) (T : Nat → World → Value → Prop) (G : World → Prop) (E : World → World → Prop) (al : List Nat) (a0 : Act) (k : Nat) (o : Oper) : Prop :=
 ∀ (a : Act) (w : World), G w → (∀ t, Ez l n t = true → a.tmps.getD t undef = a0.tmps.getD t undef) → (∀ j d, waits l k j d = true → T j w (a.tmps.getD d undef)) →
  o.wp P a w (fun a' w' => ∃ v, a' = a.put o.dst v ∧ G w' ∧ E w w' ∧ T k w' v ∧ (al.contains k = true → ∀ j u, al.contains j = true → T j w u → u ≠ v)) Q
def Vn (P : Program) (Q : Exit → Act → World → Prop) (l : List Oper) (n : Nat) (T : Nat → World → Value → Prop) (G : World → Prop) (E : World → World → Prop) (al : List Nat) (a0 : Act) (k : Nat) (o : Oper) : Prop :=
 ∀ (a : Act) (w : World), G w → (∀ t, Ez l n t = true → a.tmps.getD t undef = a0.tmps.getD t undef) → (∀ j d, waits l k j d = true → T j w (a.tmps.getD d undef)) →
  if Region.wanted o (yielded l.toArray a.tmps) = true then o.wp P a w (fun a' w' => ∃ v, a' = a.put o.dst v ∧ G w' ∧ E w w' ∧ T k w' v ∧ (al.contains k = true → ∀ j u, al.contains j = true → T j w u → u ≠ v)) Q
  else E w w ∧ T k w undef ∧ (al.contains k = true → ∀ j u, al.contains j = true → T j w u → u ≠ undef)
def Steps (P : Program) (Q : Exit → Act → World → Prop) (l : List Oper) (n : Nat) (T : Nat → World → Value → Prop) (G : World → Prop) (E : World → World → Prop) (al : List Nat) (a0 : Act) : Nat → List Oper → Prop
 | _, [] => True
 | k, o :: r => Vn P Q l n T G E al a0 k o ∧ Steps P Q l n T G E al a0 (k + 1) r
theorem dm {P : Program} {Q : Exit → Act → World → Prop} {l : List Oper} {n : Nat} {T : Nat → World → Value → Prop} {G : World → Prop} {E : World → World → Prop} {al : List Nat} {a0 : Act} {k : Nat} {o : Oper} {r : List Oper}
  (h : Vn P Q l n T G E al a0 k o) (hr : Steps P Q l n T G E al a0 (k + 1) r) : Steps P Q l n T G E al a0 k (o :: r) := ⟨h, hr⟩
theorem bg {P : Program} {Q : Exit → Act → World → Prop} {l : List Oper} {n : Nat} {T : Nat → World → Value → Prop} {G : World → Prop} {E : World → World → Prop} {al : List Nat} {a0 : Act} {k : Nat} : Steps P Q l n T G E al a0 k [] := trivial
theorem Steps.get {P : Program} {Q : Exit → Act → World → Prop} {l : List Oper} {n : Nat} {T : Nat → World → Value → Prop} {G : World → Prop} {E : World → World → Prop} {al : List Nat} {a0 : Act} :
  ∀ {r : List Oper} {k : Nat}, Steps P Q l n T G E al a0 k r → ∀ {i : Nat} {o : Oper}, r[i]? = some o → Vn P Q l n T G E al a0 (k + i) o
 | [], _, _, i, o, h => by simp at h
 | o' :: r, k, hs, 0, o, h => by
  have : o' = o := by simpa using h
  subst this; exact hs.1
 | o' :: r, k, hs, i + 1, o, h => by
  have := Steps.get hs.2 (i := i) (o := o) (by simpa using h)
  rwa [show k + 1 + i = k + (i + 1) by omega] at this

structure TF (l : List Oper) (n : Nat) (T : Nat → World → Value → Prop) (G : World → Prop) (al : List Nat) (a0 : Act) (S : Nat → Prop) (a : Act) (w : World) : Prop where
 defers : a.defers = a0.defers
 size : a.tmps.size = a0.tmps.size
 old : ∀ t, Ez l n t = true → a.tmps.getD t undef = a0.tmps.getD t undef
 new : ∀ k d, k < n → S k → ja l k = some d → T k w (a.tmps.getD d undef)
 none : ∀ k, k < n → S k → ja l k = none → ∃ v, T k w v
 good : G w
 ne : ∀ j k dj dk, j < n → k < n → S j → S k → j ≠ k → al.contains j = true → al.contains k = true → ja l j = some dj → ja l k = some dk → a.tmps.getD dj undef ≠ a.tmps.getD dk undef

theorem ahj {l : List Oper} {n k : Nat} {t : Tmp} {o : Oper} (h : Ez l n t = true) (hk : k < n) (ho : l[k]? = some o) : o.dst ≠ some t := by
 have : o ∈ l.take n := List.mem_of_getElem? (i := k) (by rw [List.getElem?_take_of_lt hk]; exact ho)
 have := List.all_eq_true.1 h o this
 simpa using this

theorem Lp {l : List Oper} {n : Nat} (hback : aob l n = true) : ∀ i o, i < n → l[i]? = some o → ∀ e ∈ o.after, Region.binds .any e = true → e.on < i := by
 intro i o hi ho
 have h1 := List.all_eq_true.1 hback i (List.mem_range.2 hi)
 rw [ho] at h1
 simp only [Array.all_eq_true_iff_forall_mem, Bool.or_eq_true, Bool.not_eq_true', decide_eq_true_eq] at h1
 exact fun e he hb => (h1 e he).resolve_left (by simp [hb])
theorem Ll {l : List Oper} {n sz : Nat} (Lh : anv l n sz = true) : ∀ i j d, i < n → j < n → ja l i = some d → ja l j = some d → d < sz ∧ j = i := by
 intro i j d hi hj h1 h2
 have h3 := List.all_eq_true.1 Lh i (List.mem_range.2 hi)
 rw [h1] at h3
 simp only [Bool.and_eq_true, decide_eq_true_eq] at h3
 have h4 := List.all_eq_true.1 h3.2 j (List.mem_range.2 hj)
 simp only [h2, Bool.or_eq_true, bne_self_eq_false, Bool.false_eq_true, false_or, beq_iff_eq] at h4
 exact ⟨h3.1, h4⟩
section
variable {l : List Oper} {n sz : Nat} {T : Nat → World → Value → Prop} {G : World → Prop} {E : World → World → Prop} {al : List Nat} {a0 : Act}
theorem Cz {j : Nat} {d : Tmp} (h : ja (l.take n) j = some d) : j < n ∧ ja l j = some d := by
 have hjn : j < n := by
  rcases Nat.lt_or_ge j n with g | g
  ·
   exact g
  ·
   unfold ja at h
   rw [List.getElem?_eq_none (by simp; omega)] at h; cases h
 refine ⟨hjn, ?_⟩
 unfold ja at h ⊢; rwa [List.getElem?_take_of_lt hjn] at h
theorem TF.finish {a : Act} {w : World} (hsz : a0.tmps.size = sz) (hds : ∀ i j d, i < n → j < n → ja l i = some d → ja l j = some d → d < sz ∧ j = i)
  {S : Nat → Prop} (hall : ∀ k, k < n → S k) (inv : TF l n T G al a0 S a w) : ∃ v : Nat → Value, a = puts v 0 (l.take n) a0 ∧ (∀ k, k < n → T k w (v k)) ∧ ∀ j k, al.contains j = true → al.contains k = true → j ≠ k → j < n → k < n → (ja l j).isSome = true → (ja l k).isSome = true → v j ≠ v k := by
 have hv : ∀ k, ∃ v, k < n → T k w v ∧ ∀ d, ja l k = some d → a.tmps.getD d undef = v := by
  intro k
  by_cases hk : k < n
  ·
   cases hd : ja l k with
   | none =>
    obtain ⟨v, hv⟩ := inv.none k hk (hall k hk) hd
    exact ⟨v, fun _ => ⟨hv, fun d h => by cases h⟩⟩
   | some d => exact ⟨a.tmps.getD d undef, fun _ => ⟨inv.new k d hk (hall k hk) hd, fun d' h => by rw [Option.some.inj h]⟩⟩
  ·
   exact ⟨undef, fun h => absurd h hk⟩
 obtain ⟨v, hv⟩ := Classical.axiomOfChoice hv
 refine ⟨v, ?_, fun k hk => (hv k hk).1, fun j k hj hk hne hjn hkn h1 h2 => ?_⟩
 rotate_left
 ·
  obtain ⟨dj, hdj⟩ := Option.isSome_iff_exists.1 h1
  obtain ⟨dk, hdk⟩ := Option.isSome_iff_exists.1 h2
  have := inv.ne j k dj dk hjn hkn (hall j hjn) (hall k hkn) hne hj hk hdj hdk
  rwa [(hv j hjn).2 dj hdj, (hv k hkn).2 dk hdk] at this
 refine abv (by rw [inv.defers, Ju]) (by rw [inv.size, Np]) (fun t => ?_)
 by_cases ht : ∃ k, k < n ∧ ja l k = some t
 ·
  obtain ⟨k, hk, hkt⟩ := ht
  have hdt : ∀ j, ja (l.take n) j = some t → j = k := fun j hj => (hds k j t hk (Cz hj).1 hkt (Cz hj).2).2
  rw [Qy v t (l.take n) 0 k a0 (by unfold ja at hkt ⊢; rwa [List.getElem?_take_of_lt hk]) hdt (by rw [hsz]; exact (hds k k t hk hk hkt hkt).1), Nat.zero_add]
  exact ((hv k) hk).2 t hkt
 ·
  have hf : Ez l n t = true := List.all_eq_true.2 (fun o ho => by
   obtain ⟨k, hk⟩ := List.getElem?_of_mem ho
   have hkn : k < n := by
    rcases Nat.lt_or_ge k n with h | h
    ·
     exact h
    ·
     rw [List.getElem?_eq_none (by simp; omega)] at hk; cases hk
   rw [List.getElem?_take_of_lt hkn] at hk
   simp only [bne_iff_ne]
   intro h
   exact ht ⟨k, hkn, by unfold ja; rw [hk]; exact h⟩)
  rw [inv.old t hf, Me v t (l.take n) 0 a0 (fun j hj => ht ⟨j, Cz hj⟩)]
theorem TF.step {a : Act} {w w2 : World} {S : Nat → Prop} {i : Nat} {o : Oper} {v : Value} (hsz : a0.tmps.size = sz) (hds : ∀ i j d, i < n → j < n → ja l i = some d → ja l j = some d → d < sz ∧ j = i)
  (hT : ∀ k w w' v, E w w' → T k w v → T k w' v) (inv : TF l n T G al a0 S a w) (hin : i < n) (ho : l[i]? = some o) (Ko : ¬ S i) (hG : G w2) (hE : E w w2) (Fw : T i w2 v) (hne : al.contains i = true → ∀ j u, al.contains j = true → T j w u → u ≠ v) :
  TF l n T G al a0 (fun k => k = i ∨ S k) (a.put o.dst v) w2 := by
 have hdi : ja l i = o.dst := by unfold ja; rw [ho]; rfl
 refine ⟨by rw [put_defers]; exact inv.defers, by rw [Qz]; exact inv.size, fun t ht => ?_, fun k d hk hl hd => ?_, fun k hk hl hd => ?_, hG, fun j k dj dk hj hk sj sk hjk aj ak hdj hdk => ?_⟩
 ·
  rw [Ex _ _ _ _ (ahj ht hin ho)]; exact inv.old t ht
 ·
  by_cases hki : k = i
  ·
   subst hki
   rw [hdi] at hd
   rw [hd, Pj _ _ _ (by rw [inv.size, hsz]; exact (hds k k d hk hk (by rw [hdi]; exact hd) (by rw [hdi]; exact hd)).1)]
   exact Fw
  ·
   rw [Ex _ _ _ _ (fun h => hki ((hds i k d hin hk (by rw [hdi]; exact h) hd).2))]
   exact hT k w w2 _ hE (inv.new k d hk (hl.resolve_left hki) hd)
 ·
  by_cases hki : k = i
  ·
   subst hki; exact ⟨v, Fw⟩
  ·
   obtain ⟨u, hu⟩ := inv.none k hk (hl.resolve_left hki) hd
   exact ⟨u, hT k w w2 _ hE hu⟩
 ·
  have other : ∀ k d, k < n → k ≠ i → ja l k = some d → (a.put o.dst v).tmps.getD d undef = a.tmps.getD d undef := fun k d hk hki hd =>
   Ex _ _ _ _ (fun h => hki ((hds i k d hin hk (by rw [hdi]; exact h) hd).2))
  have same : ∀ d, ja l i = some d → (a.put o.dst v).tmps.getD d undef = v := fun d hd => by
   have hd2 := hd
   rw [hdi] at hd
   rw [hd, Pj _ _ _ (by rw [inv.size, hsz]; exact (hds i i d hin hin hd2 hd2).1)]
  by_cases hji : j = i
  ·
   subst hji
   have hki : k ≠ j := fun e => hjk e.symm
   rw [same dj hdj, other k dk hk hki hdk]
   exact (hne aj k _ ak (inv.new k dk hk (sk.resolve_left hki) hdk)).symm
  ·
   by_cases hki : k = i
   ·
    subst hki
    rw [same dk hdk, other j dj hj hji hdj]
    exact hne ak j _ aj (inv.new j dj hj (sj.resolve_left hji) hdj)
   ·
    rw [other j dj hj hji hdj, other k dk hk hki hdk]
    exact inv.ne j k dj dk hj hk (sj.resolve_left hji) (sk.resolve_left hki) hjk aj ak hdj hdk
theorem TF.mono {a : Act} {w : World} {S S' : Nat → Prop} (inv : TF l n T G al a0 S a w) (h : ∀ k, k < n → S' k → S k) : TF l n T G al a0 S' a w :=
 ⟨inv.defers, inv.size, inv.old, fun k d hk hs hd => inv.new k d hk (h k hk hs) hd, fun k hk hs hd => inv.none k hk (h k hk hs) hd, inv.good, fun j k dj dk hj hk sj sk => inv.ne j k dj dk hj hk (h j hj sj) (h k hk sk)⟩
theorem TF.start {a : Act} {w : World} {S : Nat → Prop} (h : ∀ k, k < n → ¬ S k) (hG : G w) : TF l n T G al a S a w :=
 ⟨rfl, rfl, fun _ _ => rfl, fun k d hk hs _ => absurd hs (h k hk), fun k hk hs _ => absurd hs (h k hk), hG, fun j _ _ _ hj _ sj => absurd sj (h j hj)⟩
end

theorem region {P : Program} {id : Nat} {Q : Exit → Act → World → Prop} {a : Act} {w : World} {l : List Oper} (n sz : Nat) (T : Nat → World → Value → Prop) (G : World → Prop) (E : World → World → Prop) (al : List Nat)
  (hm : P.follows .mixedOrders = true) (hB : okB l n sz = true) (hsz : a.tmps.size = sz)
  (hT : ∀ k w w' v, E w w' → T k w v → T k w' v) (hG : G w.drew)
  (hS : Steps P Q l n T G E al a 0 (l.take n))
  (hend : ∀ (v : Nat → Value) (w' : World), G w' → (∀ k, k < n → T k w' (v k)) → (∀ j k, al.contains j = true → al.contains k = true → j ≠ k → j < n → k < n → (ja l j).isSome = true → (ja l k).isSome = true → v j ≠ v k) → wpList P l.toArray Q (l.drop n) (puts v 0 (l.take n) a) w') :
  (Code.region id l.toArray true).wp P Q a w := by
 simp only [okB, Bool.and_eq_true, Bool.or_eq_true, decide_eq_true_eq] at hB
 obtain ⟨⟨⟨⟨hn, Zv⟩, hback⟩, Lh⟩, hseq⟩ := hB
 have hget : ∀ k, k < n → ∃ o, l[k]? = some o := fun k hk => ⟨l[k]'(by omega), List.getElem?_eq_getElem (by omega)⟩
 have hbk := Lp hback
 have hds := Ll Lh
 refine wp_region_any hm ?_
 have key : ∀ (f : Nat) (L : Array Bool) (a' : Act) (w' : World), HeadInv .any l.toArray n L → TF l n T G al a (fun k => L.getD k false = true) a' w' → cnt L n = f → wpAny P .any l.toArray Q (f + (l.length - n)) L a' w' := by
  intro f
  induction f with
  | zero =>
   intro L a' w' head inv hc
   have hall := Mv hc
   have hL : L = full n (l.length - n) := by
    have hs := head.size
    refine Array.ext (by simp [full, hs]; omega) (fun i h1 h2 => ?_)
    by_cases hi : i < n
    ·
     have g := hall i hi
     simp [h1] at g
     simp [full, hi, g]
    ·
     have g := head.tail i (by omega) (by rw [← hs]; exact h1)
     simp [h1] at g
     simp [full, Array.getElem_append, hi, g]
   obtain ⟨v, he, hv, Em⟩ := inv.finish hsz hds (fun k hk => by rw [hL]; simp [full, Array.getElem?_append, hk])
   rw [he, Nat.zero_add]
   have hlen : (l.drop n).length = l.length - n := by simp
   rw [← hlen]
   exact wpAny_of_seq (md := .any) (ops := l.toArray) (Q' := Q) (l.drop n) n L _ w' (fun j => by simp [List.getElem?_drop]) (by rw [hlen, hL]; exact hseq)
    (hend v w' inv.good hv Em)
  | succ f ih =>
   intro L a' w' head inv hc
   obtain ⟨i0, hi0, Tw, hle0⟩ := Vi (L := L) (m := n) (by omega)
   have Wo : L.size = l.length := by rw [head.size]; simp
   rw [show f + 1 + (l.length - n) = (f + (l.length - n)) + 1 by omega]
   refine ⟨fun hr => ?_, fun i hi => ?_⟩
   ·
    exfalso
    obtain ⟨o, ho⟩ := hget i0 hi0
    have : i0 ∈ Region.ready .any l.toArray L := mem_ready.2 ⟨Tw, o, by simpa using ho, fun e he hb => by
     have hlt := hbk i0 o hi0 ho e he hb
     have h1 := hle0 e.on hlt
     simp [show e.on < L.size by rw [Wo]; omega] at h1
     simp [show e.on < L.size by rw [Wo]; omega, h1]⟩
    rw [hr] at this; cases this
   ·
    obtain ⟨hun, o, ho, Zt⟩ := mem_ready.1 hi
    have ho' : l[i]? = some o := by simpa using ho
    have hil : i < l.length := by
     have := (Array.getElem?_eq_some_iff.1 ho).1
     simpa using this
    have hin : i < n := by
     rcases Nat.lt_or_ge i n with h | h
     ·
      exact h
     ·
      exfalso
      rcases Zv with he | ⟨hs, hch⟩
      ·
       omega
      ·
       exact tail_waits hs hch (by simp only [List.size_toArray]; omega) head _ i0 rfl hi0 Tw i h hi
    have hst := hS.get (i := i) (o := o) (by rw [List.getElem?_take_of_lt hin]; exact ho')
    rw [Nat.zero_add] at hst
    have hw := hst a' w' inv.good inv.old (fun j d hjd => by
     simp only [waits, Bool.and_eq_true, beq_iff_eq] at hjd
     obtain ⟨oj, hoj, e, he, hb, hon⟩ := Region.waitsFor_spec hjd.1
     have : oj = o := Option.some.inj (hoj.symm.trans ho)
     subst this
     have hlj := Zt e he hb
     rw [hon] at hlj
     have hjn : j < n := by have := hbk i oj hin ho' e he hb; omega
     exact inv.new j d hjn hlj hjd.2)
    have go : ∀ v w2, G w2 → E w' w2 → T i w2 v → (al.contains i = true → ∀ j u, al.contains j = true → T j w' u → u ≠ v) → wpAny P .any l.toArray Q (f + (l.length - n)) (L.setIfInBounds i true) (a'.put o.dst v) w2 := by
     intro v w2 hg2 hE Fw hne
     refine ih (L.setIfInBounds i true) _ w2 (head.set hi hin) ((inv.step hsz hds hT hin ho' (fun h => by rw [getD_both hun] at h; cases h) hg2 hE Fw hne).mono (fun k hk hl => ?_)) (by have := Vg hun (m := n) hin; omega)
     by_cases hki : k = i
     ·
      exact .inl hki
     ·
      rw [getD_set_ne false (Ne.symm hki)] at hl; exact .inr hl
    unfold wpOp
    simp only [ho]
    split
    ·
     rename_i hwd
     rw [if_pos hwd] at hw
     refine .inl (Oper.wp_mono (fun a2 w2 hK => ?_) hw)
     obtain ⟨v, rfl, hg2, hE, Fw, hne⟩ := hK
     exact go v w2 hg2 hE Fw hne
    ·
     rename_i hwd
     rw [if_neg hwd] at hw
     exact go undef w' inv.good hw.1 hw.2.1 hw.2.2
 have h0 := key n (Array.replicate l.length false) a w.drew
  ⟨by simp, fun j oj _ hl => (by rw [getD_replicate_false] at hl; cases hl), fun t _ ht => getD_in (by simpa using ht) (getD_replicate_false _ _)⟩
  (TF.start (fun k _ h => by rw [getD_replicate_false] at h; cases h) hG) (Vh _ hn)
 rw [show n + (l.length - n) = l.length by omega] at h0
 have hsz2 : l.toArray.size = l.length := by simp
 rw [hsz2]
 exact h0

theorem di {P : Program} {id : Nat} {Q : Exit → Act → World → Prop} {a : Act} {w : World} {l : List Oper} (n sz : Nat) (T : Nat → World → Value → Prop) (G : World → Prop) (E : World → World → Prop) (al : List Nat)
  (hB : (decide (n ≤ l.length) && aob l n && anv l n sz) = true) (hsz : a.tmps.size = sz)
  (hT : ∀ k w w' v, E w w' → T k w v → T k w' v) (hG : G w)
  (hS : Steps P Q l n T G E al a 0 (l.take n))
  (hend : ∀ (v : Nat → Value) (w' : World), G w' → (∀ k, k < n → T k w' (v k)) → (∀ j k, al.contains j = true → al.contains k = true → j ≠ k → j < n → k < n → (ja l j).isSome = true → (ja l k).isSome = true → v j ≠ v k) → wpList P l.toArray Q (l.drop n) (puts v 0 (l.take n) a) w') :
  (Code.region id l.toArray false).wp P Q a w := by
 simp only [Bool.and_eq_true, decide_eq_true_eq] at hB
 obtain ⟨⟨hn, hback⟩, Lh⟩ := hB
 have hbk := Lp hback
 have hds := Ll Lh
 refine wp_region_lit ?_
 have key : ∀ (f i : Nat) (a' : Act) (w' : World), n - i = f → i ≤ n → TF l n T G al a (fun k => k < i) a' w' → wpList P l.toArray Q (l.drop i) a' w' := by
  intro f
  induction f with
  | zero =>
   intro i a' w' hf hi inv
   obtain rfl : i = n := by omega
   obtain ⟨v, he, hv, Em⟩ := inv.finish hsz hds (fun k hk => hk)
   rw [he]
   exact hend v w' inv.good hv Em
  | succ f ih =>
   intro i a' w' hf hi inv
   have hin : i < n := by omega
   have hil : i < l.length := by omega
   rw [List.drop_eq_getElem_cons hil]
   have ho : l[i]? = some l[i] := List.getElem?_eq_getElem hil
   generalize l[i] = o at *
   have hst := hS.get (i := i) (o := o) (by rw [List.getElem?_take_of_lt hin]; exact ho)
   rw [Nat.zero_add] at hst
   have hw := hst a' w' inv.good inv.old (fun j d hjd => by
    simp only [waits, Bool.and_eq_true, beq_iff_eq] at hjd
    obtain ⟨oj, hoj, e, he, hb, hon⟩ := Region.waitsFor_spec hjd.1
    have : oj = o := Option.some.inj (hoj.symm.trans (by simpa using ho))
    subst this
    have hji := hbk i oj hin ho e he hb
    rw [hon] at hji
    exact inv.new j d (by omega) hji hjd.2)
   have go : ∀ v w2, G w2 → E w' w2 → T i w2 v → (al.contains i = true → ∀ j u, al.contains j = true → T j w' u → u ≠ v) → wpList P l.toArray Q (l.drop (i + 1)) (a'.put o.dst v) w2 := fun v w2 hg2 hE Fw hne =>
    ih (i + 1) _ w2 (by omega) (by omega) ((inv.step hsz hds hT hin ho (by omega) hg2 hE Fw hne).mono (fun k hk hl => by omega))
   unfold wpList
   split
   ·
    rename_i hwd
    rw [if_pos hwd] at hw
    refine .inl (Oper.wp_mono (fun a2 w2 hK => ?_) hw)
    obtain ⟨v, rfl, hg2, hE, Fw, hne⟩ := hK
    exact go v w2 hg2 hE Fw hne
   ·
    rename_i hwd
    rw [if_neg hwd] at hw
    exact go undef w' inv.good hw.1 hw.2.1 hw.2.2
 exact key n 0 a w (by omega) (by omega) (TF.start (fun k _ h => by omega) hG)

section
variable {P : Program} {Q : Exit → Act → World → Prop} {l : List Oper} {n : Nat} {T : Nat → World → Value → Prop} {G : World → Prop} {E : World → World → Prop} {al : List Nat} {a0 : Act} {k : Nat} {o : Oper}
theorem plain (hg : o.guard = none) (h : Step P Q l n T G E al a0 k o) : Vn P Q l n T G E al a0 k o := fun a w hG hO hN => by
 rw [if_pos (by simp [Region.wanted, hg])]
 exact h a w hG hO hN
def au (c : Value) : World → Value → Prop := fun _ v => v = c
theorem Yi {a : Act} {j : Nat} {d : Tmp} {b : Bool} (hd : ja l j = some d) (hv : a.tmps.getD d undef = .bool b) : yielded l.toArray a.tmps j = some b := by
 have h1 : (l.toArray[j]?).bind (·.dst) = some d := by simpa [ja] using hd
 have h2 : a.tmps[d]? = some (.bool b) := by
  cases h : a.tmps[d]? with
  | none => simp [h, undef] at hv
  | some v => simp [h] at hv; rw [hv]
 unfold yielded
 rw [h1]
 simp [h2]
theorem Cu {j : Nat} {d : Tmp} (h : waits l k j d = true) : ja l j = some d := by
 simp only [waits, Bool.and_eq_true, beq_iff_eq] at h; exact h.2
theorem fq {g : Nat} {d : Tmp} {b : Bool} (hg : o.guard = some (g, b)) (hw : waits l k g d = true) (hT : T g = au (.bool b)) (h : Step P Q l n T G E al a0 k o) : Vn P Q l n T G E al a0 k o := fun a w hG hO hN => by
 have hv := hN g d hw
 rw [hT] at hv
 rw [if_pos (by simp [Region.wanted, hg, Yi (Cu hw) hv])]
 exact h a w hG hO hN
theorem pg {g : Nat} {d : Tmp} {b c : Bool} (hg : o.guard = some (g, c)) (hw : waits l k g d = true) (hT : T g = au (.bool b)) (hbc : (b == c) = false) (hE : ∀ w, E w w) (hk : al.contains k = false) (hu : T k = au undef) : Vn P Q l n T G E al a0 k o := fun a w hG hO hN => by
 have hv := hN g d hw
 rw [hT] at hv
 rw [if_neg (by
  simp only [Region.wanted, hg, Yi (Cu hw) hv]
  intro h
  have : (b == c) = true := by simpa using h
  rw [this] at hbc; cases hbc)]
 exact ⟨hE w, by rw [hu]; rfl, fun h => by rw [hk] at h; cases h⟩
end
def ib (l : List Oper) (n : Nat) (T : Nat → World → Value → Prop) (a0 : Act) (k : Nat) (x : Operand) (A : World → Value → Prop) : Prop :=
 ∀ (a : Act) (w : World), (∀ t, Ez l n t = true → a.tmps.getD t undef = a0.tmps.getD t undef) → (∀ j d, waits l k j d = true → T j w (a.tmps.getD d undef)) → A w (a.eval x)
section
variable {l : List Oper} {n : Nat} {T : Nat → World → Value → Prop} {a0 : Act} {k : Nat}
theorem boz {t : Tmp} (j : Nat) (h : waits l k j t = true) : ib l n T a0 k (.tmp t) (T j) := fun _ _ _ h2 => h2 j t h
theorem je (c : Value) : ib l n T a0 k (.const c) (au c) := fun _ _ _ _ => rfl
theorem bpa {t : Tmp} {c : Value} (h : Ez l n t = true) (hc : a0.tmps.getD t undef = c) : ib l n T a0 k (.tmp t) (au c) := fun _ _ h1 _ => (h1 t h).trans hc
end
def pick (ts : List (World → Value → Prop)) (k : Nat) : World → Value → Prop := ts.getD k (fun _ _ => True)
def Da (E : World → World → Prop) (t : World → Value → Prop) : Prop := ∀ w w' v, E w w' → t w v → t w' v
def ek (E : World → World → Prop) : List (World → Value → Prop) → Prop
 | [] => True
 | t :: r => Da E t ∧ ek E r
theorem ek.pick {E : World → World → Prop} : ∀ {ts : List (World → Value → Prop)}, ek E ts → ∀ k w w' v, E w w' → Rg.pick ts k w v → Rg.pick ts k w' v
 | [], _, _, _, _, _, _, _ => trivial
 | t :: _, h, 0, w, w', v, he, ht => h.1 w w' v he ht
 | _ :: ts, h, k + 1, w, w', v, he, ht => ek.pick (ts := ts) h.2 k w w' v he ht
theorem ae {E : World → World → Prop} (c : Value) : Da E (au c) := fun _ _ _ _ h => h
end Rg
namespace Wd

def g (l : List Nat) (i : Nat) : Nat := l.getD i 0
theorem qa (l : List Nat) (i : Nat) : g l i = l.getD i 0 := rfl

def val (B : Nat) : List Nat → Nat
 | [] => 0
 | x :: l => x + B * val B l

theorem val_append (B : Nat) (l m : List Nat) : val B (l ++ m) = val B l + B ^ l.length * val B m := by
 induction l with
 | nil => simp [val]
 | cons x l ih => simp only [List.cons_append, val, ih, List.length_cons, Nat.pow_succ, Nat.mul_add]; simp [Nat.mul_assoc, Nat.mul_comm, Nat.add_assoc]

theorem alo (B x : Nat) : val B [x] = x := by simp [val]
theorem xy (B : Nat) (l : List Nat) (x : Nat) : val B (l ++ [x]) = val B l + B ^ l.length * x := by rw [val_append, alo]

theorem Sl (B n : Nat) : val B (List.replicate n 0) = 0 := by
 induction n with
 | zero => rfl
 | succ n ih => simp [List.replicate_succ, val, ih]

theorem za {B : Nat} (l : List Nat) (h : ∀ x ∈ l, x < B) : val B l < B ^ l.length := by
 induction l with
 | nil => simp [val]
 | cons x l ih =>
  have hx := h x (by simp)
  have hl := ih (fun y hy => h y (by simp [hy]))
  have h1 : B * (val B l + 1) ≤ B * B ^ l.length := Nat.mul_le_mul_left _ hl
  simp only [val, List.length_cons, Nat.pow_succ]
  rw [Nat.mul_comm (B ^ l.length) B]
  rw [Nat.mul_add, Nat.mul_one] at h1
  omega

theorem take_succ (l : List Nat) (k : Nat) (h : k < l.length) : l.take (k + 1) = l.take k ++ [l.getD k 0] := by
 rw [List.take_succ_eq_append_getElem h]; simp [List.getD, h]

theorem mq (B : Nat) (l : List Nat) (k : Nat) (h : k < l.length) : val B (l.take (k + 1)) = val B (l.take k) + B ^ k * l.getD k 0 := by
 rw [take_succ l k h, xy, List.length_take, Nat.min_eq_left (by omega)]

theorem iy (B : Nat) (l : List Nat) (k : Nat) (h : l.length ≤ k) : val B (l.take k) = val B l := by rw [List.take_of_length_le h]

theorem lg (B : Nat) (l : List Nat) (k : Nat) : val B (l.take (k + 1)) = val B (l.take k) + B ^ k * l.getD k 0 := by
 by_cases h : k < l.length
 ·
  exact mq B l k h
 ·
  rw [iy _ _ _ (by omega), iy _ _ _ (by omega)]
  simp [List.getD, List.getElem?_eq_none (by omega : l.length ≤ k)]

theorem getD_lt {B : Nat} (hB : 0 < B) (l : List Nat) (h : ∀ x ∈ l, x < B) (i : Nat) : l.getD i 0 < B := by
 by_cases hi : i < l.length
 ·
  simp only [List.getD, List.getElem?_eq_getElem hi, Option.getD_some]; exact h _ (List.getElem_mem hi)
 ·
  simp [List.getD, List.getElem?_eq_none (by omega : l.length ≤ i), hB]

def Norm (l : List Nat) : Prop := l = [] ∨ l.getD (l.length - 1) 0 ≠ 0

theorem Nj (B : Nat) (l : List Nat) (k : Nat) : val B l = val B (l.take k) + B ^ (min k l.length) * val B (l.drop k) := by
 conv => lhs; rw [← List.take_append_drop k l]
 rw [val_append, List.length_take]

theorem Va {B : Nat} (l : List Nat) (hn : Norm l) (h0 : l ≠ []) : B ^ (l.length - 1) ≤ val B l := by
 rcases hn with hn | hn
 ·
  exact absurd hn h0
 ·
  have hl : 0 < l.length := List.length_pos_iff.2 h0
  have h1 : l.length = (l.length - 1) + 1 := by omega
  have h2 := mq B l (l.length - 1) (by omega)
  rw [← h1, iy _ _ _ (Nat.le_refl _)] at h2
  rw [h2]
  have h3 : B ^ (l.length - 1) * 1 ≤ B ^ (l.length - 1) * l.getD (l.length - 1) 0 := Nat.mul_le_mul_left _ (by omega)
  omega

theorem afm {B : Nat} (hB : 0 < B) (l : List Nat) (hn : Norm l) (h0 : l ≠ []) : 0 < val B l :=
 Nat.lt_of_lt_of_le (Nat.pow_pos hB) (Va l hn h0)

theorem uj {B : Nat} (hB : 1 < B) (l m : List Nat) (hl : ∀ x ∈ l, x < B) (hm : Norm m) (h : l.length < m.length) : val B l < val B m := by
 have h1 := za l hl
 have h2 := Va (B := B) m hm (by rintro rfl; simp at h)
 have h3 : B ^ l.length ≤ B ^ (m.length - 1) := Nat.pow_le_pow_right (by omega) (by omega)
 omega

theorem Ew {B : Nat} (l m : List Nat) (hl : ∀ x ∈ l, x < B) (hlen : l.length = m.length) (i : Nat) (hi : i < l.length)
  (hsame : ∀ j, i < j → j < l.length → l.getD j 0 = m.getD j 0) (h : l.getD i 0 < m.getD i 0) : val B l < val B m := by
 have key : ∀ n, i + 1 + n ≤ l.length → val B (l.take (i + 1 + n)) < val B (m.take (i + 1 + n)) := by
  intro n
  induction n with
  | zero =>
   intro _
   rw [Nat.add_zero, mq B l i (by omega), mq B m i (by omega)]
   have h1 := za (B := B) (l.take i) (fun x hx => hl x (List.mem_of_mem_take hx))
   rw [List.length_take, Nat.min_eq_left (by omega)] at h1
   have h2 : B ^ i * (l.getD i 0 + 1) ≤ B ^ i * m.getD i 0 := Nat.mul_le_mul_left _ h
   rw [Nat.mul_add, Nat.mul_one] at h2
   omega
  | succ n ih =>
   intro hn
   have := ih (by omega)
   rw [show i + 1 + (n + 1) = (i + 1 + n) + 1 from rfl, mq B l _ (by omega), mq B m _ (by omega), hsame (i + 1 + n) (by omega) (by omega)]
   omega
 have := key (l.length - (i + 1)) (by omega)
 rw [show i + 1 + (l.length - (i + 1)) = l.length from by omega, iy _ _ _ (Nat.le_refl _), iy _ _ _ (by omega)] at this
 exact this

theorem Ky (l m : List Nat) (hlen : l.length = m.length) (h : ∀ j, j < l.length → l.getD j 0 = m.getD j 0) : l = m := by
 apply List.ext_getElem hlen
 intro j h1 h2
 have := h j h1
 simpa [List.getD, List.getElem?_eq_getElem h1, List.getElem?_eq_getElem h2] using this

def Ga (l m : List Nat) : Prop := ∃ k, k ≤ l.length ∧ m = l.take k ∧ (∀ i, k ≤ i → i < l.length → l.getD i 0 = 0) ∧ (k = 0 ∨ l.getD (k - 1) 0 ≠ 0)

theorem La (B : Nat) (l : List Nat) (k : Nat) (hk : k ≤ l.length) (h : ∀ i, k ≤ i → i < l.length → l.getD i 0 = 0) : val B (l.take k) = val B l := by
 have key : ∀ n, k + n ≤ l.length → val B (l.take (k + n)) = val B (l.take k) := by
  intro n
  induction n with
  | zero => intro _; rfl
  | succ n ih => intro hn; rw [show k + (n + 1) = (k + n) + 1 from rfl, mq B l _ (by omega), h (k + n) (by omega) (by omega), ih (by omega)]; simp
 have := key (l.length - k) (by omega)
 rw [show k + (l.length - k) = l.length from by omega, iy _ _ _ (Nat.le_refl _)] at this
 exact this.symm

theorem getD_take (l : List Nat) (k i : Nat) (h : i < k) : (l.take k).getD i 0 = l.getD i 0 := by
 simp [List.getD, h]

theorem Ga.val {l m : List Nat} (h : Ga l m) (B : Nat) : Wd.val B m = Wd.val B l := by
 obtain ⟨k, hk, rfl, hz, _⟩ := h
 exact La B l k hk hz

theorem Ga.norm {l m : List Nat} (h : Ga l m) : Norm m := by
 obtain ⟨k, hk, rfl, _, h0⟩ := h
 rcases h0 with h0 | h0
 ·
  left; simp [h0]
 ·
  by_cases hk0 : k = 0
  ·
   left; simp [hk0]
  ·
   right
   rw [List.length_take, Nat.min_eq_left hk, getD_take _ _ _ (by omega)]
   exact h0

theorem Ga.len {l m : List Nat} (h : Ga l m) : m.length ≤ l.length := by
 obtain ⟨k, hk, rfl, _, _⟩ := h
 simp; omega

theorem Xh {B : Nat} (hB : 1 < B) (l : List Nat) (hn : Norm l) (k : Nat) (h : val B l < B ^ k) : l.length ≤ k := by
 by_cases h0 : l = []
 ·
  simp [h0]
 ·
  have h1 := Va (B := B) l hn h0
  apply Classical.byContradiction
  intro hk
  have : B ^ k ≤ B ^ (l.length - 1) := Nat.pow_le_pow_right (by omega) (by omega)
  omega

end Wd

namespace Wd

theorem uu (l : List Nat) (i v : Nat) (h : i < l.length) : (l.set i v).take (i + 1) = l.take i ++ [v] := by
 rw [take_succ _ i (by simpa using h), List.take_set_of_le (Nat.le_refl i)]
 simp [List.getD, h]

theorem Cb (l : List Nat) (i j v : Nat) (h : i ≠ j) : (l.set i v).getD j 0 = l.getD j 0 := by
 simp [List.getD, h]

theorem Kv (l : List Nat) (i v : Nat) (h : i < l.length) : (l.set i v).getD i 0 = v := by
 simp [List.getD, h]

theorem xk {B : Nat} (l : List Nat) (i v : Nat) (h : ∀ x ∈ l, x < B) (hv : v < B) : ∀ x ∈ l.set i v, x < B := by
 intro x hx
 rcases List.mem_or_eq_of_mem_set hx with h1 | h1
 ·
  exact h x h1
 ·
  omega

theorem aas {B : Nat} (l m : List Nat) (k d : Nat) (hsame : ∀ j, k ≤ j → l.getD j 0 = m.getD j 0) (n : Nat) (h : val B (l.take k) = val B (m.take k) + d) :
  val B (l.take (k + n)) = val B (m.take (k + n)) + d := by
 induction n with
 | zero => exact h
 | succ n ih => rw [← Nat.add_assoc, lg, lg, hsame (k + n) (by omega), ih]; omega

structure Aj (B : Nat) (zl yl zc : List Nat) (i c : Nat) : Prop where
 len : zc.length = zl.length
 same : ∀ j, i ≤ j → zc.getD j 0 = zl.getD j 0
 lt : ∀ x ∈ zc, x < B
 eq : val B (zc.take i) + B ^ i * c = val B (zl.take i) + val B (yl.take i)
 c1 : c ≤ 1

theorem Aj.start {B : Nat} (zl yl : List Nat) (h : ∀ x ∈ zl, x < B) : Aj B zl yl zl 0 0 := ⟨rfl, fun _ _ => rfl, h, by simp [val], by omega⟩

theorem Aj.step {B : Nat} {zl yl zc : List Nat} {i c : Nat} (hB : 1 < B) (hy : ∀ x ∈ yl, x < B) (h : Aj B zl yl zc i c) (hi : i < zl.length) :
  Aj B zl yl (zc.set i ((zc.getD i 0 + yl.getD i 0 + c) % B)) (i + 1) ((zc.getD i 0 + yl.getD i 0 + c) / B) := by
 have hlen := h.len
 have hz := getD_lt (by omega) zc h.lt i
 have hyi := getD_lt (by omega) yl hy i
 have hc := h.c1
 refine ⟨by simp [hlen], fun j hj => ?_, xk _ _ _ h.lt (Nat.mod_lt _ (by omega)), ?_, ?_⟩
 ·
  rw [Cb _ _ _ _ (by omega), h.same j (by omega)]
 ·
  rw [uu _ _ _ (by omega), xy, lg, lg]
  rw [List.length_take, Nat.min_eq_left (by omega)]
  have e := h.eq
  have hs := h.same i (Nat.le_refl _)
  have Ai := Nat.div_add_mod (zc.getD i 0 + yl.getD i 0 + c) B
  generalize (zc.getD i 0 + yl.getD i 0 + c) / B = q at *
  generalize (zc.getD i 0 + yl.getD i 0 + c) % B = r at *
  have e2 : B ^ i * (B * q + r) = B ^ i * (zc.getD i 0 + yl.getD i 0 + c) := by rw [Ai]
  rw [← hs, Nat.pow_succ]
  simp only [Nat.mul_add, Nat.mul_assoc] at e2 ⊢
  omega
 ·
  have : (zc.getD i 0 + yl.getD i 0 + c) / B < 2 := by
   rw [Nat.div_lt_iff_lt_mul (by omega)]; omega
  omega

theorem Aj.done {B : Nat} {zl yl zc : List Nat} {c : Nat} (h : Aj B zl yl zc zl.length c) (hy : yl.length ≤ zl.length) :
  val B zc + B ^ zl.length * c = val B zl + val B yl := by
 have e := h.eq
 have hl := h.len
 rwa [iy _ _ _ (by omega), iy _ _ _ (Nat.le_refl _), iy _ _ _ hy] at e

theorem Aj.stop {B : Nat} {zl yl zc : List Nat} {i : Nat} (h : Aj B zl yl zc i 0) (hy : yl.length ≤ i) : val B zc = val B zl + val B yl := by
 have e := h.eq
 have hl := h.len
 rw [Nat.mul_zero, Nat.add_zero, iy _ yl _ hy] at e
 have := aas zc zl i (val B yl) h.same zl.length e
 rwa [iy _ _ _ (by omega), iy _ _ _ (by omega)] at this

structure Di (B : Nat) (xl yl zc : List Nat) (i b : Nat) : Prop where
 len : zc.length = xl.length
 lt : ∀ x ∈ zc, x < B
 eq : val B (zc.take i) + val B (yl.take i) = val B (xl.take i) + B ^ i * b
 b1 : b ≤ 1

theorem Di.start {B : Nat} (xl yl zl : List Nat) (hl : zl.length = xl.length) (h : ∀ x ∈ zl, x < B) : Di B xl yl zl 0 0 := ⟨hl, h, by simp [val], by omega⟩

theorem Di.step {B : Nat} {xl yl zc : List Nat} {i b d b' : Nat} (h : Di B xl yl zc i b) (hi : i < xl.length) (hd : d < B) (hb : b' ≤ 1)
  (e : d + yl.getD i 0 + b = xl.getD i 0 + B * b') : Di B xl yl (zc.set i d) (i + 1) b' := by
 have hlen := h.len
 refine ⟨by simp [hlen], xk _ _ _ h.lt hd, ?_, hb⟩
 rw [uu _ _ _ (by omega), xy, lg, lg, List.length_take, Nat.min_eq_left (by omega), Nat.pow_succ]
 have h0 := h.eq
 have e2 : B ^ i * (d + yl.getD i 0 + b) = B ^ i * (xl.getD i 0 + B * b') := by rw [e]
 simp only [Nat.mul_add, Nat.mul_assoc] at e2 ⊢
 omega

theorem Di.done {B : Nat} {xl yl zc : List Nat} {b : Nat} (h : Di B xl yl zc xl.length b) (hy : yl.length ≤ xl.length) :
  val B zc + val B yl = val B xl + B ^ xl.length * b := by
 have e := h.eq
 have hl := h.len
 rwa [iy _ _ _ (by omega), iy _ yl _ hy, iy _ _ _ (Nat.le_refl _)] at e

theorem Di.bch {B : Nat} {xl yl zc : List Nat} {b : Nat} (h : Di B xl yl zc xl.length b) (hy : yl.length ≤ xl.length) (hle : val B yl ≤ val B xl) :
  val B zc = val B xl - val B yl := by
 have e := h.done hy
 have hz := za zc h.lt
 rw [h.len] at hz
 have hb := h.b1
 rcases Nat.eq_or_lt_of_le hb with h1 | h1
 ·
  subst h1; omega
 ·
  have : b = 0 := by omega
  subst this; omega

structure Dj (B : Nat) (zr yl zc : List Nat) (i k j c : Nat) : Prop where
 len : zc.length = zr.length
 same : ∀ t, i + j ≤ t → zc.getD t 0 = zr.getD t 0
 lt : ∀ x ∈ zc, x < B
 eq : val B (zc.take (i + j)) + B ^ (i + j) * c = val B (zr.take (i + j)) + B ^ i * (k * val B (yl.take j))
 c1 : c < B

theorem Dj.start {B : Nat} (zr yl : List Nat) (i k : Nat) (hB : 0 < B) (h : ∀ x ∈ zr, x < B) : Dj B zr yl zr i k 0 0 := ⟨rfl, fun _ _ => rfl, h, by simp [val], hB⟩

theorem Kj {B k y c z : Nat} (hk : k < B) (hy : y < B) (hc : c < B) (hz : z < B) : k * y + c + z < B * B := by
 have h1 : k * y ≤ (B - 1) * (B - 1) := Nat.mul_le_mul (by omega) (by omega)
 have h2 : (B - 1) * (B - 1) + (B - 1) + (B - 1) + 1 = B * B := by
  obtain ⟨b, rfl⟩ : ∃ b, B = b + 1 := ⟨B - 1, by omega⟩
  simp [Nat.mul_add, Nat.add_mul]; omega
 omega

theorem Dj.step {B : Nat} {zr yl zc : List Nat} {i k j c : Nat} (hB : 1 < B) (hk : k < B) (hy : ∀ x ∈ yl, x < B) (h : Dj B zr yl zc i k j c) (hi : i + j < zr.length) :
  Dj B zr yl (zc.set (i + j) ((k * yl.getD j 0 + c + zc.getD (i + j) 0) % B)) i k (j + 1) ((k * yl.getD j 0 + c + zc.getD (i + j) 0) / B) := by
 have hlen := h.len
 have hz := getD_lt (by omega) zc h.lt (i + j)
 have hyj := getD_lt (by omega) yl hy j
 refine ⟨by simp [hlen], fun t ht => ?_, xk _ _ _ h.lt (Nat.mod_lt _ (by omega)), ?_, ?_⟩
 ·
  rw [Cb _ _ _ _ (by omega), h.same t (by omega)]
 ·
  rw [← Nat.add_assoc, uu _ _ _ (by omega), xy, lg, lg, List.length_take, Nat.min_eq_left (by omega)]
  have e := h.eq
  have hs := h.same (i + j) (Nat.le_refl _)
  have Ai := Nat.div_add_mod (k * yl.getD j 0 + c + zc.getD (i + j) 0) B
  generalize (k * yl.getD j 0 + c + zc.getD (i + j) 0) / B = q at *
  generalize (k * yl.getD j 0 + c + zc.getD (i + j) 0) % B = r at *
  have e2 : B ^ (i + j) * (B * q + r) = B ^ (i + j) * (k * yl.getD j 0 + c + zc.getD (i + j) 0) := by rw [Ai]
  rw [← hs, Nat.pow_succ]
  have e3 : B ^ i * (k * (val B (yl.take j) + B ^ j * yl.getD j 0)) = B ^ i * (k * val B (yl.take j)) + B ^ (i + j) * (k * yl.getD j 0) := by
   rw [Nat.pow_add, Nat.mul_add, Nat.mul_add]
   congr 1
   simp only [Nat.mul_left_comm, Nat.mul_assoc]
  rw [e3]
  simp only [Nat.mul_add, Nat.mul_assoc] at e2 ⊢
  omega
 ·
  rw [Nat.div_lt_iff_lt_mul (by omega)]
  exact Kj hk hyj h.c1 hz

structure Ep (B : Nat) (xl yl zc : List Nat) (i : Nat) : Prop where
 len : zc.length = xl.length + yl.length
 zero : ∀ t, i + yl.length ≤ t → zc.getD t 0 = 0
 lt : ∀ x ∈ zc, x < B
 eq : val B (zc.take (i + yl.length)) = val B (xl.take i) * val B yl

theorem Ow (B : Nat) (l : List Nat) (k : Nat) (h : ∀ t, t < k → l.getD t 0 = 0) : val B (l.take k) = 0 := by
 induction k with
 | zero => rfl
 | succ k ih => rw [lg, h k (by omega), ih (fun t ht => h t (by omega))]; simp

theorem Ep.start {B : Nat} (xl yl zl : List Nat) (hB : 0 < B) (hl : zl.length = xl.length + yl.length) (h : ∀ t, zl.getD t 0 = 0) : Ep B xl yl zl 0 := by
 refine ⟨hl, fun t _ => h t, fun x hx => ?_, ?_⟩
 ·
  obtain ⟨i, hi, rfl⟩ := List.getElem_of_mem hx
  have := h i
  simp [List.getD, List.getElem?_eq_getElem hi] at this
  omega
 ·
  rw [Ow B zl _ (fun t _ => h t)]; simp [val]

theorem Ep.step {B : Nat} {xl yl zr zc : List Nat} {i c : Nat} (h : Ep B xl yl zr i) (hi : i < xl.length) (h2 : Dj B zr yl zc i (xl.getD i 0) yl.length c) :
  Ep B xl yl (zc.set (i + yl.length) c) (i + 1) := by
 have hl := h.len
 have hl2 := h2.len
 refine ⟨by simp [hl2, hl], fun t ht => ?_, xk _ _ _ h2.lt h2.c1, ?_⟩
 ·
  rw [Cb _ _ _ _ (by omega), h2.same t (by omega), h.zero t (by omega)]
 ·
  rw [show i + 1 + yl.length = (i + yl.length) + 1 from by omega, uu _ _ _ (by omega), xy, List.length_take, Nat.min_eq_left (by omega), h2.eq, h.eq, iy _ yl _ (Nat.le_refl _), lg, Nat.add_mul]
  simp [Nat.mul_assoc]

theorem Ep.done {B : Nat} {xl yl zc : List Nat} (h : Ep B xl yl zc xl.length) : val B zc = val B xl * val B yl := by
 have e := h.eq
 have hl := h.len
 rwa [iy _ _ _ (by omega), iy _ _ _ (Nat.le_refl _)] at e

theorem Ma (B : Nat) (l : List Nat) (i : Nat) : val B (l.drop i) = l.getD i 0 + B * val B (l.drop (i + 1)) := by
 by_cases h : i < l.length
 ·
  rw [List.drop_eq_getElem_cons h]; simp [val, List.getD, h]
 ·
  rw [List.drop_of_length_le (by omega), List.drop_of_length_le (by omega)]; simp [val, List.getD, List.getElem?_eq_none (by omega : l.length ≤ i)]

structure Bf (B : Nat) (xl qc : List Nat) (y i r : Nat) : Prop where
 len : qc.length = xl.length
 lt : ∀ x ∈ qc, x < B
 eq : val B (xl.drop i) = val B (qc.drop i) * y + r
 r1 : r < y

theorem Bf.start {B : Nat} (xl ql : List Nat) (y : Nat) (hl : ql.length = xl.length) (hy : 0 < y) (h : ∀ x ∈ ql, x < B) : Bf B xl ql y xl.length 0 :=
 ⟨hl, h, by rw [List.drop_of_length_le (Nat.le_refl _), List.drop_of_length_le (by omega)]; simp [val], hy⟩

theorem Vz (l : List Nat) (i v : Nat) : (l.set i v).drop (i + 1) = l.drop (i + 1) := by
 apply Ky
 ·
  simp
 ·
  intro j hj
  have : i ≠ i + 1 + j := by omega
  simp only [List.getD, List.getElem?_drop, List.getElem?_set, this, if_false]

theorem Bf.step {B : Nat} {xl qc : List Nat} {y i r : Nat} (h : Bf B xl qc y (i + 1) r) (hi : i < xl.length) (hx : xl.getD i 0 < B) :
  Bf B xl (qc.set i ((r * B + xl.getD i 0) / y)) y i ((r * B + xl.getD i 0) % y) := by
 have hl := h.len
 have hr := h.r1
 refine ⟨by simp [hl], xk _ _ _ h.lt ?_, ?_, Nat.mod_lt _ (by omega)⟩
 ·
  rw [Nat.div_lt_iff_lt_mul (by omega)]
  have : (r + 1) * B ≤ y * B := Nat.mul_le_mul_right _ hr
  rw [Nat.add_mul] at this
  rw [Nat.mul_comm B y]; omega
 ·
  rw [Ma, Ma B (qc.set _ _), Vz, Kv _ _ _ (by omega), h.eq]
  have Ai := Nat.div_add_mod (r * B + xl.getD i 0) y
  generalize (r * B + xl.getD i 0) / y = q at *
  generalize (r * B + xl.getD i 0) % y = s at *
  have e1 : B * (val B (qc.drop (i + 1)) * y) = B * val B (qc.drop (i + 1)) * y := by rw [Nat.mul_assoc]
  have e2 : q * y = y * q := Nat.mul_comm _ _
  have e3 : B * r = r * B := Nat.mul_comm _ _
  rw [Nat.mul_add, Nat.add_mul, e1, e2, e3]
  omega

theorem Bf.done {B : Nat} {xl qc : List Nat} {y r : Nat} (h : Bf B xl qc y 0 r) : val B qc = val B xl / y ∧ r = val B xl % y := by
 have e := h.eq
 have hr := h.r1
 simp only [List.drop_zero] at e
 constructor
 ·
  rw [e, Nat.mul_comm, Nat.mul_add_div (by omega), Nat.div_eq_of_lt hr]; omega
 ·
  rw [e, Nat.mul_comm, Nat.mul_add_mod, Nat.mod_eq_of_lt hr]
end Wd

namespace Wd

structure Cq (B S : Nat) (xl zc : List Nat) (i : Nat) : Prop where
 len : zc.length = xl.length + 1
 zero : ∀ t, i < t → zc.getD t 0 = 0
 lt : ∀ x ∈ zc, x < B
 low : zc.getD i 0 < S
 eq : val B (zc.take (i + 1)) = val B (xl.take i) * S

theorem Cq.start {B S : Nat} (xl zl : List Nat) (hS : 0 < S) (hB : 0 < B) (hl : zl.length = xl.length + 1) (h : ∀ t, zl.getD t 0 = 0) : Cq B S xl zl 0 := by
 refine ⟨hl, fun t _ => h t, fun x hx => ?_, by rw [h 0]; exact hS, ?_⟩
 ·
  obtain ⟨i, hi, rfl⟩ := List.getElem_of_mem hx
  have := h i
  simp [List.getD, List.getElem?_eq_getElem hi] at this
  omega
 ·
  rw [Ow B zl _ (fun t _ => h t)]; simp [val]

theorem Cq.step {B S T : Nat} {xl zc : List Nat} {i : Nat} (hST : S * T = B) (hT : 0 < T) (h : Cq B S xl zc i) (hi : i < xl.length) (hx : xl.getD i 0 < B) :
  Cq B S xl ((zc.set i (zc.getD i 0 + xl.getD i 0 % T * S)).set (i + 1) (xl.getD i 0 / T)) (i + 1) := by
 have hl := h.len
 have hlow := h.low
 have hm : xl.getD i 0 / T < S := by rw [Nat.div_lt_iff_lt_mul hT, hST]; exact hx
 have hSB : S ≤ B := by rw [← hST]; exact Nat.le_mul_of_pos_right _ hT
 have hr : xl.getD i 0 % T < T := Nat.mod_lt _ hT
 have hr2 : (xl.getD i 0 % T + 1) * S ≤ T * S := Nat.mul_le_mul_right _ hr
 rw [Nat.add_mul, Nat.mul_comm T S, hST] at hr2
 refine ⟨by simp [hl], fun t ht => ?_, xk _ _ _ (xk _ _ _ h.lt (by omega)) (by omega), ?_, ?_⟩
 ·
  rw [Cb _ _ _ _ (by omega), Cb _ _ _ _ (by omega), h.zero t (by omega)]
 ·
  rw [Kv _ _ _ (by simp; omega)]; exact hm
 ·
  rw [uu _ _ _ (by simp; omega), xy, uu _ _ _ (by omega), xy, List.length_append, List.length_take, Nat.min_eq_left (by omega)]
  have e := h.eq
  rw [lg] at e
  rw [lg, Nat.add_mul, ← e]
  have Ai := Nat.div_add_mod (xl.getD i 0) T
  generalize xl.getD i 0 / T = q at *
  generalize xl.getD i 0 % T = r at *
  rw [← Ai]
  have e1 : B ^ i * (T * q + r) * S = B ^ i * (r * S) + B ^ (i + 1) * q := by
   rw [Nat.pow_succ]
   generalize B ^ i = P
   rw [← hST, Nat.mul_add, Nat.add_mul, Nat.mul_assoc P r S, Nat.add_comm]
   congr 1
   simp only [Nat.mul_comm, Nat.mul_left_comm]
  rw [e1, List.length_singleton, Nat.mul_add]
  omega

theorem Cq.done {B S : Nat} {xl zc : List Nat} (h : Cq B S xl zc xl.length) : val B zc = val B xl * S := by
 have e := h.eq
 have hl := h.len
 rwa [iy _ zc _ (by omega), iy _ _ _ (Nat.le_refl _)] at e

structure Bz (B S : Nat) (xl zc : List Nat) (i : Nat) : Prop where
 len : zc.length = xl.length
 lt : ∀ x ∈ zc, x < B
 eq : S * val B (zc.take i) + xl.getD 0 0 % S = val B (xl.take i) + B ^ i * (xl.getD i 0 % S)

theorem Bz.start {B S : Nat} (xl zl : List Nat) (hl : zl.length = xl.length) (h : ∀ x ∈ zl, x < B) : Bz B S xl zl 0 := ⟨hl, h, by simp [val]⟩

theorem Bz.step {B S T : Nat} {xl zc : List Nat} {i : Nat} (hST : S * T = B) (hS : 0 < S) (h : Bz B S xl zc i) (hi : i < xl.length) (hx : xl.getD i 0 < B) :
  Bz B S xl (zc.set i (xl.getD i 0 / S + xl.getD (i + 1) 0 % S * T)) (i + 1) := by
 have hl := h.len
 have h1 : xl.getD i 0 / S < T := by rw [Nat.div_lt_iff_lt_mul hS, Nat.mul_comm, hST]; exact hx
 have h2 : (xl.getD (i + 1) 0 % S + 1) * T ≤ S * T := Nat.mul_le_mul_right _ (Nat.mod_lt _ hS)
 rw [hST, Nat.add_mul] at h2
 refine ⟨by simp [hl], xk _ _ _ h.lt (by omega), ?_⟩
 rw [uu _ _ _ (by omega), xy, lg, List.length_take, Nat.min_eq_left (by omega)]
 have e := h.eq
 have Ai := Nat.div_add_mod (xl.getD i 0) S
 generalize xl.getD i 0 / S = q at *
 generalize xl.getD i 0 % S = r at *
 generalize xl.getD (i + 1) 0 % S = t at *
 rw [← Ai]
 have e1 : S * (B ^ i * (q + t * T)) = B ^ i * (S * q) + B ^ (i + 1) * t := by
  rw [Nat.pow_succ, ← hST, Nat.mul_add, Nat.mul_add]
  simp only [Nat.mul_comm, Nat.mul_left_comm, Nat.mul_assoc]
 rw [Nat.mul_add, e1, Nat.mul_add]
 omega

theorem aec {B S T : Nat} (hST : S * T = B) (l : List Nat) : val B l % S = l.getD 0 0 % S := by
 cases l with
 | nil => rfl
 | cons x l => simp [val, ← hST, Nat.mul_assoc, List.getD]

theorem Bz.done {B S T : Nat} {xl zc : List Nat} (hST : S * T = B) (hS : 0 < S) (h : Bz B S xl zc xl.length) : val B zc = val B xl / S := by
 have e := h.eq
 have hl := h.len
 have h0 : xl.getD xl.length 0 = 0 := by simp [List.getD]
 rw [h0, Nat.zero_mod, Nat.mul_zero, Nat.add_zero, iy _ _ _ (Nat.le_refl _), iy _ zc _ (by omega), ← aec hST] at e
 have := Nat.div_add_mod (val B xl) S
 have h3 : S * val B zc = S * (val B xl / S) := by omega
 exact Nat.eq_of_mul_eq_mul_left hS h3

structure Ar (B : Nat) (ul vl zc : List Nat) (k i c : Nat) : Prop where
 len : zc.length = ul.length
 same : ∀ j, i ≤ j → zc.getD j 0 = ul.getD j 0
 lt : ∀ x ∈ zc, x < B
 eq : val B (zc.take i) + k * val B (vl.take i) = val B (ul.take i) + B ^ i * c
 c1 : c < B

theorem Ar.start {B : Nat} (ul vl : List Nat) (k : Nat) (hB : 0 < B) (h : ∀ x ∈ ul, x < B) : Ar B ul vl ul k 0 0 := ⟨rfl, fun _ _ => rfl, h, by simp [val], hB⟩

theorem Ar.step {B : Nat} {ul vl zc : List Nat} {k i c d b hi lo : Nat} (h : Ar B ul vl zc k i c) (hiu : i < ul.length)
  (hd : d < B) (hb : hi + b < B) (e1 : k * vl.getD i 0 + c = hi * B + lo) (e2 : d + lo = zc.getD i 0 + B * b) : Ar B ul vl (zc.set i d) k (i + 1) (hi + b) := by
 have hlen := h.len
 refine ⟨by simp [hlen], fun t ht => ?_, xk _ _ _ h.lt hd, ?_, hb⟩
 ·
  rw [Cb _ _ _ _ (by omega), h.same t (by omega)]
 ·
  rw [uu _ _ _ (by omega), xy, lg, lg, List.length_take, Nat.min_eq_left (by omega), Nat.pow_succ]
  have e := h.eq
  have hs := h.same i (Nat.le_refl _)
  rw [← hs]
  have e3 : B ^ i * (k * vl.getD i 0 + c) = B ^ i * (hi * B + lo) := by rw [e1]
  have e4 : B ^ i * (d + lo) = B ^ i * (zc.getD i 0 + B * b) := by rw [e2]
  have e5 : k * (B ^ i * vl.getD i 0) = B ^ i * (k * vl.getD i 0) := Nat.mul_left_comm _ _ _
  have e6 : B ^ i * (hi * B) = B ^ i * B * hi := by simp only [Nat.mul_comm, Nat.mul_left_comm, Nat.mul_assoc]
  have e7 : B ^ i * (B * b) = B ^ i * B * b := by rw [Nat.mul_assoc]
  rw [Nat.mul_add k, e5]
  simp only [Nat.mul_add, e6, e7] at e3 e4 ⊢
  omega

theorem Ar.done {B : Nat} {ul vl zc : List Nat} {k c d b : Nat} (h : Ar B ul vl zc k vl.length c) (hu : ul.length = vl.length + 1) (e : d + c = zc.getD vl.length 0 + B * b) :
  val B (zc.set vl.length d) + k * val B vl = val B ul + B ^ ul.length * b := by
 have hl := h.len
 have h1 := uu zc vl.length d (by omega)
 rw [List.take_of_length_le (by simp; omega)] at h1
 rw [h1, xy, List.length_take, Nat.min_eq_left (by omega)]
 have h2 := mq B ul vl.length (by omega)
 rw [iy _ ul _ (by omega)] at h2
 have h3 := h.eq
 rw [iy _ vl _ (Nat.le_refl _)] at h3
 have hs := h.same vl.length (Nat.le_refl _)
 rw [h2, ← hs, hu, Nat.pow_succ]
 have e3 : B ^ vl.length * (d + c) = B ^ vl.length * (zc.getD vl.length 0 + B * b) := by rw [e]
 simp only [Nat.mul_add, Nat.mul_assoc] at e3 ⊢
 omega

theorem Ya {B U V top head q : Nat} {k : Nat} (h1 : top * B ^ k ≤ V) (h2 : U < (head + 1) * B ^ k) (hq : q * V ≤ U) : q * top ≤ head := by
 have h3 : q * (top * B ^ k) ≤ U := Nat.le_trans (Nat.mul_le_mul_left _ h1) hq
 have h4 : q * top * B ^ k < (head + 1) * B ^ k := by rw [Nat.mul_assoc]; omega
 have h5 := Nat.lt_of_mul_lt_mul_right h4
 omega
end Wd
namespace Wd

theorem aqh (q : Rat) (n : Int) (d : Nat) (hd : d ≠ 0) (hc : n.natAbs.Coprime d) (he : n * q.den = q.num * d) : q.num = n ∧ q.den = d := by
 have h1 : q = Rat.mk' n d hd hc := by rw [Rat.eq_iff_mul_eq_mul]; simp only; exact he.symm
 rw [h1]; exact ⟨rfl, rfl⟩

theorem Mt (n d : Int) (hd : d ≠ 0) : (Rat.divInt n d).num = n.tdiv (d.sign * (n.natAbs.gcd d.natAbs : Nat)) ∧ ((Rat.divInt n d).den : Int) = d.tdiv (d.sign * (n.natAbs.gcd d.natAbs : Nat)) := by
 have hg0 : 0 < n.natAbs.gcd d.natAbs := Nat.gcd_pos_of_pos_right _ (by omega)
 have hgn : ((n.natAbs.gcd d.natAbs : Nat) : Int) ∣ n := Int.dvd_trans (Int.ofNat_dvd.2 (Nat.gcd_dvd_left _ _)) (Int.natAbs_dvd.2 (Int.dvd_refl n))
 have hgd : ((n.natAbs.gcd d.natAbs : Nat) : Int) ∣ d := Int.dvd_trans (Int.ofNat_dvd.2 (Nat.gcd_dvd_right _ _)) (Int.natAbs_dvd.2 (Int.dvd_refl d))
 have hc : (n.natAbs / n.natAbs.gcd d.natAbs).Coprime (d.natAbs / n.natAbs.gcd d.natAbs) := Nat.coprime_div_gcd_div_gcd hg0
 generalize hgg : n.natAbs.gcd d.natAbs = g at *
 obtain ⟨a, ha⟩ := hgn
 obtain ⟨b, hb⟩ := hgd
 have hgi : (g : Int) ≠ 0 := by omega
 have hb0 : b ≠ 0 := by rintro rfl; simp at hb; exact hd hb
 have hsd : d.sign = b.sign := by rw [hb, Int.sign_mul, Int.sign_eq_one_of_pos (by omega), Int.one_mul]
 have hs : d.sign * d.sign = 1 := by
  rcases Int.lt_trichotomy d 0 with h | h | h
  ·
   rw [Int.sign_eq_neg_one_of_neg h]; rfl
  ·
   exact absurd h hd
  ·
   rw [Int.sign_eq_one_of_pos h]; rfl
 have hs0 : d.sign ≠ 0 := by intro h; rw [h] at hs; simp at hs
 have e1 : n.tdiv (d.sign * g) = d.sign * a := by
  rw [ha]
  have : (g : Int) * a = (d.sign * g) * (d.sign * a) := by
   have : (d.sign * g) * (d.sign * a) = (d.sign * d.sign) * (g * a) := by simp only [Int.mul_comm, Int.mul_left_comm, Int.mul_assoc]
   rw [this, hs, Int.one_mul]
  rw [this, Int.mul_tdiv_cancel_left _ (by simp [Int.mul_eq_zero]; omega)]
 have e2 : d.tdiv (d.sign * g) = d.sign * b := by
  conv => lhs; arg 1; rw [hb]
  have : (g : Int) * b = (d.sign * g) * (d.sign * b) := by
   have : (d.sign * g) * (d.sign * b) = (d.sign * d.sign) * (g * b) := by simp only [Int.mul_comm, Int.mul_left_comm, Int.mul_assoc]
   rw [this, hs, Int.one_mul]
  rw [this, Int.mul_tdiv_cancel_left _ (by simp [Int.mul_eq_zero]; omega)]
 have e3 : d.sign * b = b.natAbs := by rw [hsd]; exact Int.sign_mul_self b
 rw [e1, e2, e3]
 have hna : n.natAbs / g = a.natAbs := by rw [ha, Int.natAbs_mul, Int.natAbs_natCast]; exact Nat.mul_div_cancel_left _ hg0
 have hda : d.natAbs / g = b.natAbs := by
  have : d.natAbs = g * b.natAbs := by rw [hb, Int.natAbs_mul, Int.natAbs_natCast]
  rw [this]; exact Nat.mul_div_cancel_left _ hg0
 rw [hna, hda] at hc
 have hsn : (d.sign * a).natAbs = a.natAbs := by
  rw [Int.natAbs_mul]
  have : d.sign.natAbs = 1 := by
   rcases Int.lt_trichotomy d 0 with h | h | h
   ·
    rw [Int.sign_eq_neg_one_of_neg h]; rfl
   ·
    exact absurd h hd
   ·
    rw [Int.sign_eq_one_of_pos h]; rfl
  rw [this, Nat.one_mul]
 have hq : Rat.divInt n d = Rat.mk' (d.sign * a) b.natAbs (by omega) (by rw [hsn]; exact hc) := by
  rw [Rat.mk_eq_divInt, Rat.divInt_eq_divInt_iff hd (by omega)]
  rw [← e3, ha]
  generalize d.sign = t at *
  rw [hb]
  simp only [Int.mul_comm, Int.mul_left_comm, Int.mul_assoc]
 rw [hq]
 exact ⟨rfl, rfl⟩

theorem Vf {a : Int} {b : Nat} (h : a.natAbs.Coprime b) {c : Int} (hc : c ∣ a) : c.natAbs.Coprime b := Nat.Coprime.coprime_dvd_left (Int.natAbs_dvd_natAbs.2 hc) h

theorem asq (x y : Rat) (g h : Nat) (n : Int) (hg : g = x.den.gcd y.den) (hn : n = x.num * (y.den / g : Nat) + y.num * (x.den / g : Nat)) (hh : h = g.gcd n.natAbs) :
  (x + y).num = n.tdiv h ∧ (x + y).den = x.den / g * (y.den / h) := by
 have hx := x.reduced
 have hy := y.reduced
 have hxd := x.den_pos
 have hyd := y.den_pos
 have hg0 : 0 < g := by rw [hg]; exact Nat.gcd_pos_of_pos_left _ hxd
 obtain ⟨a, ha⟩ : g ∣ x.den := by rw [hg]; exact Nat.gcd_dvd_left _ _
 obtain ⟨b, hb⟩ : g ∣ y.den := by rw [hg]; exact Nat.gcd_dvd_right _ _
 have hab : a.Coprime b := by
  have := Nat.coprime_div_gcd_div_gcd (m := x.den) (n := y.den) (by rw [← hg]; exact hg0)
  rwa [← hg, ha, hb, Nat.mul_div_cancel_left _ hg0, Nat.mul_div_cancel_left _ hg0] at this
 have ea : x.den / g = a := by rw [ha, Nat.mul_div_cancel_left _ hg0]
 have eb : y.den / g = b := by rw [hb, Nat.mul_div_cancel_left _ hg0]
 rw [ea, eb] at hn
 rw [ea]
 have hh0 : 0 < h := by rw [hh]; exact Nat.gcd_pos_of_pos_left _ hg0
 obtain ⟨g', hg'⟩ : h ∣ g := by rw [hh]; exact Nat.gcd_dvd_left _ _
 obtain ⟨n', hn'⟩ : (h : Int) ∣ n := Int.dvd_trans (Int.ofNat_dvd.2 (by rw [hh]; exact Nat.gcd_dvd_right _ _)) (Int.natAbs_dvd.2 (Int.dvd_refl n))
 have hgn : n'.natAbs.Coprime g' := by
  have := Nat.coprime_div_gcd_div_gcd (m := g) (n := n.natAbs) (by rw [← hh]; exact hh0)
  rw [← hh, hn', Int.natAbs_mul, Int.natAbs_natCast, Nat.mul_div_cancel_left _ hh0] at this
  conv at this => lhs; rw [hg', Nat.mul_div_cancel_left _ hh0]
  exact this.symm
 have e1 : n.tdiv h = n' := by rw [hn']; exact Int.mul_tdiv_cancel_left _ (by omega)
 have e2 : y.den / h = g' * b := by rw [hb, hg', Nat.mul_assoc, Nat.mul_div_cancel_left _ hh0]
 rw [e1, e2]
 have ca : n.natAbs.Coprime a := by
  have h1 : (x.num * b).natAbs.Coprime a := by
   rw [Int.natAbs_mul, Int.natAbs_natCast]
   exact Nat.Coprime.mul_left (Nat.Coprime.coprime_dvd_right ⟨g, by rw [ha, Nat.mul_comm]⟩ hx) hab.symm
  have h2 : Int.gcd n a = 1 := by
   have : Int.gcd (x.num * b) a = 1 := by exact h1
   rw [hn, Int.gcd_add_mul_right_left]
   exact this
  exact h2
 have cb : n.natAbs.Coprime b := by
  have h1 : (y.num * a).natAbs.Coprime b := by
   rw [Int.natAbs_mul, Int.natAbs_natCast]
   exact Nat.Coprime.mul_left (Nat.Coprime.coprime_dvd_right ⟨g, by rw [hb, Nat.mul_comm]⟩ hy) hab
  have h2 : Int.gcd n b = 1 := by
   have : Int.gcd (y.num * a) b = 1 := by exact h1
   rw [hn, Int.add_comm, Int.gcd_add_mul_right_left]
   exact this
  exact h2
 have dn : n' ∣ n := ⟨h, by rw [hn', Int.mul_comm]⟩
 have hc : n'.natAbs.Coprime (a * (g' * b)) := Nat.Coprime.mul_right (Vf ca dn) (Nat.Coprime.mul_right hgn (Vf cb dn))
 have hb0 : b ≠ 0 := by rintro rfl; simp at hb; omega
 have ha0 : a ≠ 0 := by rintro rfl; simp at ha; omega
 have bur : g' ≠ 0 := by rintro rfl; simp at hg'; omega
 refine aqh _ _ _ (by simp [Nat.mul_eq_zero]; omega) hc ?_
 have hq : x + y = Rat.mk' n' (a * (g' * b)) (by simp [Nat.mul_eq_zero]; omega) hc := by
  rw [Rat.add_def', Rat.mk_eq_mkRat, Rat.mkRat_eq_iff (by simp [Nat.mul_eq_zero]; omega) (by simp [Nat.mul_eq_zero]; omega)]
  have e3 : x.num * y.den + y.num * x.den = g * n := by
   rw [hn, ha, hb]; simp only [Int.natCast_mul, Int.mul_add]
   simp only [Int.mul_left_comm]
  rw [e3, ha, hb, hn']
  simp only [hg', Int.natCast_mul]
  simp only [Int.mul_comm, Int.mul_left_comm, Int.mul_assoc]
 rw [hq]

theorem aqz (x y : Rat) (g h : Nat) (hg : g = x.num.natAbs.gcd y.den) (hh : h = y.num.natAbs.gcd x.den) :
  (x * y).num = x.num.tdiv g * y.num.tdiv h ∧ (x * y).den = x.den / h * (y.den / g) := by
 have hx := x.reduced
 have hy := y.reduced
 have hxd := x.den_pos
 have hyd := y.den_pos
 have hg0 : 0 < g := by rw [hg]; exact Nat.gcd_pos_of_pos_right _ hyd
 have hh0 : 0 < h := by rw [hh]; exact Nat.gcd_pos_of_pos_right _ hxd
 obtain ⟨a, ha⟩ : (g : Int) ∣ x.num := Int.dvd_trans (Int.ofNat_dvd.2 (by rw [hg]; exact Nat.gcd_dvd_left _ _)) (Int.natAbs_dvd.2 (Int.dvd_refl _))
 obtain ⟨b, hb⟩ : g ∣ y.den := by rw [hg]; exact Nat.gcd_dvd_right _ _
 obtain ⟨c, hc⟩ : (h : Int) ∣ y.num := Int.dvd_trans (Int.ofNat_dvd.2 (by rw [hh]; exact Nat.gcd_dvd_left _ _)) (Int.natAbs_dvd.2 (Int.dvd_refl _))
 obtain ⟨d, hd⟩ : h ∣ x.den := by rw [hh]; exact Nat.gcd_dvd_right _ _
 have ea : x.num.tdiv g = a := by rw [ha]; exact Int.mul_tdiv_cancel_left _ (by omega)
 have ec : y.num.tdiv h = c := by rw [hc]; exact Int.mul_tdiv_cancel_left _ (by omega)
 have eb : y.den / g = b := by rw [hb, Nat.mul_div_cancel_left _ hg0]
 have ed : x.den / h = d := by rw [hd, Nat.mul_div_cancel_left _ hh0]
 rw [ea, ec, eb, ed]
 have cab : a.natAbs.Coprime b := by
  have := Nat.coprime_div_gcd_div_gcd (m := x.num.natAbs) (n := y.den) (by rw [← hg]; exact hg0)
  rw [← hg, eb, ha, Int.natAbs_mul, Int.natAbs_natCast, Nat.mul_div_cancel_left _ hg0] at this
  exact this
 have ccd : c.natAbs.Coprime d := by
  have := Nat.coprime_div_gcd_div_gcd (m := y.num.natAbs) (n := x.den) (by rw [← hh]; exact hh0)
  rw [← hh, ed, hc, Int.natAbs_mul, Int.natAbs_natCast, Nat.mul_div_cancel_left _ hh0] at this
  exact this
 have cad : a.natAbs.Coprime d := Nat.Coprime.coprime_dvd_right ⟨h, by rw [hd, Nat.mul_comm]⟩ (Vf hx ⟨g, by rw [ha, Int.mul_comm]⟩)
 have ccb : c.natAbs.Coprime b := Nat.Coprime.coprime_dvd_right ⟨g, by rw [hb, Nat.mul_comm]⟩ (Vf hy ⟨h, by rw [hc, Int.mul_comm]⟩)
 have bgs : (a * c).natAbs.Coprime (d * b) := by
  rw [Int.natAbs_mul]
  exact Nat.Coprime.mul_left (Nat.Coprime.mul_right cad cab) (Nat.Coprime.mul_right ccd ccb)
 have hb0 : b ≠ 0 := by rintro rfl; simp at hb; omega
 have hd0 : d ≠ 0 := by rintro rfl; simp at hd; omega
 refine aqh _ _ _ (by simp [Nat.mul_eq_zero]; omega) bgs ?_
 have hq : x * y = Rat.mk' (a * c) (d * b) (by simp [Nat.mul_eq_zero]; omega) bgs := by
  rw [Rat.mul_def', Rat.mk_eq_mkRat, Rat.mkRat_eq_iff (by simp [Nat.mul_eq_zero]; omega) (by simp [Nat.mul_eq_zero]; omega)]
  rw [ha, hc, hb, hd]
  simp only [Int.natCast_mul]
  simp only [Int.mul_comm, Int.mul_left_comm, Int.mul_assoc]
 rw [hq]

end Wd

namespace Wd
def Gs (x k u : Nat) : Prop := x = 2 ^ k * u ∧ u % 2 = 1

theorem ajd {x k u k' u' : Nat} (h : Gs x k u) (h' : Gs x k' u') : k = k' ∧ u = u' := by
 have key : ∀ {k u k' u' : Nat}, 2 ^ k * u = 2 ^ k' * u' → u % 2 = 1 → u' % 2 = 1 → k ≤ k' → k = k' ∧ u = u' := by
  intro k u k' u' e h1 h2 hk
  obtain ⟨d, rfl⟩ : ∃ d, k' = k + d := ⟨k' - k, by omega⟩
  rw [Nat.pow_add, Nat.mul_assoc] at e
  have := Nat.eq_of_mul_eq_mul_left (Nat.pow_pos (by omega)) e
  cases d with
  | zero => simp at this; exact ⟨rfl, this⟩
  | succ d => rw [this, Nat.pow_succ, Nat.mul_assoc, Nat.mul_comm (2 ^ d), Nat.mul_assoc] at h1; omega
 obtain ⟨e1, o1⟩ := h
 obtain ⟨e2, o2⟩ := h'
 rcases Nat.le_total k k' with hk | hk
 ·
  exact key (e1.symm.trans e2) o1 o2 hk
 ·
  have := key (e2.symm.trans e1) o2 o1 hk
  exact ⟨this.1.symm, this.2.symm⟩

theorem Fz {u : Nat} (hu : u % 2 = 1) (k v : Nat) : u.gcd (2 ^ k * v) = u.gcd v := by
 have h2 : Nat.Coprime u 2 := by
  rw [Nat.Coprime, Nat.gcd_comm, Nat.gcd_rec, hu]; rfl
 have hk : Nat.Coprime u (2 ^ k) := Nat.Coprime.pow_right k h2
 exact Nat.Coprime.gcd_mul_left_cancel_right v hk.symm

theorem awi {x y a b u v : Nat} (hx : Gs x a u) (hy : Gs y b v) : x.gcd y = 2 ^ (min a b) * u.gcd v := by
 obtain ⟨rfl, hu⟩ := hx
 obtain ⟨rfl, hv⟩ := hy
 rcases Nat.le_total a b with h | h
 ·
  obtain ⟨d, rfl⟩ : ∃ d, b = a + d := ⟨b - a, by omega⟩
  rw [Nat.min_eq_left h, Nat.pow_add, Nat.mul_assoc, Nat.gcd_mul_left, Fz hu]
 ·
  obtain ⟨d, rfl⟩ : ∃ d, a = b + d := ⟨a - b, by omega⟩
  rw [Nat.min_eq_right h, Nat.pow_add, Nat.mul_assoc, Nat.gcd_mul_left, Nat.gcd_comm, Fz hv, Nat.gcd_comm]

theorem Wj (k a b : Nat) : (2 ^ k * a) ||| (2 ^ k * b) = 2 ^ k * (a ||| b) := by
 apply Nat.eq_of_testBit_eq
 intro i
 simp only [Nat.testBit_or, Nat.testBit_two_pow_mul]
 by_cases h : k ≤ i <;> simp [h]

theorem akj (a b : Nat) : (a ||| b) % 2 = 1 ↔ a % 2 = 1 ∨ b % 2 = 1 := by
 have h := @Nat.testBit_or a b 0
 simp only [Nat.testBit_zero] at h
 have : decide ((a ||| b) % 2 = 1) = decide (a % 2 = 1 ∨ b % 2 = 1) := by rw [h]; simp
 simp only [decide_eq_decide] at this
 exact this

theorem auw {x y a b u v : Nat} (hx : Gs x a u) (hy : Gs y b v) : ∃ w, Gs (x ||| y) (min a b) w := by
 obtain ⟨rfl, hu⟩ := hx
 obtain ⟨rfl, hv⟩ := hy
 rcases Nat.le_total a b with h | h
 ·
  obtain ⟨d, rfl⟩ : ∃ d, b = a + d := ⟨b - a, by omega⟩
  rw [Nat.min_eq_left h, Nat.pow_add, Nat.mul_assoc, Wj]
  exact ⟨_, rfl, (akj _ _).2 (.inl hu)⟩
 ·
  obtain ⟨d, rfl⟩ : ∃ d, a = b + d := ⟨a - b, by omega⟩
  rw [Nat.min_eq_right h, Nat.pow_add, Nat.mul_assoc, Wj]
  exact ⟨_, rfl, (akj _ _).2 (.inr hv)⟩

def Dl (G t x y : Nat) : Prop := x % 2 = 1 ∧ G = 2 ^ t * x.gcd y

theorem Dl.start {X Y a b u v t : Nat} (hX : Gs X a u) (hY : Gs Y b v) (ht : ∃ w, Gs (X ||| Y) t w) : Dl (X.gcd Y) t u Y := by
 obtain ⟨w, hw⟩ := ht
 obtain ⟨w', hw'⟩ := auw hX hY
 obtain ⟨rfl, _⟩ := ajd hw hw'
 refine ⟨hX.2, ?_⟩
 rw [awi hX hY]
 obtain ⟨rfl, _⟩ := hY
 rw [Fz hX.2]

theorem Dl.baj {G t x y k v : Nat} (h : Dl G t x y) (hy : Gs y k v) (hle : x ≤ v) : Dl G t x (v - x) := by
 obtain ⟨h1, h2⟩ := h
 obtain ⟨rfl, hv⟩ := hy
 refine ⟨h1, ?_⟩
 rw [h2, Fz h1]
 have : x.gcd v = x.gcd (v - x) := by
  rw [Nat.gcd_comm, Nat.gcd_comm x (v - x)]
  exact (Nat.gcd_sub_self_left hle).symm
 rw [this]

theorem Dl.bak {G t x y k v : Nat} (h : Dl G t x y) (hy : Gs y k v) (hlt : v < x) : Dl G t v (x - v) := by
 obtain ⟨h1, h2⟩ := h
 obtain ⟨rfl, hv⟩ := hy
 refine ⟨hv, ?_⟩
 rw [h2, Fz h1]
 have : x.gcd v = v.gcd (x - v) := by
  rw [Nat.gcd_comm v]
  exact (Nat.gcd_sub_self_left (by omega)).symm
 rw [this]

theorem Dl.done {G t x : Nat} (h : Dl G t x 0) : G = x * 2 ^ t := by
 rw [h.2, Nat.gcd_zero_right, Nat.mul_comm]

theorem afl {x k u : Nat} (h : Gs x k u) : x / 2 ^ k = u := by
 rw [h.1]; exact Nat.mul_div_cancel_left _ (Nat.pow_pos (by omega))
theorem akf {x k u : Nat} (h : Gs x k u) : u ≤ x := by
 rw [h.1]; exact Nat.le_mul_of_pos_left _ (Nat.pow_pos (by omega))
end Wd


namespace Wd
structure zt (b y1 y0 u d q r : Nat) : Prop where
 eq : q * y1 + r = u
 ge : (u * b + d) / (y1 * b + y0) ≤ q

theorem zt.start {b y1 y0 u d : Nat} (hy : 0 < y1) (hd : d < b) : zt b y1 y0 u d (u / y1) (u - u / y1 * y1) := by
 have Ai := Nat.div_add_mod u y1
 have hml : u / y1 * y1 ≤ u := Nat.div_mul_le_self u y1
 refine ⟨by omega, ?_⟩
 rw [Nat.le_div_iff_mul_le hy]
 have h1 : (u * b + d) / (y1 * b + y0) * (y1 * b + y0) ≤ u * b + d := Nat.div_mul_le_self _ _
 generalize (u * b + d) / (y1 * b + y0) = Q at *
 have h2 : Q * y1 * b < (u + 1) * b := by
  rw [Nat.mul_add, ← Nat.mul_assoc] at h1
  rw [Nat.add_mul]
  omega
 have := Nat.lt_of_mul_lt_mul_right h2
 omega

theorem zt.step {b y1 y0 u d q r : Nat} (hy : 0 < y1 * b + y0) (hu : u < y1 * b + y0) (hd : d < b) (h : zt b y1 y0 u d q r) (ht : b ≤ q ∨ b * r + d < q * y0) :
  1 ≤ q ∧ zt b y1 y0 u d (q - 1) (r + y1) := by
 have hlt : (u * b + d) / (y1 * b + y0) < q := by
  rcases ht with h1 | h1
  ·
   refine Nat.lt_of_lt_of_le ?_ h1
   rw [Nat.div_lt_iff_lt_mul hy]
   have : (u + 1) * b ≤ (y1 * b + y0) * b := Nat.mul_le_mul_right _ hu
   rw [Nat.add_mul] at this
   rw [Nat.mul_comm b]
   omega
  ·
   rw [Nat.div_lt_iff_lt_mul hy, ← h.eq, Nat.mul_add, Nat.add_mul, ← Nat.mul_assoc, Nat.mul_comm r b]
   omega
 have e := h.eq
 refine ⟨Nat.lt_of_le_of_lt (Nat.zero_le _) hlt, ⟨?_, Nat.le_sub_one_of_lt hlt⟩⟩
 have hq1 : 1 ≤ q := Nat.lt_of_le_of_lt (Nat.zero_le _) hlt
 clear hlt
 have : (q - 1) * y1 + y1 = q * y1 := by
  obtain ⟨p, rfl⟩ : ∃ p, q = p + 1 := ⟨q - 1, by omega⟩
  rw [Nat.add_sub_cancel, Nat.add_mul, Nat.one_mul]
 omega

theorem zt.done {b y1 y0 u d q r : Nat} (hy : 0 < y1 * b + y0) (h : zt b y1 y0 u d q r) (ht : q * y0 ≤ b * r + d) : q = (u * b + d) / (y1 * b + y0) := by
 refine Nat.le_antisymm ?_ h.ge
 rw [Nat.le_div_iff_mul_le hy, ← h.eq, Nat.mul_add, Nat.add_mul, ← Nat.mul_assoc, Nat.mul_comm r b]
 omega

theorem zt.stop {b y1 y0 u d q r : Nat} (hy : 0 < y1 * b + y0) (hy0 : y0 < b) (hu : u < y1 * b + y0) (h : zt b y1 y0 u d q r) (ht : b ≤ r) : q = (u * b + d) / (y1 * b + y0) := by
 refine h.done hy ?_
 have e := h.eq
 have h1 : q * y1 < y1 * b := by omega
 have hq : q < b := by
  rw [Nat.mul_comm] at h1
  exact Nat.lt_of_mul_lt_mul_left h1
 have h2 : q * y0 ≤ b * b := Nat.mul_le_mul (by omega) (by omega)
 have h3 : b * b ≤ b * r := Nat.mul_le_mul_left _ ht
 omega

theorem ahu {b Y u d : Nat} (hY : 0 < Y) (hu : u < Y) (hd : d < b) : (u * b + d) / Y < b := by
 rw [Nat.div_lt_iff_lt_mul hY]
 have : (u + 1) * b ≤ Y * b := Nat.mul_le_mul_right _ hu
 rw [Nat.add_mul] at this
 rw [Nat.mul_comm b]; omega

theorem alp {b Y u d1 d0 : Nat} (hY : 0 < Y) : (u * (b * b) + d1 * b + d0) / Y = (u * b + d1) / Y * b + ((u * b + d1) % Y * b + d0) / Y ∧
  (u * (b * b) + d1 * b + d0) % Y = ((u * b + d1) % Y * b + d0) % Y := by
 have Ai := Nat.div_add_mod (u * b + d1) Y
 generalize (u * b + d1) / Y = Q at *
 generalize (u * b + d1) % Y = R at *
 have e : u * (b * b) + d1 * b + d0 = Y * (Q * b) + (R * b + d0) := by
  have : (u * b + d1) * b = (Y * Q + R) * b := by rw [Ai]
  rw [Nat.add_mul, Nat.add_mul, Nat.mul_assoc, Nat.mul_assoc] at this
  omega
 rw [e]
 exact ⟨by rw [Nat.mul_add_div hY], by rw [Nat.mul_add_mod]⟩

theorem Qu {N Y S : Nat} (hS : 0 < S) : N * S / (Y * S) = N / Y ∧ N * S % (Y * S) / S = N % Y := by
 rw [Nat.mul_div_mul_right _ _ hS, Nat.mul_mod_mul_right, Nat.mul_div_cancel _ hS]
 exact ⟨rfl, rfl⟩
end Wd

end Go.Proofs.YtfgeaakhlcaibaaGreatDoor
namespace Go.Proofs.YtfgeaakhlcaibaaGreatDoor
open Go.RowKit
theorem om {P : Prop} (h : P := by omega) : P := h
theorem bem {P : Prop} (h : P := by (first | assumption | (repeat (first | exact Below.refl _ _ | assumption | refine Below.drew ?_ | (refine Below.alloc ?_ (by simp <;> omega) _))))) : P := h

theorem hide {p : Prop} (h : p) : Hid p := h
theorem aa {p : Prop} (h : Hid p) : p := h

def Ws (k : IntKind) (w : World) (B : Nat) (A : Option Addr) (l : List Nat) : Prop :=
 0 < l.length → ∃ b off, A = some ⟨b, off, none⟩ ∧ b < B ∧ ∀ j, j < l.length → w.cell? ⟨b, off + j, none⟩ = some (.int k ((Wd.g l j : Nat) : Int))

section
variable {k : IntKind} {w w' : World} {B B' : Nat} {A : Option Addr} {l : List Nat}
theorem Ws.Rc : Ws k w B A [] := fun h => absurd h (by simp)
theorem Ws.at_ (h : Ws k w B A l) (hl : 0 < l.length) : ∃ b off, A = some ⟨b, off, none⟩ ∧ b < B ∧ ∀ j, j < l.length → w.cell? ⟨b, off + j, none⟩ = some (.int k ((Wd.g l j : Nat) : Int)) := h hl
theorem Ws.keep (h : Ws k w B A l) (hk : ∀ p : Addr, p.block < B → w'.cell? p = w.cell? p) : Ws k w' B A l := fun hl => by
 obtain ⟨b, off, e, hb, hc⟩ := h hl
 exact ⟨b, off, e, hb, fun j hj => (hk _ hb).trans (hc j hj)⟩
theorem Ws.more (h : Ws k w B A l) (hB : B ≤ B') : Ws k w B' A l := fun hl => by
 obtain ⟨b, off, e, hb, hc⟩ := h hl
 exact ⟨b, off, e, by omega, hc⟩
theorem Ws.below (h : Ws k w B A l) (hb : Below B w w') : Ws k w' B A l := h.keep fun _ hp => hb.cell hp
theorem Ws.drew (h : Ws k w B A l) : Ws k w.drew B A l := h
theorem Ws.drewN (h : Ws k w B A l) (n : Nat) : Ws k (w.drewN n) B A l := h
theorem Ws.alloc (h : Ws k w B A l) (hB : B ≤ w.heap.size) (o : Obj) : Ws k (w.alloc o) B A l := h.keep fun p hp => World.cell?_alloc_lt w o p om
theorem Ws.setCell (h : Ws k w B A l) {p : Addr} (hB : B ≤ p.block) (u : Value) : Ws k (w.setCell p u) B A l :=
 h.keep fun q hq => World.cell?_setCell_other w p q u (fun e => by subst e; omega)
theorem Ws.Qo (h : Ws k w B A l) (n : Nat) : Ws k w B A (l.take n) := fun hl => by
 have hl' : 0 < l.length := by simp at hl; omega
 obtain ⟨b, off, e, hb, hc⟩ := h hl'
 refine ⟨b, off, e, hb, fun j hj => ?_⟩
 have : j < n ∧ j < l.length := by simp at hj; omega
 rw [Wd.qa, Wd.getD_take _ _ _ this.1]
 exact hc j this.2
end
theorem kr {P : Prop} (h : P := by kernel_rfl) : P := h

def vg (k : IntKind) (zs : List Nat) : Array Value := (zs.map fun (x : Nat) => Value.int k (x : Int)).toArray

def ZB (k : IntKind) (w : World) (b : Nat) (T : TypeId) (zs : List Nat) : Prop := w.heap[b]? = some (.cells (vg k zs) T (0, 0))

theorem alm (k : IntKind) (zs : List Nat) (i : Nat) (h : i < zs.length) : (vg k zs)[i]? = some (.int k ((Wd.g zs i : Nat) : Int)) := by
 simp [vg, Wd.g, List.getD, h]

section
variable {k : IntKind} {w w' : World} {b : Nat} {T : TypeId} {zs : List Nat}
theorem ZB.lt (h : ZB k w b T zs) : b < w.heap.size := by
 rcases Nat.lt_or_ge b w.heap.size with hlt | hge
 ·
  exact hlt
 ·
  unfold ZB at h; rw [Array.getElem?_eq_none hge] at h; cases h
theorem ZB.cell (h : ZB k w b T zs) (i : Nat) (hi : i < zs.length) : w.cell? ⟨b, i, none⟩ = some (.int k ((Wd.g zs i : Nat) : Int)) := by
 unfold ZB at h
 simp only [World.cell?, h, Option.isSome_none, Bool.false_eq_true, if_false]
 exact alm k zs i hi
theorem ZB.frozen (h : ZB k w b T zs) (i : Nat) : w.frozen? ⟨b, i, none⟩ = false := by
 unfold ZB at h
 simp [World.frozen?, h]
theorem ZB.drew (h : ZB k w b T zs) : ZB k w.drew b T zs := h
theorem ZB.drewN (h : ZB k w b T zs) (n : Nat) : ZB k (w.drewN n) b T zs := h
theorem ZB.alloc (h : ZB k w b T zs) (o : Obj) : ZB k (w.alloc o) b T zs := (Below.heap_alloc w o b h.lt).trans h
theorem ZB.Az (h : ZB k w b T zs) (i v : Nat) : ZB k (w.setCell ⟨b, i, none⟩ (.int k (v : Int))) b T (zs.set i v) := by
 unfold ZB at h ⊢
 have e : (vg k zs).setIfInBounds i (.int k (v : Int)) = vg k (zs.set i v) := by
  simp [vg, List.map_set]
 simp [World.setCell, Array.getElem?_modify, h, e]
theorem ZB.below {B : Nat} (h : ZB k w b T zs) (hb : Below B w w') (hg : b < B) : ZB k w' b T zs := (hb.block b hg).trans h
theorem ZB.grown {row : Option Nat} (h : ZB k w b T zs) (hb : w.grownBy w' row) (hg : some b ≠ row) : ZB k w' b T zs := (hb.block b h.lt hg).trans h
theorem ZB.ws (h : ZB k w b T zs) (off n : Nat) (hn : off + n ≤ zs.length) (B : Nat) (hB : b < B) : Ws k w B (some ⟨b, off, none⟩) ((zs.drop off).take n) := fun _ => by
 refine ⟨b, off, rfl, hB, fun j hj => ?_⟩
 have hj' : j < n := by simp at hj; omega
 rw [h.cell (off + j) om]
 simp [Wd.g, List.getD, hj', List.getElem?_drop]
theorem ZB.Dw (h : ZB k w b T zs) (B : Nat) (hB : b < B) : Ws k w B (some ⟨b, 0, none⟩) zs := fun _ => ⟨b, 0, rfl, hB, fun j hj => by rw [Nat.zero_add]; exact h.cell j hj⟩
end

def win (us : List Nat) (off : Nat) (zc : List Nat) : List Nat := us.take off ++ zc ++ us.drop (off + zc.length)

theorem win_length (us : List Nat) (off : Nat) (zc : List Nat) (h : off + zc.length ≤ us.length) : (win us off zc).length = us.length := by
 simp [win]; omega
theorem Jt (us : List Nat) (off : Nat) (zc : List Nat) (h : off + zc.length ≤ us.length) (i : Nat) (hi : i < zc.length) : Wd.g (win us off zc) (off + i) = Wd.g zc i := by
 have h1 : (us.take off).length = off := by simp; omega
 simp only [Wd.g, win, List.getD, List.append_assoc]
 rw [List.getElem?_append_right om, h1, Nat.add_sub_cancel_left, List.getElem?_append_left hi]
theorem Ev (us : List Nat) (off : Nat) (zc : List Nat) (h : off + zc.length ≤ us.length) (i v : Nat) (hi : i < zc.length) : (win us off zc).set (off + i) v = win us off (zc.set i v) := by
 have h1 : (us.take off).length = off := by simp; omega
 simp only [win, List.append_assoc, List.length_set]
 rw [List.set_append_right _ _ om, h1, Nat.add_sub_cancel_left, List.set_append_left _ _ hi]
theorem Jf (us : List Nat) (off n : Nat) (h : off + n ≤ us.length) : win us off ((us.drop off).take n) = us := by
 have h1 : ((us.drop off).take n).length = n := by simp; omega
 simp only [win, h1, List.append_assoc]
 rw [← List.drop_drop, List.take_append_drop, List.take_append_drop]
theorem bae (us : List Nat) (off : Nat) (zc zd : List Nat) (h : off + zc.length ≤ us.length) (hl : zd.length = zc.length) : win (win us off zc) off zd = win us off zd := by
 have h1 : (us.take off).length = off := by simp; omega
 have h2 : (win us off zc).take off = us.take off := by
  simp only [win, List.append_assoc]
  rw [List.take_append_of_le_length om, List.take_of_length_le om]
 have h3 : (win us off zc).drop (off + zc.length) = us.drop (off + zc.length) := by
  simp only [win]
  rw [List.drop_append_of_le_length (by simp; omega), List.drop_of_length_le (by simp; omega), List.nil_append]
 unfold win at h2 h3 ⊢
 rw [h2, hl, h3]
theorem win_zero (zs zc : List Nat) (h : zc.length = zs.length) : win zs 0 zc = zc := by simp [win, h]

def dh : Nat := 18446744073709551616
theorem gm : dh = 18446744073709551616 := rfl
theorem oh : 1 < dh := by rw [gm]; omega
def dw : Nat := 4294967296
theorem fo : dw = 4294967296 := rfl
theorem Ct : 1 < dw := by rw [fo]; omega

theorem kz {w w' : World} {b : Nat} (h : w.grownBy w' (some b)) (off : Nat) (u : Value) : w.grownBy (w'.setCell ⟨b, off, none⟩ u) (some b) :=
 ⟨h.os, h.tape, h.output, by simpa [World.setCell] using h.size, fun k hk hne => (Below.heap_setCell w' _ u k (by rintro rfl; exact hne rfl)).trans (h.block k hk hne)⟩
theorem anr {w w' : World} {r : Option Nat} (h : w.grownBy w' r) : w.grownBy w'.drew r := ⟨h.os, h.tape, h.output, h.size, h.block⟩
theorem ajf {w w' : World} {r : Option Nat} (h : w.grownBy w' r) (n : Nat) : w.grownBy (w'.drewN n) r := ⟨h.os, h.tape, h.output, h.size, h.block⟩
theorem qb (w : World) (r : Option Nat) : w.grownBy w r := ⟨rfl, rfl, rfl, Nat.le_refl _, fun _ _ _ => rfl⟩
theorem Ue {a b c : World} {r : Option Nat} (h : a.grownBy b r) (k : b.grownBy c r) : a.grownBy c r :=
 ⟨k.os.trans h.os, k.tape.trans h.tape, k.output.trans h.output, Nat.le_trans h.size k.size, fun i hi hne => (k.block i (Nat.lt_of_lt_of_le hi h.size) hne).trans (h.block i hi hne)⟩
theorem Ws.grown {k : IntKind} {w w' : World} {B : Nat} {A : Option Addr} {l : List Nat} {row : Option Nat} (h : Ws k w B A l) (hg : w.grownBy w' row) (hB : B ≤ w.heap.size) (hr : ∀ g, row = some g → B ≤ g) : Ws k w' B A l :=
 h.keep fun p hp => World.cell?_of_block (hg.block p.block om (fun e => by have := hr _ e.symm; omega))

structure jy (w : World) (A : Option Addr) (cap : Nat) (l : List Nat) (n : Nat) : Prop where
 ws : Ws .u64 w w.heap.size A l
 qp : l.length ≤ cap
 cap2 : cap ≤ 9223372036854775807
 lt : ∀ x ∈ l, x < dh
 norm : Wd.Norm l
 val : Wd.val dh l = n

theorem jy.below {w w' : World} {A : Option Addr} {cap : Nat} {l : List Nat} {n : Nat} (h : jy w A cap l n) (hb : Below w.heap.size w w') : jy w' A cap l n :=
 ⟨(h.ws.below hb).more hb.size, h.qp, h.cap2, h.lt, h.norm, h.val⟩
theorem jy.len {w : World} {A : Option Addr} {cap : Nat} {l : List Nat} {n k : Nat} (h : jy w A cap l n) (hn : n < dh ^ k) : l.length ≤ k :=
 Wd.Xh oh l h.norm k (by rw [h.val]; exact hn)
theorem jy.Rc (w : World) (cap : Nat) (hc : cap ≤ 9223372036854775807) : jy w none cap [] 0 := ⟨Ws.Rc, by simp, hc, by simp, .inl rfl, rfl⟩
theorem jy.Pq {w : World} {A : Option Addr} {cap : Nat} {l : List Nat} {n : Nat} (h : jy w A cap l n) : n < dh ^ l.length := by
 rw [← h.val]; exact Wd.za l h.lt

theorem Hd {A : Option Addr} {cap k n : Nat} (h : k = n) : Ending.returned (.slice A k cap) = .returned (.slice A n cap) := by rw [h]
theorem wm {k : IntKind} {a b : Int} (h : a = b) : Ending.returned (.int k a) = .returned (.int k b) := by rw [h]

def Es (w : World) (n : Nat) (e : Ending) (w' : World) : Prop := ∃ A cap l, e = .returned (.slice A l.length cap) ∧ jy w' A cap l n ∧ Below w.heap.size w w'

theorem jy.Bq {w : World} {b cap : Nat} {T : TypeId} {zs : List Nat} {k : Nat} (hz : ZB .u64 w b T zs) (hlt : ∀ x ∈ zs, x < dh) (ht : Wd.Ga zs (zs.take k)) (hk : k ≤ zs.length) (hc : zs.length ≤ cap) (hc2 : cap ≤ 9223372036854775807) :
  jy w (some ⟨b, 0, none⟩) cap (zs.take k) (Wd.val dh zs) :=
 ⟨(hz.Dw _ hz.lt).Qo k, by simp; omega, hc2, fun x hx => hlt x (List.mem_of_mem_take hx), ht.norm, ht.val _⟩

theorem bac (n i : Nat) : Wd.g (List.replicate n 0) i = 0 := by
 simp only [Wd.g, List.getD, List.getElem?_replicate]
 split <;> rfl
theorem Lf (n i : Nat) : (List.replicate n 0).getD i 0 = 0 := bac n i
theorem Jd {B : Nat} (hB : 0 < B) (n : Nat) : ∀ x ∈ List.replicate n 0, x < B := fun x hx => by rw [List.eq_of_mem_replicate hx]; exact hB

theorem Nw (k : IntKind) (n : Nat) : madeCells (Value.int k 0).cells (n * 1) = vg k (List.replicate n 0) := by
 apply Array.ext'
 simp only [vg, Nat.mul_one]
 apply List.ext_getElem
 ·
  simp [madeCells]
 ·
  intro i h1 h2
  simp [madeCells, Value.cells]
  exact Nat.mod_one i ▸ rfl

def slen : Value → Nat
 | .slice _ n _ => n
 | _ => 0

theorem Cx (A : Option Addr) (cap : Nat) (l : List Nat) (B : Nat) (w : World) (hr : Ws .u64 w B A l) (hcap : l.length ≤ cap) (hm : cap ≤ 9223372036854775807) :
  Calls Tryz.prog 217 #[.slice A l.length cap] w fun e w' => (∃ k, e = .returned (.slice A k cap) ∧ Wd.Ga l (l.take k) ∧ k ≤ l.length) ∧ w' = w := by
 go_enter Tryz.func217, Tryz.ntmps217
 go_wp2
 go_loop [0] (fun v => ∃ k : Nat, k ≤ l.length ∧ v = .slice A k cap ∧ ∀ i, k ≤ i → i < l.length → l.getD i 0 = 0) (fun v => slen v)
 case atStart => exact ⟨l.length, Nat.le_refl _, rfl, fun i h1 h2 => by omega⟩
 case round =>
  obtain ⟨k, hk, rfl, hz⟩ := hrel
  have HZ := Lib.hid hz
  clear hz
  by_cases h0 : k = 0
  ·
   subst h0
   go_wp2
   go_ret
   exact ⟨⟨0, rfl, ⟨0, Nat.zero_le _, rfl, HZ.out, .inl rfl⟩, Nat.zero_le _⟩, rfl⟩
  ·
   obtain ⟨b, off, rfl, hb, hc⟩ := hr om
   have hck := hc (k - 1) om
   clear hc
   go_wp2
   ·
    have ht : (((Wd.g l (k - 1) : Nat) : Int) == 0) = true := by assumption
    go_round
    case rel =>
     refine ⟨k - 1, by omega, rfl, fun i h1 h2 => ?_⟩
     by_cases hi : i = k - 1
     ·
      subst hi; have := beq_iff_eq.1 ht; rw [Wd.qa] at this; omega
     ·
      exact HZ.out i om h2
    case measure => simp [slen]; omega
   ·
    have ht : (((Wd.g l (k - 1) : Nat) : Int) == 0) = false := by assumption
    go_ret
    refine ⟨⟨k, rfl, ⟨k, hk, rfl, HZ.out, .inr ?_⟩, hk⟩, rfl⟩
    have := beq_eq_false_iff_ne.1 ht; rw [Wd.qa] at this; omega

theorem Ns (b : Bool) (w : World) : Calls Tryz.prog 199 #[.bool b] w fun e w' => e = .returned (.int .i64 (if b = true then -1 else 1)) ∧ w' = w := by
 cases b
 all_goals
  go_enter Tryz.func199, Tryz.ntmps199
  go_wp2
  go_ret
  exact ⟨rfl, rfl⟩

theorem Jj (A : Option Addr) (cap : Nat) (l : List Nat) (B : Nat) (i : Nat) (w : World) (hr : Ws .u64 w B A l) (hcap : l.length ≤ cap) (hm : cap ≤ 9223372036854775807) (hi : i ≤ 9223372036854775807) :
  Calls Tryz.prog 214 #[.slice A l.length cap, .int .i64 i] w fun e w' => e = .returned (.int .u64 ((Wd.g l i : Nat) : Int)) ∧ w' = w := by
 by_cases h : i < l.length
 ·
  obtain ⟨b, off, rfl, hb, hc⟩ := hr om
  have hci := hc i h
  clear hc
  go_enter Tryz.func214, Tryz.ntmps214
  go_wp2
  go_ret
  exact ⟨rfl, rfl⟩
 ·
  have e : Wd.g l i = 0 := by simp [Wd.g, List.getD, List.getElem?_eq_none (by omega : l.length ≤ i)]
  rw [e]
  clear e
  go_enter Tryz.func214, Tryz.ntmps214
  go_wp2
  go_ret
  exact ⟨rfl, rfl⟩

theorem bfj : (Tryz.prog.info? 157).map (fun i => (i.zero, i.size, i.bytes)) = some (some (.int .u64 0), 1, 8) := by kernel_rfl
theorem Kk (n : Nat) (h : n ≤ 35184372088832) (w : World) : (Instr.makeSlice 75 (.int .i64 (n : Int)) (.int .i64 (n : Int))).run Tryz.prog w =
  .ok (.slice (some ⟨w.heap.size, 0, none⟩) n n) (w.alloc (.cells (vg .u64 (List.replicate n 0)) 157)) := by
 obtain ⟨i0, hi, hz0, hz1, hz2⟩ := info_parts bfj
 have hr := run_make (P := Tryz.prog) w 75 157 i0 (.int .u64 0) Tryz.underlying75 hi hz0 .i64 .i64 n n om (Int.le_refl _) (by rw [hz2]; omega) om
 simp only [Int.toNat_natCast] at hr
 rw [hr, hz1, Nw]

theorem aql {P : Program} {f : FuncId} {args : Array Value} {w : World} {a n : Nat} {v : Value}
  (h : Calls P f args (w.drewN (a + n)) fun e w' => e = .returned v ∧ ∃ m, w' = (w.drewN (a + n)).drewN m) :
  Calls P f args (w.drewN (a + n)) fun e w'' => e = .returned v ∧ ∃ m, w'' = w.drewN (a + m) :=
 h.mono fun _ _ ⟨he, m, hm⟩ => ⟨he, n + m, by rw [hm, World.drewN_drewN, Nat.add_assoc]⟩
theorem azj (x y c : Nat) (hc : c ≤ 1) (w : World) : (callFunc 216 #[.int .u64 (x : Int), .int .u64 (y : Int), .int .u64 (c : Int)]).run Tryz.prog w =
  .ok (.value (.tuple #[.int .u64 (((x + y + c) % dh : Nat) : Int), .int .u64 (((x + y + c) / dh : Nat) : Int)])) w := by
 rw [run_callFunc_extern Tryz.func216 kr kr kr (e := add64Entry) kr, run_add64 x y c om om om om]
 simp only [Result.andThen]
 rw [gm]
 congr 5 <;> omega

theorem axt (x y b : Nat) (hb : b ≤ 1) (w : World) : (callFunc 231 #[.int .u64 (x : Int), .int .u64 (y : Int), .int .u64 (b : Int)]).run Tryz.prog w =
  .ok (.value (.tuple #[.int .u64 (((x + dh - y - b) % dh : Nat) : Int), .int .u64 ((if x < y + b then 1 else 0 : Nat) : Int)])) w := by
 rw [run_callFunc_extern Tryz.func231 kr kr kr (e := sub64Entry) kr, run_sub64 x y b hb]
 rfl

structure aoj (B : Nat) (zl yl zr : List Nat) (c : Nat) : Prop where
 len : zr.length = zl.length
 lt : ∀ x ∈ zr, x < B
 eq : Wd.val B zr + B ^ zl.length * c = Wd.val B zl + Wd.val B yl
 c1 : c ≤ 1

theorem Ot (b off cap T : Nat) (us zl yl : List Nat) (Ay : Option Addr) (anx : Nat) (B : Nat) (w : World)
  (hz : ZB .u64 w b T us) (hoff : off + zl.length ≤ us.length) (hzl : zl = (us.drop off).take zl.length) (hcz : zl.length ≤ cap) (aha : cap ≤ 9223372036854775807)
  (hy : Ws .u64 w B Ay yl) (hB : B ≤ b) (hcy : yl.length ≤ anx) (boc : anx ≤ 9223372036854775807) (hyz : yl.length ≤ zl.length)
  (hlz : ∀ x ∈ zl, x < dh) (hly : ∀ x ∈ yl, x < dh) :
  Calls Tryz.prog 230 #[.slice (some ⟨b, off, none⟩) zl.length cap, .slice Ay yl.length anx] w fun e w' =>
   ∃ zr c, e = .returned (.int .u64 ((c : Nat) : Int)) ∧ aoj dh zl yl zr c ∧ ZB .u64 w' b T (win us off zr) ∧ w.grownBy w' (some b) := by
 have HZ := Lib.hid hzl
 clear hzl
 go_enter Tryz.func230, Tryz.ntmps230
 go_wp2
 go_loopw [5, 9] (fun cv iv wr => ∃ (i c : Nat) (zc : List Nat), i ≤ zl.length ∧ cv = .int .u64 ((c : Nat) : Int) ∧ iv = .int .i64 ((i : Nat) : Int) ∧ Wd.Aj dh zl yl zc i c ∧ ZB .u64 wr b T (win us off zc) ∧ w.grownBy wr (some b)) (fun _ iv _ => zl.length - (intOf iv).toNat)
 case atStart => exact ⟨0, 0, zl, Nat.zero_le _, rfl, rfl, Wd.Aj.start _ _ hlz, by rw [HZ.out, Jf _ _ _ hoff]; exact hz, qb _ _⟩
 case round =>
  obtain ⟨i, c, zc, hi, rfl, rfl, hinv, ko, hg⟩ := hrel
  have hlen := hinv.len
  have hc1 := hinv.c1
  have HI := Lib.hid hinv
  clear hinv
  by_cases hlt : i < zl.length
  ·
   by_cases hst : yl.length ≤ i ∧ c = 0
   ·
    obtain ⟨hst, rfl⟩ := hst
    have b1 : decide ((yl.length : Int) ≤ (i : Int)) = true := by simp; omega
    go_wp2
    go_ret
    exact ⟨zc, 0, rfl, ⟨hlen, HI.out.lt, by rw [HI.out.stop hst]; simp, by omega⟩, ko, hg⟩
   ·
    have hwl := win_length us off zc om
    have hzc := ko.cell (off + i) om
    rw [Jt us off zc om i om] at hzc
    have Mj := ko.frozen (off + i)
    have hyr : Ws .u64 wr B Ay yl := hy.grown hg (Nat.le_trans hB (Nat.le_of_lt hz.lt)) (fun g e => by injection e with e; omega)
    obtain ⟨zi, hzi⟩ : ∃ zi, zi = Wd.g zc i := ⟨_, rfl⟩
    obtain ⟨yi, hyi⟩ : ∃ yi, yi = Wd.g yl i := ⟨_, rfl⟩
    obtain ⟨s, hs⟩ : ∃ s, s = (zi + yi + c) % dh := ⟨_, rfl⟩
    obtain ⟨q, hq⟩ : ∃ q, q = (zi + yi + c) / dh := ⟨_, rfl⟩
    have hadd := azj zi yi c hc1
    rw [← hzi] at hzc
    rw [← hs, ← hq] at hadd
    have HS := Lib.hid hs
    have HQ := Lib.hid hq
    have HZI := Lib.hid hzi
    have HYI := Lib.hid hyi
    clear hs hq hzi hyi
    have hfin : ∀ W, W = wr.drew.setCell ⟨b, off + i, none⟩ (.int .u64 (s : Int)) → Wd.Aj dh zl yl (zc.set i s) (i + 1) q ∧ ZB .u64 W b T (win us off (zc.set i s)) ∧ w.grownBy W (some b) := by
     rintro W rfl
     refine ⟨?_, ?_, kz (anr hg) _ _⟩
     ·
      have := HI.out.step oh hly hlt
      rw [HS.out, HQ.out, HZI.out, HYI.out]
      exact this
     ·
      rw [← Ev us off zc om i s om]
      exact (ko.drew).Az _ _
    have HF := hide hfin
    clear hfin ko hg
    have hcase : (i < yl.length) ∨ (((c : Int) == 0) = false ∧ yl.length ≤ i) := by
     rcases Nat.lt_or_ge i yl.length with h | h
     ·
      exact .inl h
     ·
      exact .inr ⟨by simp; omega, h⟩
    rcases hcase with h | ⟨b2, h⟩
    all_goals
     go_wp2_with fail
     go_region_with (go_at_call 214; refine (Jj Ay anx yl B i _ (by exact hyr) hcy boc (by omega)).mono ?_; rintro e w' ⟨rfl, rfl⟩; rw [← HYI.out])
     all_goals
      go_wp2
      go_roundw
      case rel =>
       obtain ⟨r1, r2, r3⟩ := (aa HF) _ rfl
       exact ⟨i + 1, q, zc.set i s, by omega, rfl, by go_num, r1, r2, r3⟩
      case measure => simp [intOf]; omega
  ·
   have e : i = zl.length := by omega
   subst e
   go_wp2
   go_ret
   exact ⟨zc, c, rfl, ⟨hlen, HI.out.lt, HI.out.done hyz, hc1⟩, ko, hg⟩

theorem Tm (x y : Nat) (hx : x < dh) (hy : y < dh) (w : World) :
  Calls Tryz.prog 189 #[.int .u64 ((x : Nat) : Int), .int .u64 ((y : Nat) : Int)] w fun e w' => e = .returned (.tuple #[.int .u64 ((x * y / dh : Nat) : Int), .int .u64 ((x * y % dh : Nat) : Int)]) ∧ w' = w := by
 rw [gm] at *
 obtain ⟨bd, bt, bw, hhi⟩ := Lib.mul64_hi x y hx hy
 have ba := Lib.half_mul_le (a := x / 4294967296) (b := y / 4294967296) om om
 have bb := Lib.half_mul_le (a := x / 4294967296) (b := y % 4294967296) om om
 have bc := Lib.half_mul_le (a := x % 4294967296) (b := y / 4294967296) om om
 have ba' : x / 4294967296 * (y / 4294967296) < 18446744073709551616 := by omega
 have bb' : x / 4294967296 * (y % 4294967296) < 18446744073709551616 := by omega
 have bc' : x % 4294967296 * (y / 4294967296) < 18446744073709551616 := by omega
 have bh1 : x / 4294967296 * (y / 4294967296) + (x / 4294967296 * (y % 4294967296) + x % 4294967296 * (y % 4294967296) / 4294967296) / 4294967296 < 18446744073709551616 := by omega
 have bh : x / 4294967296 * (y / 4294967296) + (x / 4294967296 * (y % 4294967296) + x % 4294967296 * (y % 4294967296) / 4294967296) / 4294967296 + ((x / 4294967296 * (y % 4294967296) + x % 4294967296 * (y % 4294967296) / 4294967296) % 4294967296 + x % 4294967296 * (y / 4294967296)) / 4294967296 < 18446744073709551616 := by omega
 go_enter Tryz.func189, Tryz.ntmps189
 go_wp2
 simp only [Mul64.maskN x hx, Mul64.maskN y hy, Mul64.divN, Mul64.mulN, Mul64.addN, Mul64.wrapN _ bd, Mul64.wrapN _ bb', Mul64.wrapN _ bt, Mul64.maskN _ bt, Mul64.wrapN _ bc', Mul64.wrapN _ bw, Mul64.wrapN _ ba', Mul64.wrapN _ bh1, Mul64.wrapN _ bh, Mul64.wrapM (x * y)]
 rw [hhi]
 go_ret2
 exact ⟨rfl, rfl⟩


theorem abu (x y : Nat) (w : World) : (callFunc 216 #[.int .u64 (x : Int), .int .u64 (y : Int), .int .u64 0]).run Tryz.prog w =
  .ok (.value (.tuple #[.int .u64 (((x + y) % dh : Nat) : Int), .int .u64 (((x + y) / dh : Nat) : Int)])) w := azj x y 0 om w

theorem amu {p c z hi lo s1 q1 h1 s2 q2 r : Nat} (hp : p + c + z < dh * dh) (hhi : hi = p / dh) (hlo : lo = p % dh) (hs1 : s1 = (lo + c) % dh) (hq1 : q1 = (lo + c) / dh) (Tz : h1 = hi + q1)
  (hs2 : s2 = (z + s1) % dh) (hq2 : q2 = (z + s1) / dh) (hr : r = h1 + q2) : s2 = (p + c + z) % dh ∧ r = (p + c + z) / dh ∧ hi + q1 < dh ∧ h1 + q2 < dh := by
 rw [gm] at *
 omega

theorem Qk {a b c : Nat} (h : c = a + b) (hc : c < dh) : IntKind.u64.wrap ((a : Int) + (b : Int)) = ((c : Nat) : Int) := by
 rw [IntKind.wrap_u64, h]; rw [gm] at hc; omega

theorem abh (Ax Ay : Option Addr) (cx cy : Nat) (xl yl : List Nat) (n m : Nat) (w : World) (hx : jy w Ax cx xl n) (hy : jy w Ay cy yl m) (hk : xl.length + yl.length ≤ 35184372088832) :
  Calls Tryz.prog 192 #[.slice Ax xl.length cx, .slice Ay yl.length cy] w fun e w' => Es w (n * m) e w' := by
 have hmk := Kk (xl.length + yl.length) hk
 simp only [Int.natCast_add] at hmk
 have hx1 := hx.qp; have hx2 := hx.cap2; have hy1 := hy.qp; have hy2 := hy.cap2
 go_enter Tryz.func192, Tryz.ntmps192
 go_wp2
 go_loopw [22] (fun iv wr => ∃ (i : Nat) (zr : List Nat), i ≤ xl.length ∧ iv = .int .i64 ((i : Nat) : Int) ∧ Wd.Ep dh xl yl zr i ∧ ZB .u64 wr w.heap.size 157 zr ∧ Below w.heap.size w wr) (fun iv _ => xl.length - (intOf iv).toNat)
 case atStart => exact ⟨0, List.replicate (xl.length + yl.length) 0, Nat.zero_le _, rfl, Wd.Ep.start _ _ _ (by rw [gm]; omega) (by simp) (Lf _), heap_alloc_new w _, (Below.refl _ _).alloc (Nat.le_refl _) _⟩
 case round =>
  obtain ⟨i, zr, hi, rfl, hinv, ko, hg⟩ := hrel
  obtain ⟨wo, rfl⟩ : ∃ wo : World, wo = wr := ⟨_, rfl⟩
  have hlen := hinv.len
  have HI := Lib.hid hinv
  clear hinv
  by_cases hlt : i < xl.length
  ·
   obtain ⟨bx, ox, rfl, hbx, hcx⟩ := hx.ws om
   have Dg := (hg.cell (p := ⟨bx, ox + i, none⟩) hbx).trans (hcx i hlt)
   clear hcx
   obtain ⟨xi, hxi⟩ : ∃ xi, xi = Wd.g xl i := ⟨_, rfl⟩
   rw [← hxi] at Dg
   have zx : xi < dh := by rw [hxi]; exact Wd.getD_lt (by rw [gm]; omega) _ hx.lt i
   have HXI := Lib.hid hxi
   have HXB := hide zx
   clear hxi zx
   go_wp2_with fail
   go_loopw [8, 29] (fun cv jv wr => ∃ (j c : Nat) (zc : List Nat), j ≤ yl.length ∧ cv = .int .u64 ((c : Nat) : Int) ∧ jv = .int .i64 ((j : Nat) : Int) ∧ Wd.Dj dh zr yl zc i (Wd.g xl i) j c ∧ ZB .u64 wr w.heap.size 157 zc ∧ Below w.heap.size w wr) (fun _ jv _ => yl.length - (intOf jv).toNat)
   case atStart => exact ⟨0, 0, zr, Nat.zero_le _, rfl, rfl, Wd.Dj.start _ _ _ _ (by rw [gm]; omega) HI.out.lt, ko, hg⟩
   case round =>
    obtain ⟨j, c, zc, hj, rfl, rfl, Ro, hzc, hgc⟩ := hrel
    have Rp := Ro.len
    have HM := Lib.hid Ro
    clear Ro
    by_cases hjl : j < yl.length
    ·
     obtain ⟨by', oy, rfl, hby, hcy⟩ := hy.ws om
     have Sc := (hgc.cell (p := ⟨by', oy + j, none⟩) hby).trans (hcy j hjl)
     clear hcy
     have Tt := hzc.cell (i + j) om
     have Mj := hzc.frozen (i + j)
     obtain ⟨yj, hyj⟩ : ∃ yj, yj = Wd.g yl j := ⟨_, rfl⟩
     obtain ⟨z, hz⟩ : ∃ z, z = Wd.g zc (i + j) := ⟨_, rfl⟩
     rw [← hyj] at Sc
     rw [← hz] at Tt
     have Ig : yj < dh := by rw [hyj]; exact Wd.getD_lt (by rw [gm]; omega) _ hy.lt j
     have Fb : z < dh := by rw [hz]; exact Wd.getD_lt (by rw [gm]; omega) _ HM.out.lt _
     obtain ⟨hi', hhi⟩ : ∃ t, t = xi * yj / dh := ⟨_, rfl⟩
     obtain ⟨lo, hlo⟩ : ∃ t, t = xi * yj % dh := ⟨_, rfl⟩
     obtain ⟨s1, hs1⟩ : ∃ t, t = (lo + c) % dh := ⟨_, rfl⟩
     obtain ⟨q1, hq1⟩ : ∃ t, t = (lo + c) / dh := ⟨_, rfl⟩
     obtain ⟨h1, Tz⟩ : ∃ t, t = hi' + q1 := ⟨_, rfl⟩
     obtain ⟨s2, hs2⟩ : ∃ t, t = (z + s1) % dh := ⟨_, rfl⟩
     obtain ⟨q2, hq2⟩ : ∃ t, t = (z + s1) / dh := ⟨_, rfl⟩
     obtain ⟨r, hr⟩ : ∃ t, t = h1 + q2 := ⟨_, rfl⟩
     obtain ⟨e1, e2, e3, e4⟩ := amu (Wd.Kj (aa HXB) Ig HM.out.c1 Fb) hhi hlo hs1 hq1 Tz hs2 hq2 hr
     have ha1 := abu lo c
     rw [← hs1, ← hq1] at ha1
     have ha2 := abu z s1
     rw [← hs2, ← hq2] at ha2
     have hw1 := Qk Tz (by rw [Tz]; exact e3)
     have hw2 := Qk hr (by rw [hr]; exact e4)
     have hmul := Tm xi yj (aa HXB) Ig
     rw [← hhi, ← hlo] at hmul
     have axm := hide hmul
     have hfin : ∀ W, W = wr.setCell ⟨w.heap.size, i + j, none⟩ (.int .u64 (s2 : Int)) → Wd.Dj dh zr yl (zc.set (i + j) s2) i (Wd.g xl i) (j + 1) r ∧ ZB .u64 W w.heap.size 157 (zc.set (i + j) s2) ∧ Below w.heap.size w W := by
      rintro W rfl
      refine ⟨?_, hzc.Az _ _, hgc.setCell (by simp) _⟩
      have := HM.out.step oh (by rw [← HXI.out]; exact aa HXB) hy.lt om
      rw [e1, e2, HXI.out, hyj, hz]
      exact this
     have HF := hide hfin
     clear hfin hmul hhi hlo hs1 hq1 Tz hs2 hq2 hr e1 e2 e3 e4 hyj hz Ig Fb hzc hgc ko hg hlen Rp
     go_wp2_with fail
     refine ((aa axm) _).mono ?_
     rintro e w' ⟨rfl, rfl⟩
     go_wp2_with fail
     go_roundw
     case rel =>
      obtain ⟨r1, r2, r3⟩ := (aa HF) _ rfl
      exact ⟨j + 1, r, zc.set (i + j) s2, by omega, rfl, by go_num, r1, r2, r3⟩
     case measure => simp [intOf]; omega
    ·
     have e : j = yl.length := by omega
     subst e
     have Tt := hzc.cell (i + yl.length) om
     have Mj := hzc.frozen (i + yl.length)
     have hrow := HI.out.step hlt HM.out
     have HR := Lib.hid hrow
     clear hrow
     have hfin : ∀ W, W = wr.setCell ⟨w.heap.size, i + yl.length, none⟩ (.int .u64 (c : Int)) → ZB .u64 W w.heap.size 157 (zc.set (i + yl.length) c) ∧ Below w.heap.size w W := by
      rintro W rfl
      exact ⟨hzc.Az _ _, hgc.setCell (by simp) _⟩
     have HF := hide hfin
     clear hfin hzc hgc ko hg hlen Rp
     go_wp2_with fail
     go_roundw
     case rel =>
      obtain ⟨r2, r3⟩ := (aa HF) _ rfl
      exact ⟨i + 1, zc.set (i + yl.length) c, by omega, by go_num, HR.out, r2, r3⟩
     case measure => simp [intOf]; omega
  ·
   have e : i = xl.length := by omega
   subst e
   have hlt2 := HI.out.lt
   have hv := HI.out.done
   rw [hx.val, hy.val] at hv
   have HV := Lib.hid hv
   have rq := hide hlt2
   clear hv hlt2
   go_wp2_with fail
   have htr := Cx (some ⟨w.heap.size, 0, none⟩) zr.length zr (wo.heap.size) wo (ko.Dw _ ko.lt) (Nat.le_refl _) om
   rw [hlen] at htr
   refine htr.mono ?_
   rintro e w' ⟨⟨k, rfl, ht, hk2⟩, rfl⟩
   go_wp2_with fail
   go_ret
   have hk3 : k = (zr.take k).length := by simp; omega
   refine ⟨some ⟨w.heap.size, 0, none⟩, xl.length + yl.length, zr.take k, Hd hk3, ?_, hg⟩
   have := jy.Bq (cap := xl.length + yl.length) ko (aa rq) ht om om om
   rwa [HV.out] at this
end Go.Proofs.YtfgeaakhlcaibaaGreatDoor
