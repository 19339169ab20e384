/- Texts beneath a law of layer 1. -/
import Derived.WalkKit
import Derived.WalkSpells
import Derived.Laws.OwnMore
import Derived.Deep.AppendLies
import Derived.Deep.Draws
import Derived.Laws.Rows
import Derived.Lib.Hide
import Derived.Test.YtpjgoogeokbaaaaGreatDoorProg
import Derived.BigQuiet
import Derived.Deep.QuietTactic
import Derived.Lib.Strings
import Derived.StillTailTactics
import Derived.Deep.RegionWith
import Derived.Laws.Externs
import Derived.Shelf.Spec.BitsCarry
import Derived.Shelf.Bits.Mul64
set_option maxRecDepth 100000
namespace Go.Proofs.YtpjgoogeokbaaaaGreatDoor
namespace Wd

def g (l : List Nat) (i : Nat) : Nat := l.getD i 0
theorem ry (l : List Nat) (i : Nat) : g l i = l.getD i 0 := rfl

def val (B : Nat) : List Nat → Nat
 | [] => 0
 | x :: l => x + B * val B l

theorem val_append (B : Nat) (l m : List Nat) : val B (l ++ m) = val B l + B ^ l.length * val B m := by
 induction l with
 | nil => simp [val]
 | cons x l ih => simp only [List.cons_append, val, ih, List.length_cons, Nat.pow_succ, Nat.mul_add]; simp [Nat.mul_assoc, Nat.mul_comm, Nat.add_assoc]

theorem anx (B x : Nat) : val B [x] = x := by simp [val]
theorem Ci (B : Nat) (l : List Nat) (x : Nat) : val B (l ++ [x]) = val B l + B ^ l.length * x := by rw [val_append, anx]

theorem Uc (B n : Nat) : val B (List.replicate n 0) = 0 := by
 induction n with
 | zero => rfl
 | succ n ih => simp [List.replicate_succ, val, ih]

theorem Cy {B : Nat} (l : List Nat) (h : ∀ x ∈ l, x < B) : val B l < B ^ l.length := by
 induction l with
 | nil => simp [val]
 | cons x l ih =>
  have hx := h x (by simp)
  have hl := ih (fun y hy => h y (by simp [hy]))
  have h1 : B * (val B l + 1) ≤ B * B ^ l.length := Nat.mul_le_mul_left _ hl
  simp only [val, List.length_cons, Nat.pow_succ]
  rw [Nat.mul_comm (B ^ l.length) B]
  rw [Nat.mul_add, Nat.mul_one] at h1
  omega

theorem take_succ (l : List Nat) (k : Nat) (h : k < l.length) : l.take (k + 1) = l.take k ++ [l.getD k 0] := by
 rw [List.take_succ_eq_append_getElem h]; simp [List.getD, h]

theorem rf (B : Nat) (l : List Nat) (k : Nat) (h : k < l.length) : val B (l.take (k + 1)) = val B (l.take k) + B ^ k * l.getD k 0 := by
 rw [take_succ l k h, Ci, List.length_take, Nat.min_eq_left (by omega)]

theorem jw (B : Nat) (l : List Nat) (k : Nat) (h : l.length ≤ k) : val B (l.take k) = val B l := by rw [List.take_of_length_le h]

theorem ou (B : Nat) (l : List Nat) (k : Nat) : val B (l.take (k + 1)) = val B (l.take k) + B ^ k * l.getD k 0 := by
 by_cases h : k < l.length
 ·
  exact rf B l k h
 ·
  rw [jw _ _ _ (by omega), jw _ _ _ (by omega)]
  simp [List.getD, List.getElem?_eq_none (by omega : l.length ≤ k)]

theorem getD_lt {B : Nat} (hB : 0 < B) (l : List Nat) (h : ∀ x ∈ l, x < B) (i : Nat) : l.getD i 0 < B := by
 by_cases hi : i < l.length
 ·
  simp only [List.getD, List.getElem?_eq_getElem hi, Option.getD_some]; exact h _ (List.getElem_mem hi)
 ·
  simp [List.getD, List.getElem?_eq_none (by omega : l.length ≤ i), hB]

def Norm (l : List Nat) : Prop := l = [] ∨ l.getD (l.length - 1) 0 ≠ 0

theorem Pm (B : Nat) (l : List Nat) (k : Nat) : val B l = val B (l.take k) + B ^ (min k l.length) * val B (l.drop k) := by
 conv => lhs; rw [← List.take_append_drop k l]
 rw [val_append, List.length_take]

theorem Vn {B : Nat} (l : List Nat) (hn : Norm l) (h0 : l ≠ []) : B ^ (l.length - 1) ≤ val B l := by
 rcases hn with hn | hn
 ·
  exact absurd hn h0
 ·
  have hl : 0 < l.length := List.length_pos_iff.2 h0
  have h1 : l.length = (l.length - 1) + 1 := by omega
  have h2 := rf B l (l.length - 1) (by omega)
  rw [← h1, jw _ _ _ (Nat.le_refl _)] at h2
  rw [h2]
  have h3 : B ^ (l.length - 1) * 1 ≤ B ^ (l.length - 1) * l.getD (l.length - 1) 0 := Nat.mul_le_mul_left _ (by omega)
  omega

theorem aiw {B : Nat} (hB : 0 < B) (l : List Nat) (hn : Norm l) (h0 : l ≠ []) : 0 < val B l :=
 Nat.lt_of_lt_of_le (Nat.pow_pos hB) (Vn l hn h0)

theorem Ap {B : Nat} (hB : 1 < B) (l m : List Nat) (hl : ∀ x ∈ l, x < B) (hm : Norm m) (h : l.length < m.length) : val B l < val B m := by
 have h1 := Cy l hl
 have h2 := Vn (B := B) m hm (by rintro rfl; simp at h)
 have h3 : B ^ l.length ≤ B ^ (m.length - 1) := Nat.pow_le_pow_right (by omega) (by omega)
 omega

theorem Ii {B : Nat} (l m : List Nat) (hl : ∀ x ∈ l, x < B) (hlen : l.length = m.length) (i : Nat) (hi : i < l.length)
  (hsame : ∀ j, i < j → j < l.length → l.getD j 0 = m.getD j 0) (h : l.getD i 0 < m.getD i 0) : val B l < val B m := by
 have key : ∀ n, i + 1 + n ≤ l.length → val B (l.take (i + 1 + n)) < val B (m.take (i + 1 + n)) := by
  intro n
  induction n with
  | zero =>
   intro _
   rw [Nat.add_zero, rf B l i (by omega), rf B m i (by omega)]
   have h1 := Cy (B := B) (l.take i) (fun x hx => hl x (List.mem_of_mem_take hx))
   rw [List.length_take, Nat.min_eq_left (by omega)] at h1
   have h2 : B ^ i * (l.getD i 0 + 1) ≤ B ^ i * m.getD i 0 := Nat.mul_le_mul_left _ h
   rw [Nat.mul_add, Nat.mul_one] at h2
   omega
  | succ n ih =>
   intro hn
   have := ih (by omega)
   rw [show i + 1 + (n + 1) = (i + 1 + n) + 1 from rfl, rf B l _ (by omega), rf B m _ (by omega), hsame (i + 1 + n) (by omega) (by omega)]
   omega
 have := key (l.length - (i + 1)) (by omega)
 rw [show i + 1 + (l.length - (i + 1)) = l.length from by omega, jw _ _ _ (Nat.le_refl _), jw _ _ _ (by omega)] at this
 exact this

theorem Mw (l m : List Nat) (hlen : l.length = m.length) (h : ∀ j, j < l.length → l.getD j 0 = m.getD j 0) : l = m := by
 apply List.ext_getElem hlen
 intro j h1 h2
 have := h j h1
 simpa [List.getD, List.getElem?_eq_getElem h1, List.getElem?_eq_getElem h2] using this

def Ic (l m : List Nat) : Prop := ∃ k, k ≤ l.length ∧ m = l.take k ∧ (∀ i, k ≤ i → i < l.length → l.getD i 0 = 0) ∧ (k = 0 ∨ l.getD (k - 1) 0 ≠ 0)

theorem Na (B : Nat) (l : List Nat) (k : Nat) (hk : k ≤ l.length) (h : ∀ i, k ≤ i → i < l.length → l.getD i 0 = 0) : val B (l.take k) = val B l := by
 have key : ∀ n, k + n ≤ l.length → val B (l.take (k + n)) = val B (l.take k) := by
  intro n
  induction n with
  | zero => intro _; rfl
  | succ n ih => intro hn; rw [show k + (n + 1) = (k + n) + 1 from rfl, rf B l _ (by omega), h (k + n) (by omega) (by omega), ih (by omega)]; simp
 have := key (l.length - k) (by omega)
 rw [show k + (l.length - k) = l.length from by omega, jw _ _ _ (Nat.le_refl _)] at this
 exact this.symm

theorem getD_take (l : List Nat) (k i : Nat) (h : i < k) : (l.take k).getD i 0 = l.getD i 0 := by
 simp [List.getD, h]

theorem Ic.val {l m : List Nat} (h : Ic l m) (B : Nat) : Wd.val B m = Wd.val B l := by
 obtain ⟨k, hk, rfl, hz, _⟩ := h
 exact Na B l k hk hz

theorem Ic.norm {l m : List Nat} (h : Ic l m) : Norm m := by
 obtain ⟨k, hk, rfl, _, h0⟩ := h
 rcases h0 with h0 | h0
 ·
  left; simp [h0]
 ·
  by_cases hk0 : k = 0
  ·
   left; simp [hk0]
  ·
   right
   rw [List.length_take, Nat.min_eq_left hk, getD_take _ _ _ (by omega)]
   exact h0

theorem Ic.len {l m : List Nat} (h : Ic l m) : m.length ≤ l.length := by
 obtain ⟨k, hk, rfl, _, _⟩ := h
 simp; omega

theorem Xl {B : Nat} (hB : 1 < B) (l : List Nat) (hn : Norm l) (k : Nat) (h : val B l < B ^ k) : l.length ≤ k := by
 by_cases h0 : l = []
 ·
  simp [h0]
 ·
  have h1 := Vn (B := B) l hn h0
  apply Classical.byContradiction
  intro hk
  have : B ^ k ≤ B ^ (l.length - 1) := Nat.pow_le_pow_right (by omega) (by omega)
  omega

end Wd

namespace Wd

theorem Bh (l : List Nat) (i v : Nat) (h : i < l.length) : (l.set i v).take (i + 1) = l.take i ++ [v] := by
 rw [take_succ _ i (by simpa using h), List.take_set_of_le (Nat.le_refl i)]
 simp [List.getD, h]

theorem Ff (l : List Nat) (i j v : Nat) (h : i ≠ j) : (l.set i v).getD j 0 = l.getD j 0 := by
 simp [List.getD, h]

theorem Mv (l : List Nat) (i v : Nat) (h : i < l.length) : (l.set i v).getD i 0 = v := by
 simp [List.getD, h]

theorem Bv {B : Nat} (l : List Nat) (i v : Nat) (h : ∀ x ∈ l, x < B) (hv : v < B) : ∀ x ∈ l.set i v, x < B := by
 intro x hx
 rcases List.mem_or_eq_of_mem_set hx with h1 | h1
 ·
  exact h x h1
 ·
  omega

theorem abv {B : Nat} (l m : List Nat) (k d : Nat) (hsame : ∀ j, k ≤ j → l.getD j 0 = m.getD j 0) (n : Nat) (h : val B (l.take k) = val B (m.take k) + d) :
  val B (l.take (k + n)) = val B (m.take (k + n)) + d := by
 induction n with
 | zero => exact h
 | succ n ih => rw [← Nat.add_assoc, ou, ou, hsame (k + n) (by omega), ih]; omega

structure Dz (B : Nat) (zl yl zc : List Nat) (i c : Nat) : Prop where
 len : zc.length = zl.length
 same : ∀ j, i ≤ j → zc.getD j 0 = zl.getD j 0
 lt : ∀ x ∈ zc, x < B
 eq : val B (zc.take i) + B ^ i * c = val B (zl.take i) + val B (yl.take i)
 c1 : c ≤ 1

theorem Dz.start {B : Nat} (zl yl : List Nat) (h : ∀ x ∈ zl, x < B) : Dz B zl yl zl 0 0 := ⟨rfl, fun _ _ => rfl, h, by simp [val], by omega⟩

theorem Dz.step {B : Nat} {zl yl zc : List Nat} {i c : Nat} (hB : 1 < B) (hy : ∀ x ∈ yl, x < B) (h : Dz B zl yl zc i c) (hi : i < zl.length) :
  Dz B zl yl (zc.set i ((zc.getD i 0 + yl.getD i 0 + c) % B)) (i + 1) ((zc.getD i 0 + yl.getD i 0 + c) / B) := by
 have hlen := h.len
 have hz := getD_lt (by omega) zc h.lt i
 have hyi := getD_lt (by omega) yl hy i
 have hc := h.c1
 refine ⟨by simp [hlen], fun j hj => ?_, Bv _ _ _ h.lt (Nat.mod_lt _ (by omega)), ?_, ?_⟩
 ·
  rw [Ff _ _ _ _ (by omega), h.same j (by omega)]
 ·
  rw [Bh _ _ _ (by omega), Ci, ou, ou]
  rw [List.length_take, Nat.min_eq_left (by omega)]
  have e := h.eq
  have hs := h.same i (Nat.le_refl _)
  have Dg := Nat.div_add_mod (zc.getD i 0 + yl.getD i 0 + c) B
  generalize (zc.getD i 0 + yl.getD i 0 + c) / B = q at *
  generalize (zc.getD i 0 + yl.getD i 0 + c) % B = r at *
  have e2 : B ^ i * (B * q + r) = B ^ i * (zc.getD i 0 + yl.getD i 0 + c) := by rw [Dg]
  rw [← hs, Nat.pow_succ]
  simp only [Nat.mul_add, Nat.mul_assoc] at e2 ⊢
  omega
 ·
  have : (zc.getD i 0 + yl.getD i 0 + c) / B < 2 := by
   rw [Nat.div_lt_iff_lt_mul (by omega)]; omega
  omega

theorem Dz.done {B : Nat} {zl yl zc : List Nat} {c : Nat} (h : Dz B zl yl zc zl.length c) (hy : yl.length ≤ zl.length) :
  val B zc + B ^ zl.length * c = val B zl + val B yl := by
 have e := h.eq
 have hl := h.len
 rwa [jw _ _ _ (by omega), jw _ _ _ (Nat.le_refl _), jw _ _ _ hy] at e

theorem Dz.stop {B : Nat} {zl yl zc : List Nat} {i : Nat} (h : Dz B zl yl zc i 0) (hy : yl.length ≤ i) : val B zc = val B zl + val B yl := by
 have e := h.eq
 have hl := h.len
 rw [Nat.mul_zero, Nat.add_zero, jw _ yl _ hy] at e
 have := abv zc zl i (val B yl) h.same zl.length e
 rwa [jw _ _ _ (by omega), jw _ _ _ (by omega)] at this

structure Gu (B : Nat) (xl yl zc : List Nat) (i b : Nat) : Prop where
 len : zc.length = xl.length
 lt : ∀ x ∈ zc, x < B
 eq : val B (zc.take i) + val B (yl.take i) = val B (xl.take i) + B ^ i * b
 b1 : b ≤ 1

theorem Gu.start {B : Nat} (xl yl zl : List Nat) (hl : zl.length = xl.length) (h : ∀ x ∈ zl, x < B) : Gu B xl yl zl 0 0 := ⟨hl, h, by simp [val], by omega⟩

theorem Gu.step {B : Nat} {xl yl zc : List Nat} {i b d b' : Nat} (h : Gu B xl yl zc i b) (hi : i < xl.length) (hd : d < B) (hb : b' ≤ 1)
  (e : d + yl.getD i 0 + b = xl.getD i 0 + B * b') : Gu B xl yl (zc.set i d) (i + 1) b' := by
 have hlen := h.len
 refine ⟨by simp [hlen], Bv _ _ _ h.lt hd, ?_, hb⟩
 rw [Bh _ _ _ (by omega), Ci, ou, ou, List.length_take, Nat.min_eq_left (by omega), Nat.pow_succ]
 have h0 := h.eq
 have e2 : B ^ i * (d + yl.getD i 0 + b) = B ^ i * (xl.getD i 0 + B * b') := by rw [e]
 simp only [Nat.mul_add, Nat.mul_assoc] at e2 ⊢
 omega

theorem Gu.done {B : Nat} {xl yl zc : List Nat} {b : Nat} (h : Gu B xl yl zc xl.length b) (hy : yl.length ≤ xl.length) :
  val B zc + val B yl = val B xl + B ^ xl.length * b := by
 have e := h.eq
 have hl := h.len
 rwa [jw _ _ _ (by omega), jw _ yl _ hy, jw _ _ _ (Nat.le_refl _)] at e

theorem Gu.bhg {B : Nat} {xl yl zc : List Nat} {b : Nat} (h : Gu B xl yl zc xl.length b) (hy : yl.length ≤ xl.length) (hle : val B yl ≤ val B xl) :
  val B zc = val B xl - val B yl := by
 have e := h.done hy
 have hz := Cy zc h.lt
 rw [h.len] at hz
 have hb := h.b1
 rcases Nat.eq_or_lt_of_le hb with h1 | h1
 ·
  subst h1; omega
 ·
  have : b = 0 := by omega
  subst this; omega

structure Gv (B : Nat) (zr yl zc : List Nat) (i k j c : Nat) : Prop where
 len : zc.length = zr.length
 same : ∀ t, i + j ≤ t → zc.getD t 0 = zr.getD t 0
 lt : ∀ x ∈ zc, x < B
 eq : val B (zc.take (i + j)) + B ^ (i + j) * c = val B (zr.take (i + j)) + B ^ i * (k * val B (yl.take j))
 c1 : c < B

theorem Gv.start {B : Nat} (zr yl : List Nat) (i k : Nat) (hB : 0 < B) (h : ∀ x ∈ zr, x < B) : Gv B zr yl zr i k 0 0 := ⟨rfl, fun _ _ => rfl, h, by simp [val], hB⟩

theorem Mi {B k y c z : Nat} (hk : k < B) (hy : y < B) (hc : c < B) (hz : z < B) : k * y + c + z < B * B := by
 have h1 : k * y ≤ (B - 1) * (B - 1) := Nat.mul_le_mul (by omega) (by omega)
 have h2 : (B - 1) * (B - 1) + (B - 1) + (B - 1) + 1 = B * B := by
  obtain ⟨b, rfl⟩ : ∃ b, B = b + 1 := ⟨B - 1, by omega⟩
  simp [Nat.mul_add, Nat.add_mul]; omega
 omega

theorem Gv.step {B : Nat} {zr yl zc : List Nat} {i k j c : Nat} (hB : 1 < B) (hk : k < B) (hy : ∀ x ∈ yl, x < B) (h : Gv B zr yl zc i k j c) (hi : i + j < zr.length) :
  Gv B zr yl (zc.set (i + j) ((k * yl.getD j 0 + c + zc.getD (i + j) 0) % B)) i k (j + 1) ((k * yl.getD j 0 + c + zc.getD (i + j) 0) / B) := by
 have hlen := h.len
 have hz := getD_lt (by omega) zc h.lt (i + j)
 have hyj := getD_lt (by omega) yl hy j
 refine ⟨by simp [hlen], fun t ht => ?_, Bv _ _ _ h.lt (Nat.mod_lt _ (by omega)), ?_, ?_⟩
 ·
  rw [Ff _ _ _ _ (by omega), h.same t (by omega)]
 ·
  rw [← Nat.add_assoc, Bh _ _ _ (by omega), Ci, ou, ou, List.length_take, Nat.min_eq_left (by omega)]
  have e := h.eq
  have hs := h.same (i + j) (Nat.le_refl _)
  have Dg := Nat.div_add_mod (k * yl.getD j 0 + c + zc.getD (i + j) 0) B
  generalize (k * yl.getD j 0 + c + zc.getD (i + j) 0) / B = q at *
  generalize (k * yl.getD j 0 + c + zc.getD (i + j) 0) % B = r at *
  have e2 : B ^ (i + j) * (B * q + r) = B ^ (i + j) * (k * yl.getD j 0 + c + zc.getD (i + j) 0) := by rw [Dg]
  rw [← hs, Nat.pow_succ]
  have e3 : B ^ i * (k * (val B (yl.take j) + B ^ j * yl.getD j 0)) = B ^ i * (k * val B (yl.take j)) + B ^ (i + j) * (k * yl.getD j 0) := by
   rw [Nat.pow_add, Nat.mul_add, Nat.mul_add]
   congr 1
   simp only [Nat.mul_left_comm, Nat.mul_assoc]
  rw [e3]
  simp only [Nat.mul_add, Nat.mul_assoc] at e2 ⊢
  omega
 ·
  rw [Nat.div_lt_iff_lt_mul (by omega)]
  exact Mi hk hyj h.c1 hz

structure Ia (B : Nat) (xl yl zc : List Nat) (i : Nat) : Prop where
 len : zc.length = xl.length + yl.length
 zero : ∀ t, i + yl.length ≤ t → zc.getD t 0 = 0
 lt : ∀ x ∈ zc, x < B
 eq : val B (zc.take (i + yl.length)) = val B (xl.take i) * val B yl

theorem Qp (B : Nat) (l : List Nat) (k : Nat) (h : ∀ t, t < k → l.getD t 0 = 0) : val B (l.take k) = 0 := by
 induction k with
 | zero => rfl
 | succ k ih => rw [ou, h k (by omega), ih (fun t ht => h t (by omega))]; simp

theorem Ia.start {B : Nat} (xl yl zl : List Nat) (hB : 0 < B) (hl : zl.length = xl.length + yl.length) (h : ∀ t, zl.getD t 0 = 0) : Ia B xl yl zl 0 := by
 refine ⟨hl, fun t _ => h t, fun x hx => ?_, ?_⟩
 ·
  obtain ⟨i, hi, rfl⟩ := List.getElem_of_mem hx
  have := h i
  simp [List.getD, List.getElem?_eq_getElem hi] at this
  omega
 ·
  rw [Qp B zl _ (fun t _ => h t)]; simp [val]

theorem Ia.step {B : Nat} {xl yl zr zc : List Nat} {i c : Nat} (h : Ia B xl yl zr i) (hi : i < xl.length) (h2 : Gv B zr yl zc i (xl.getD i 0) yl.length c) :
  Ia B xl yl (zc.set (i + yl.length) c) (i + 1) := by
 have hl := h.len
 have hl2 := h2.len
 refine ⟨by simp [hl2, hl], fun t ht => ?_, Bv _ _ _ h2.lt h2.c1, ?_⟩
 ·
  rw [Ff _ _ _ _ (by omega), h2.same t (by omega), h.zero t (by omega)]
 ·
  rw [show i + 1 + yl.length = (i + yl.length) + 1 from by omega, Bh _ _ _ (by omega), Ci, List.length_take, Nat.min_eq_left (by omega), h2.eq, h.eq, jw _ yl _ (Nat.le_refl _), ou, Nat.add_mul]
  simp [Nat.mul_assoc]

theorem Ia.done {B : Nat} {xl yl zc : List Nat} (h : Ia B xl yl zc xl.length) : val B zc = val B xl * val B yl := by
 have e := h.eq
 have hl := h.len
 rwa [jw _ _ _ (by omega), jw _ _ _ (Nat.le_refl _)] at e

theorem Nt (B : Nat) (l : List Nat) (i : Nat) : val B (l.drop i) = l.getD i 0 + B * val B (l.drop (i + 1)) := by
 by_cases h : i < l.length
 ·
  rw [List.drop_eq_getElem_cons h]; simp [val, List.getD, h]
 ·
  rw [List.drop_of_length_le (by omega), List.drop_of_length_le (by omega)]; simp [val, List.getD, List.getElem?_eq_none (by omega : l.length ≤ i)]

structure Er (B : Nat) (xl qc : List Nat) (y i r : Nat) : Prop where
 len : qc.length = xl.length
 lt : ∀ x ∈ qc, x < B
 eq : val B (xl.drop i) = val B (qc.drop i) * y + r
 r1 : r < y

theorem Er.start {B : Nat} (xl ql : List Nat) (y : Nat) (hl : ql.length = xl.length) (hy : 0 < y) (h : ∀ x ∈ ql, x < B) : Er B xl ql y xl.length 0 :=
 ⟨hl, h, by rw [List.drop_of_length_le (Nat.le_refl _), List.drop_of_length_le (by omega)]; simp [val], hy⟩

theorem We (l : List Nat) (i v : Nat) : (l.set i v).drop (i + 1) = l.drop (i + 1) := by
 apply Mw
 ·
  simp
 ·
  intro j hj
  have : i ≠ i + 1 + j := by omega
  simp only [List.getD, List.getElem?_drop, List.getElem?_set, this, if_false]

theorem Er.step {B : Nat} {xl qc : List Nat} {y i r : Nat} (h : Er B xl qc y (i + 1) r) (hi : i < xl.length) (hx : xl.getD i 0 < B) :
  Er B xl (qc.set i ((r * B + xl.getD i 0) / y)) y i ((r * B + xl.getD i 0) % y) := by
 have hl := h.len
 have hr := h.r1
 refine ⟨by simp [hl], Bv _ _ _ h.lt ?_, ?_, Nat.mod_lt _ (by omega)⟩
 ·
  rw [Nat.div_lt_iff_lt_mul (by omega)]
  have : (r + 1) * B ≤ y * B := Nat.mul_le_mul_right _ hr
  rw [Nat.add_mul] at this
  rw [Nat.mul_comm B y]; omega
 ·
  rw [Nt, Nt B (qc.set _ _), We, Mv _ _ _ (by omega), h.eq]
  have Dg := Nat.div_add_mod (r * B + xl.getD i 0) y
  generalize (r * B + xl.getD i 0) / y = q at *
  generalize (r * B + xl.getD i 0) % y = s at *
  have e1 : B * (val B (qc.drop (i + 1)) * y) = B * val B (qc.drop (i + 1)) * y := by rw [Nat.mul_assoc]
  have e2 : q * y = y * q := Nat.mul_comm _ _
  have e3 : B * r = r * B := Nat.mul_comm _ _
  rw [Nat.mul_add, Nat.add_mul, e1, e2, e3]
  omega

theorem Er.done {B : Nat} {xl qc : List Nat} {y r : Nat} (h : Er B xl qc y 0 r) : val B qc = val B xl / y ∧ r = val B xl % y := by
 have e := h.eq
 have hr := h.r1
 simp only [List.drop_zero] at e
 constructor
 ·
  rw [e, Nat.mul_comm, Nat.mul_add_div (by omega), Nat.div_eq_of_lt hr]; omega
 ·
  rw [e, Nat.mul_comm, Nat.mul_add_mod, Nat.mod_eq_of_lt hr]
end Wd

namespace Wd

structure Gb (B S : Nat) (xl zc : List Nat) (i : Nat) : Prop where
 len : zc.length = xl.length + 1
 zero : ∀ t, i < t → zc.getD t 0 = 0
 lt : ∀ x ∈ zc, x < B
 low : zc.getD i 0 < S
 eq : val B (zc.take (i + 1)) = val B (xl.take i) * S

theorem Gb.start {B S : Nat} (xl zl : List Nat) (hS : 0 < S) (hB : 0 < B) (hl : zl.length = xl.length + 1) (h : ∀ t, zl.getD t 0 = 0) : Gb B S xl zl 0 := by
 refine ⟨hl, fun t _ => h t, fun x hx => ?_, by rw [h 0]; exact hS, ?_⟩
 ·
  obtain ⟨i, hi, rfl⟩ := List.getElem_of_mem hx
  have := h i
  simp [List.getD, List.getElem?_eq_getElem hi] at this
  omega
 ·
  rw [Qp B zl _ (fun t _ => h t)]; simp [val]

theorem Gb.step {B S T : Nat} {xl zc : List Nat} {i : Nat} (hST : S * T = B) (hT : 0 < T) (h : Gb B S xl zc i) (hi : i < xl.length) (hx : xl.getD i 0 < B) :
  Gb B S xl ((zc.set i (zc.getD i 0 + xl.getD i 0 % T * S)).set (i + 1) (xl.getD i 0 / T)) (i + 1) := by
 have hl := h.len
 have hlow := h.low
 have hm : xl.getD i 0 / T < S := by rw [Nat.div_lt_iff_lt_mul hT, hST]; exact hx
 have hSB : S ≤ B := by rw [← hST]; exact Nat.le_mul_of_pos_right _ hT
 have hr : xl.getD i 0 % T < T := Nat.mod_lt _ hT
 have hr2 : (xl.getD i 0 % T + 1) * S ≤ T * S := Nat.mul_le_mul_right _ hr
 rw [Nat.add_mul, Nat.mul_comm T S, hST] at hr2
 refine ⟨by simp [hl], fun t ht => ?_, Bv _ _ _ (Bv _ _ _ h.lt (by omega)) (by omega), ?_, ?_⟩
 ·
  rw [Ff _ _ _ _ (by omega), Ff _ _ _ _ (by omega), h.zero t (by omega)]
 ·
  rw [Mv _ _ _ (by simp; omega)]; exact hm
 ·
  rw [Bh _ _ _ (by simp; omega), Ci, Bh _ _ _ (by omega), Ci, List.length_append, List.length_take, Nat.min_eq_left (by omega)]
  have e := h.eq
  rw [ou] at e
  rw [ou, Nat.add_mul, ← e]
  have Dg := Nat.div_add_mod (xl.getD i 0) T
  generalize xl.getD i 0 / T = q at *
  generalize xl.getD i 0 % T = r at *
  rw [← Dg]
  have e1 : B ^ i * (T * q + r) * S = B ^ i * (r * S) + B ^ (i + 1) * q := by
   rw [Nat.pow_succ]
   generalize B ^ i = P
   rw [← hST, Nat.mul_add, Nat.add_mul, Nat.mul_assoc P r S, Nat.add_comm]
   congr 1
   simp only [Nat.mul_comm, Nat.mul_left_comm]
  rw [e1, List.length_singleton, Nat.mul_add]
  omega

theorem Gb.done {B S : Nat} {xl zc : List Nat} (h : Gb B S xl zc xl.length) : val B zc = val B xl * S := by
 have e := h.eq
 have hl := h.len
 rwa [jw _ zc _ (by omega), jw _ _ _ (Nat.le_refl _)] at e

structure Fe (B S : Nat) (xl zc : List Nat) (i : Nat) : Prop where
 len : zc.length = xl.length
 lt : ∀ x ∈ zc, x < B
 eq : S * val B (zc.take i) + xl.getD 0 0 % S = val B (xl.take i) + B ^ i * (xl.getD i 0 % S)

theorem Fe.start {B S : Nat} (xl zl : List Nat) (hl : zl.length = xl.length) (h : ∀ x ∈ zl, x < B) : Fe B S xl zl 0 := ⟨hl, h, by simp [val]⟩

theorem Fe.step {B S T : Nat} {xl zc : List Nat} {i : Nat} (hST : S * T = B) (hS : 0 < S) (h : Fe B S xl zc i) (hi : i < xl.length) (hx : xl.getD i 0 < B) :
  Fe B S xl (zc.set i (xl.getD i 0 / S + xl.getD (i + 1) 0 % S * T)) (i + 1) := by
 have hl := h.len
 have h1 : xl.getD i 0 / S < T := by rw [Nat.div_lt_iff_lt_mul hS, Nat.mul_comm, hST]; exact hx
 have h2 : (xl.getD (i + 1) 0 % S + 1) * T ≤ S * T := Nat.mul_le_mul_right _ (Nat.mod_lt _ hS)
 rw [hST, Nat.add_mul] at h2
 refine ⟨by simp [hl], Bv _ _ _ h.lt (by omega), ?_⟩
 rw [Bh _ _ _ (by omega), Ci, ou, List.length_take, Nat.min_eq_left (by omega)]
 have e := h.eq
 have Dg := Nat.div_add_mod (xl.getD i 0) S
 generalize xl.getD i 0 / S = q at *
 generalize xl.getD i 0 % S = r at *
 generalize xl.getD (i + 1) 0 % S = t at *
 rw [← Dg]
 have e1 : S * (B ^ i * (q + t * T)) = B ^ i * (S * q) + B ^ (i + 1) * t := by
  rw [Nat.pow_succ, ← hST, Nat.mul_add, Nat.mul_add]
  simp only [Nat.mul_comm, Nat.mul_left_comm, Nat.mul_assoc]
 rw [Nat.mul_add, e1, Nat.mul_add]
 omega

theorem agf {B S T : Nat} (hST : S * T = B) (l : List Nat) : val B l % S = l.getD 0 0 % S := by
 cases l with
 | nil => rfl
 | cons x l => simp [val, ← hST, Nat.mul_assoc, List.getD]

theorem Fe.done {B S T : Nat} {xl zc : List Nat} (hST : S * T = B) (hS : 0 < S) (h : Fe B S xl zc xl.length) : val B zc = val B xl / S := by
 have e := h.eq
 have hl := h.len
 have h0 : xl.getD xl.length 0 = 0 := by simp [List.getD]
 rw [h0, Nat.zero_mod, Nat.mul_zero, Nat.add_zero, jw _ _ _ (Nat.le_refl _), jw _ zc _ (by omega), ← agf hST] at e
 have := Nat.div_add_mod (val B xl) S
 have h3 : S * val B zc = S * (val B xl / S) := by omega
 exact Nat.eq_of_mul_eq_mul_left hS h3

structure Eh (B : Nat) (ul vl zc : List Nat) (k i c : Nat) : Prop where
 len : zc.length = ul.length
 same : ∀ j, i ≤ j → zc.getD j 0 = ul.getD j 0
 lt : ∀ x ∈ zc, x < B
 eq : val B (zc.take i) + k * val B (vl.take i) = val B (ul.take i) + B ^ i * c
 c1 : c < B

theorem Eh.start {B : Nat} (ul vl : List Nat) (k : Nat) (hB : 0 < B) (h : ∀ x ∈ ul, x < B) : Eh B ul vl ul k 0 0 := ⟨rfl, fun _ _ => rfl, h, by simp [val], hB⟩

theorem Eh.step {B : Nat} {ul vl zc : List Nat} {k i c d b hi lo : Nat} (h : Eh B ul vl zc k i c) (hiu : i < ul.length)
  (hd : d < B) (hb : hi + b < B) (e1 : k * vl.getD i 0 + c = hi * B + lo) (e2 : d + lo = zc.getD i 0 + B * b) : Eh B ul vl (zc.set i d) k (i + 1) (hi + b) := by
 have hlen := h.len
 refine ⟨by simp [hlen], fun t ht => ?_, Bv _ _ _ h.lt hd, ?_, hb⟩
 ·
  rw [Ff _ _ _ _ (by omega), h.same t (by omega)]
 ·
  rw [Bh _ _ _ (by omega), Ci, ou, ou, List.length_take, Nat.min_eq_left (by omega), Nat.pow_succ]
  have e := h.eq
  have hs := h.same i (Nat.le_refl _)
  rw [← hs]
  have e3 : B ^ i * (k * vl.getD i 0 + c) = B ^ i * (hi * B + lo) := by rw [e1]
  have e4 : B ^ i * (d + lo) = B ^ i * (zc.getD i 0 + B * b) := by rw [e2]
  have e5 : k * (B ^ i * vl.getD i 0) = B ^ i * (k * vl.getD i 0) := Nat.mul_left_comm _ _ _
  have e6 : B ^ i * (hi * B) = B ^ i * B * hi := by simp only [Nat.mul_comm, Nat.mul_left_comm, Nat.mul_assoc]
  have e7 : B ^ i * (B * b) = B ^ i * B * b := by rw [Nat.mul_assoc]
  rw [Nat.mul_add k, e5]
  simp only [Nat.mul_add, e6, e7] at e3 e4 ⊢
  omega

theorem Eh.done {B : Nat} {ul vl zc : List Nat} {k c d b : Nat} (h : Eh B ul vl zc k vl.length c) (hu : ul.length = vl.length + 1) (e : d + c = zc.getD vl.length 0 + B * b) :
  val B (zc.set vl.length d) + k * val B vl = val B ul + B ^ ul.length * b := by
 have hl := h.len
 have h1 := Bh zc vl.length d (by omega)
 rw [List.take_of_length_le (by simp; omega)] at h1
 rw [h1, Ci, List.length_take, Nat.min_eq_left (by omega)]
 have h2 := rf B ul vl.length (by omega)
 rw [jw _ ul _ (by omega)] at h2
 have h3 := h.eq
 rw [jw _ vl _ (Nat.le_refl _)] at h3
 have hs := h.same vl.length (Nat.le_refl _)
 rw [h2, ← hs, hu, Nat.pow_succ]
 have e3 : B ^ vl.length * (d + c) = B ^ vl.length * (zc.getD vl.length 0 + B * b) := by rw [e]
 simp only [Nat.mul_add, Nat.mul_assoc] at e3 ⊢
 omega

theorem Yc {B U V top head q : Nat} {k : Nat} (h1 : top * B ^ k ≤ V) (h2 : U < (head + 1) * B ^ k) (hq : q * V ≤ U) : q * top ≤ head := by
 have h3 : q * (top * B ^ k) ≤ U := Nat.le_trans (Nat.mul_le_mul_left _ h1) hq
 have h4 : q * top * B ^ k < (head + 1) * B ^ k := by rw [Nat.mul_assoc]; omega
 have h5 := Nat.lt_of_mul_lt_mul_right h4
 omega
end Wd
namespace Wd

theorem bia (q : Rat) (n : Int) (d : Nat) (hd : d ≠ 0) (hc : n.natAbs.Coprime d) (he : n * q.den = q.num * d) : q.num = n ∧ q.den = d := by
 have h1 : q = Rat.mk' n d hd hc := by rw [Rat.eq_iff_mul_eq_mul]; simp only; exact he.symm
 rw [h1]; exact ⟨rfl, rfl⟩

theorem Hw (n d : Int) (hd : d ≠ 0) : (Rat.divInt n d).num = n.tdiv (d.sign * (n.natAbs.gcd d.natAbs : Nat)) ∧ ((Rat.divInt n d).den : Int) = d.tdiv (d.sign * (n.natAbs.gcd d.natAbs : Nat)) := by
 have hg0 : 0 < n.natAbs.gcd d.natAbs := Nat.gcd_pos_of_pos_right _ (by omega)
 have hgn : ((n.natAbs.gcd d.natAbs : Nat) : Int) ∣ n := Int.dvd_trans (Int.ofNat_dvd.2 (Nat.gcd_dvd_left _ _)) (Int.natAbs_dvd.2 (Int.dvd_refl n))
 have hgd : ((n.natAbs.gcd d.natAbs : Nat) : Int) ∣ d := Int.dvd_trans (Int.ofNat_dvd.2 (Nat.gcd_dvd_right _ _)) (Int.natAbs_dvd.2 (Int.dvd_refl d))
 have hc : (n.natAbs / n.natAbs.gcd d.natAbs).Coprime (d.natAbs / n.natAbs.gcd d.natAbs) := Nat.coprime_div_gcd_div_gcd hg0
 generalize hgg : n.natAbs.gcd d.natAbs = g at *
 obtain ⟨a, ha⟩ := hgn
 obtain ⟨b, hb⟩ := hgd
 have hgi : (g : Int) ≠ 0 := by omega
 have hb0 : b ≠ 0 := by rintro rfl; simp at hb; exact hd hb
 have hsd : d.sign = b.sign := by rw [hb, Int.sign_mul, Int.sign_eq_one_of_pos (by omega), Int.one_mul]
 have hs : d.sign * d.sign = 1 := by
  rcases Int.lt_trichotomy d 0 with h | h | h
  ·
   rw [Int.sign_eq_neg_one_of_neg h]; rfl
  ·
   exact absurd h hd
  ·
   rw [Int.sign_eq_one_of_pos h]; rfl
 have hs0 : d.sign ≠ 0 := by intro h; rw [h] at hs; simp at hs
 have e1 : n.tdiv (d.sign * g) = d.sign * a := by
  rw [ha]
  have : (g : Int) * a = (d.sign * g) * (d.sign * a) := by
   have : (d.sign * g) * (d.sign * a) = (d.sign * d.sign) * (g * a) := by simp only [Int.mul_comm, Int.mul_left_comm, Int.mul_assoc]
   rw [this, hs, Int.one_mul]
  rw [this, Int.mul_tdiv_cancel_left _ (by simp [Int.mul_eq_zero]; omega)]
 have e2 : d.tdiv (d.sign * g) = d.sign * b := by
  conv => lhs; arg 1; rw [hb]
  have : (g : Int) * b = (d.sign * g) * (d.sign * b) := by
   have : (d.sign * g) * (d.sign * b) = (d.sign * d.sign) * (g * b) := by simp only [Int.mul_comm, Int.mul_left_comm, Int.mul_assoc]
   rw [this, hs, Int.one_mul]
  rw [this, Int.mul_tdiv_cancel_left _ (by simp [Int.mul_eq_zero]; omega)]
 have e3 : d.sign * b = b.natAbs := by rw [hsd]; exact Int.sign_mul_self b
 rw [e1, e2, e3]
 have hna : n.natAbs / g = a.natAbs := by rw [ha, Int.natAbs_mul, Int.natAbs_natCast]; exact Nat.mul_div_cancel_left _ hg0
 have hda : d.natAbs / g = b.natAbs := by
  have : d.natAbs = g * b.natAbs := by rw [hb, Int.natAbs_mul, Int.natAbs_natCast]
  rw [this]; exact Nat.mul_div_cancel_left _ hg0
 rw [hna, hda] at hc
 have hsn : (d.sign * a).natAbs = a.natAbs := by
  rw [Int.natAbs_mul]
  have : d.sign.natAbs = 1 := by
   rcases Int.lt_trichotomy d 0 with h | h | h
   ·
    rw [Int.sign_eq_neg_one_of_neg h]; rfl
   ·
    exact absurd h hd
   ·
    rw [Int.sign_eq_one_of_pos h]; rfl
  rw [this, Nat.one_mul]
 have hq : Rat.divInt n d = Rat.mk' (d.sign * a) b.natAbs (by omega) (by rw [hsn]; exact hc) := by
  rw [Rat.mk_eq_divInt, Rat.divInt_eq_divInt_iff hd (by omega)]
  rw [← e3, ha]
  generalize d.sign = t at *
  rw [hb]
  simp only [Int.mul_comm, Int.mul_left_comm, Int.mul_assoc]
 rw [hq]
 exact ⟨rfl, rfl⟩

theorem anb {a : Int} {b : Nat} (h : a.natAbs.Coprime b) {c : Int} (hc : c ∣ a) : c.natAbs.Coprime b := Nat.Coprime.coprime_dvd_left (Int.natAbs_dvd_natAbs.2 hc) h

theorem awf (x y : Rat) (g h : Nat) (n : Int) (hg : g = x.den.gcd y.den) (hn : n = x.num * (y.den / g : Nat) + y.num * (x.den / g : Nat)) (hh : h = g.gcd n.natAbs) :
  (x + y).num = n.tdiv h ∧ (x + y).den = x.den / g * (y.den / h) := by
 have hx := x.reduced
 have hy := y.reduced
 have hxd := x.den_pos
 have hyd := y.den_pos
 have hg0 : 0 < g := by rw [hg]; exact Nat.gcd_pos_of_pos_left _ hxd
 obtain ⟨a, ha⟩ : g ∣ x.den := by rw [hg]; exact Nat.gcd_dvd_left _ _
 obtain ⟨b, hb⟩ : g ∣ y.den := by rw [hg]; exact Nat.gcd_dvd_right _ _
 have hab : a.Coprime b := by
  have := Nat.coprime_div_gcd_div_gcd (m := x.den) (n := y.den) (by rw [← hg]; exact hg0)
  rwa [← hg, ha, hb, Nat.mul_div_cancel_left _ hg0, Nat.mul_div_cancel_left _ hg0] at this
 have ea : x.den / g = a := by rw [ha, Nat.mul_div_cancel_left _ hg0]
 have eb : y.den / g = b := by rw [hb, Nat.mul_div_cancel_left _ hg0]
 rw [ea, eb] at hn
 rw [ea]
 have hh0 : 0 < h := by rw [hh]; exact Nat.gcd_pos_of_pos_left _ hg0
 obtain ⟨g', hg'⟩ : h ∣ g := by rw [hh]; exact Nat.gcd_dvd_left _ _
 obtain ⟨n', hn'⟩ : (h : Int) ∣ n := Int.dvd_trans (Int.ofNat_dvd.2 (by rw [hh]; exact Nat.gcd_dvd_right _ _)) (Int.natAbs_dvd.2 (Int.dvd_refl n))
 have hgn : n'.natAbs.Coprime g' := by
  have := Nat.coprime_div_gcd_div_gcd (m := g) (n := n.natAbs) (by rw [← hh]; exact hh0)
  rw [← hh, hn', Int.natAbs_mul, Int.natAbs_natCast, Nat.mul_div_cancel_left _ hh0] at this
  conv at this => lhs; rw [hg', Nat.mul_div_cancel_left _ hh0]
  exact this.symm
 have e1 : n.tdiv h = n' := by rw [hn']; exact Int.mul_tdiv_cancel_left _ (by omega)
 have e2 : y.den / h = g' * b := by rw [hb, hg', Nat.mul_assoc, Nat.mul_div_cancel_left _ hh0]
 rw [e1, e2]
 have ca : n.natAbs.Coprime a := by
  have h1 : (x.num * b).natAbs.Coprime a := by
   rw [Int.natAbs_mul, Int.natAbs_natCast]
   exact Nat.Coprime.mul_left (Nat.Coprime.coprime_dvd_right ⟨g, by rw [ha, Nat.mul_comm]⟩ hx) hab.symm
  have h2 : Int.gcd n a = 1 := by
   have : Int.gcd (x.num * b) a = 1 := by exact h1
   rw [hn, Int.gcd_add_mul_right_left]
   exact this
  exact h2
 have cb : n.natAbs.Coprime b := by
  have h1 : (y.num * a).natAbs.Coprime b := by
   rw [Int.natAbs_mul, Int.natAbs_natCast]
   exact Nat.Coprime.mul_left (Nat.Coprime.coprime_dvd_right ⟨g, by rw [hb, Nat.mul_comm]⟩ hy) hab
  have h2 : Int.gcd n b = 1 := by
   have : Int.gcd (y.num * a) b = 1 := by exact h1
   rw [hn, Int.add_comm, Int.gcd_add_mul_right_left]
   exact this
  exact h2
 have dn : n' ∣ n := ⟨h, by rw [hn', Int.mul_comm]⟩
 have hc : n'.natAbs.Coprime (a * (g' * b)) := Nat.Coprime.mul_right (anb ca dn) (Nat.Coprime.mul_right hgn (anb cb dn))
 have hb0 : b ≠ 0 := by rintro rfl; simp at hb; omega
 have ha0 : a ≠ 0 := by rintro rfl; simp at ha; omega
 have cfx : g' ≠ 0 := by rintro rfl; simp at hg'; omega
 refine bia _ _ _ (by simp [Nat.mul_eq_zero]; omega) hc ?_
 have hq : x + y = Rat.mk' n' (a * (g' * b)) (by simp [Nat.mul_eq_zero]; omega) hc := by
  rw [Rat.add_def', Rat.mk_eq_mkRat, Rat.mkRat_eq_iff (by simp [Nat.mul_eq_zero]; omega) (by simp [Nat.mul_eq_zero]; omega)]
  have e3 : x.num * y.den + y.num * x.den = g * n := by
   rw [hn, ha, hb]; simp only [Int.natCast_mul, Int.mul_add]
   simp only [Int.mul_left_comm]
  rw [e3, ha, hb, hn']
  simp only [hg', Int.natCast_mul]
  simp only [Int.mul_comm, Int.mul_left_comm, Int.mul_assoc]
 rw [hq]

end Wd

namespace Wd
def Jr (x k u : Nat) : Prop := x = 2 ^ k * u ∧ u % 2 = 1

theorem alv {x k u k' u' : Nat} (h : Jr x k u) (h' : Jr x k' u') : k = k' ∧ u = u' := by
 have key : ∀ {k u k' u' : Nat}, 2 ^ k * u = 2 ^ k' * u' → u % 2 = 1 → u' % 2 = 1 → k ≤ k' → k = k' ∧ u = u' := by
  intro k u k' u' e h1 h2 hk
  obtain ⟨d, rfl⟩ : ∃ d, k' = k + d := ⟨k' - k, by omega⟩
  rw [Nat.pow_add, Nat.mul_assoc] at e
  have := Nat.eq_of_mul_eq_mul_left (Nat.pow_pos (by omega)) e
  cases d with
  | zero => simp at this; exact ⟨rfl, this⟩
  | succ d => rw [this, Nat.pow_succ, Nat.mul_assoc, Nat.mul_comm (2 ^ d), Nat.mul_assoc] at h1; omega
 obtain ⟨e1, o1⟩ := h
 obtain ⟨e2, o2⟩ := h'
 rcases Nat.le_total k k' with hk | hk
 ·
  exact key (e1.symm.trans e2) o1 o2 hk
 ·
  have := key (e2.symm.trans e1) o2 o1 hk
  exact ⟨this.1.symm, this.2.symm⟩

theorem Ji {u : Nat} (hu : u % 2 = 1) (k v : Nat) : u.gcd (2 ^ k * v) = u.gcd v := by
 have h2 : Nat.Coprime u 2 := by
  rw [Nat.Coprime, Nat.gcd_comm, Nat.gcd_rec, hu]; rfl
 have hk : Nat.Coprime u (2 ^ k) := Nat.Coprime.pow_right k h2
 exact Nat.Coprime.gcd_mul_left_cancel_right v hk.symm

theorem baw {x y a b u v : Nat} (hx : Jr x a u) (hy : Jr y b v) : x.gcd y = 2 ^ (min a b) * u.gcd v := by
 obtain ⟨rfl, hu⟩ := hx
 obtain ⟨rfl, hv⟩ := hy
 rcases Nat.le_total a b with h | h
 ·
  obtain ⟨d, rfl⟩ : ∃ d, b = a + d := ⟨b - a, by omega⟩
  rw [Nat.min_eq_left h, Nat.pow_add, Nat.mul_assoc, Nat.gcd_mul_left, Ji hu]
 ·
  obtain ⟨d, rfl⟩ : ∃ d, a = b + d := ⟨a - b, by omega⟩
  rw [Nat.min_eq_right h, Nat.pow_add, Nat.mul_assoc, Nat.gcd_mul_left, Nat.gcd_comm, Ji hv, Nat.gcd_comm]

theorem Wn (k a b : Nat) : (2 ^ k * a) ||| (2 ^ k * b) = 2 ^ k * (a ||| b) := by
 apply Nat.eq_of_testBit_eq
 intro i
 simp only [Nat.testBit_or, Nat.testBit_two_pow_mul]
 by_cases h : k ≤ i <;> simp [h]

theorem ams (a b : Nat) : (a ||| b) % 2 = 1 ↔ a % 2 = 1 ∨ b % 2 = 1 := by
 have h := @Nat.testBit_or a b 0
 simp only [Nat.testBit_zero] at h
 have : decide ((a ||| b) % 2 = 1) = decide (a % 2 = 1 ∨ b % 2 = 1) := by rw [h]; simp
 simp only [decide_eq_decide] at this
 exact this

theorem ayv {x y a b u v : Nat} (hx : Jr x a u) (hy : Jr y b v) : ∃ w, Jr (x ||| y) (min a b) w := by
 obtain ⟨rfl, hu⟩ := hx
 obtain ⟨rfl, hv⟩ := hy
 rcases Nat.le_total a b with h | h
 ·
  obtain ⟨d, rfl⟩ : ∃ d, b = a + d := ⟨b - a, by omega⟩
  rw [Nat.min_eq_left h, Nat.pow_add, Nat.mul_assoc, Wn]
  exact ⟨_, rfl, (ams _ _).2 (.inl hu)⟩
 ·
  obtain ⟨d, rfl⟩ : ∃ d, a = b + d := ⟨a - b, by omega⟩
  rw [Nat.min_eq_right h, Nat.pow_add, Nat.mul_assoc, Wn]
  exact ⟨_, rfl, (ams _ _).2 (.inr hv)⟩

def Gw (G t x y : Nat) : Prop := x % 2 = 1 ∧ G = 2 ^ t * x.gcd y

theorem Gw.start {X Y a b u v t : Nat} (hX : Jr X a u) (hY : Jr Y b v) (ht : ∃ w, Jr (X ||| Y) t w) : Gw (X.gcd Y) t u Y := by
 obtain ⟨w, hw⟩ := ht
 obtain ⟨w', hw'⟩ := ayv hX hY
 obtain ⟨rfl, _⟩ := alv hw hw'
 refine ⟨hX.2, ?_⟩
 rw [baw hX hY]
 obtain ⟨rfl, _⟩ := hY
 rw [Ji hX.2]

theorem Gw.bfr {G t x y k v : Nat} (h : Gw G t x y) (hy : Jr y k v) (hle : x ≤ v) : Gw G t x (v - x) := by
 obtain ⟨h1, h2⟩ := h
 obtain ⟨rfl, hv⟩ := hy
 refine ⟨h1, ?_⟩
 rw [h2, Ji h1]
 have : x.gcd v = x.gcd (v - x) := by
  rw [Nat.gcd_comm, Nat.gcd_comm x (v - x)]
  exact (Nat.gcd_sub_self_left hle).symm
 rw [this]

theorem Gw.bfs {G t x y k v : Nat} (h : Gw G t x y) (hy : Jr y k v) (hlt : v < x) : Gw G t v (x - v) := by
 obtain ⟨h1, h2⟩ := h
 obtain ⟨rfl, hv⟩ := hy
 refine ⟨hv, ?_⟩
 rw [h2, Ji h1]
 have : x.gcd v = v.gcd (x - v) := by
  rw [Nat.gcd_comm v]
  exact (Nat.gcd_sub_self_left (by omega)).symm
 rw [this]

theorem Gw.done {G t x : Nat} (h : Gw G t x 0) : G = x * 2 ^ t := by
 rw [h.2, Nat.gcd_zero_right, Nat.mul_comm]

theorem aiv {x k u : Nat} (h : Jr x k u) : x / 2 ^ k = u := by
 rw [h.1]; exact Nat.mul_div_cancel_left _ (Nat.pow_pos (by omega))
theorem amm {x k u : Nat} (h : Jr x k u) : u ≤ x := by
 rw [h.1]; exact Nat.le_mul_of_pos_left _ (Nat.pow_pos (by omega))
end Wd


namespace Wd
structure Dr (b y1 y0 u d q r : Nat) : Prop where
 eq : q * y1 + r = u
 ge : (u * b + d) / (y1 * b + y0) ≤ q

theorem Dr.start {b y1 y0 u d : Nat} (hy : 0 < y1) (hd : d < b) : Dr b y1 y0 u d (u / y1) (u - u / y1 * y1) := by
 have Dg := Nat.div_add_mod u y1
 have hml : u / y1 * y1 ≤ u := Nat.div_mul_le_self u y1
 refine ⟨by omega, ?_⟩
 rw [Nat.le_div_iff_mul_le hy]
 have h1 : (u * b + d) / (y1 * b + y0) * (y1 * b + y0) ≤ u * b + d := Nat.div_mul_le_self _ _
 generalize (u * b + d) / (y1 * b + y0) = Q at *
 have h2 : Q * y1 * b < (u + 1) * b := by
  rw [Nat.mul_add, ← Nat.mul_assoc] at h1
  rw [Nat.add_mul]
  omega
 have := Nat.lt_of_mul_lt_mul_right h2
 omega

theorem Dr.step {b y1 y0 u d q r : Nat} (hy : 0 < y1 * b + y0) (hu : u < y1 * b + y0) (hd : d < b) (h : Dr b y1 y0 u d q r) (ht : b ≤ q ∨ b * r + d < q * y0) :
  1 ≤ q ∧ Dr b y1 y0 u d (q - 1) (r + y1) := by
 have hlt : (u * b + d) / (y1 * b + y0) < q := by
  rcases ht with h1 | h1
  ·
   refine Nat.lt_of_lt_of_le ?_ h1
   rw [Nat.div_lt_iff_lt_mul hy]
   have : (u + 1) * b ≤ (y1 * b + y0) * b := Nat.mul_le_mul_right _ hu
   rw [Nat.add_mul] at this
   rw [Nat.mul_comm b]
   omega
  ·
   rw [Nat.div_lt_iff_lt_mul hy, ← h.eq, Nat.mul_add, Nat.add_mul, ← Nat.mul_assoc, Nat.mul_comm r b]
   omega
 have e := h.eq
 refine ⟨Nat.lt_of_le_of_lt (Nat.zero_le _) hlt, ⟨?_, Nat.le_sub_one_of_lt hlt⟩⟩
 have hq1 : 1 ≤ q := Nat.lt_of_le_of_lt (Nat.zero_le _) hlt
 clear hlt
 have : (q - 1) * y1 + y1 = q * y1 := by
  obtain ⟨p, rfl⟩ : ∃ p, q = p + 1 := ⟨q - 1, by omega⟩
  rw [Nat.add_sub_cancel, Nat.add_mul, Nat.one_mul]
 omega

theorem Dr.done {b y1 y0 u d q r : Nat} (hy : 0 < y1 * b + y0) (h : Dr b y1 y0 u d q r) (ht : q * y0 ≤ b * r + d) : q = (u * b + d) / (y1 * b + y0) := by
 refine Nat.le_antisymm ?_ h.ge
 rw [Nat.le_div_iff_mul_le hy, ← h.eq, Nat.mul_add, Nat.add_mul, ← Nat.mul_assoc, Nat.mul_comm r b]
 omega

theorem Dr.stop {b y1 y0 u d q r : Nat} (hy : 0 < y1 * b + y0) (hy0 : y0 < b) (hu : u < y1 * b + y0) (h : Dr b y1 y0 u d q r) (ht : b ≤ r) : q = (u * b + d) / (y1 * b + y0) := by
 refine h.done hy ?_
 have e := h.eq
 have h1 : q * y1 < y1 * b := by omega
 have hq : q < b := by
  rw [Nat.mul_comm] at h1
  exact Nat.lt_of_mul_lt_mul_left h1
 have h2 : q * y0 ≤ b * b := Nat.mul_le_mul (by omega) (by omega)
 have h3 : b * b ≤ b * r := Nat.mul_le_mul_left _ ht
 omega

theorem akh {b Y u d : Nat} (hY : 0 < Y) (hu : u < Y) (hd : d < b) : (u * b + d) / Y < b := by
 rw [Nat.div_lt_iff_lt_mul hY]
 have : (u + 1) * b ≤ Y * b := Nat.mul_le_mul_right _ hu
 rw [Nat.add_mul] at this
 rw [Nat.mul_comm b]; omega

theorem anz {b Y u d1 d0 : Nat} (hY : 0 < Y) : (u * (b * b) + d1 * b + d0) / Y = (u * b + d1) / Y * b + ((u * b + d1) % Y * b + d0) / Y ∧
  (u * (b * b) + d1 * b + d0) % Y = ((u * b + d1) % Y * b + d0) % Y := by
 have Dg := Nat.div_add_mod (u * b + d1) Y
 generalize (u * b + d1) / Y = Q at *
 generalize (u * b + d1) % Y = R at *
 have e : u * (b * b) + d1 * b + d0 = Y * (Q * b) + (R * b + d0) := by
  have : (u * b + d1) * b = (Y * Q + R) * b := by rw [Dg]
  rw [Nat.add_mul, Nat.add_mul, Nat.mul_assoc, Nat.mul_assoc] at this
  omega
 rw [e]
 exact ⟨by rw [Nat.mul_add_div hY], by rw [Nat.mul_add_mod]⟩

theorem Sj {N Y S : Nat} (hS : 0 < S) : N * S / (Y * S) = N / Y ∧ N * S % (Y * S) / S = N % Y := by
 rw [Nat.mul_div_mul_right _ _ hS, Nat.mul_mod_mul_right, Nat.mul_div_cancel _ hS]
 exact ⟨rfl, rfl⟩
end Wd

end Go.Proofs.YtpjgoogeokbaaaaGreatDoor
namespace Go.Proofs.YtpjgoogeokbaaaaGreatDoor
open Go.RowKit
theorem om {P : Prop} (h : P := by omega) : P := h
theorem bem {P : Prop} (h : P := by (first | assumption | (repeat (first | exact Below.refl _ _ | assumption | refine Below.drew ?_ | (refine Below.alloc ?_ (by simp <;> omega) _))))) : P := h

theorem hide {p : Prop} (h : p) : Hid p := h
theorem aa {p : Prop} (h : Hid p) : p := h

def Ws (k : IntKind) (w : World) (B : Nat) (A : Option Addr) (l : List Nat) : Prop :=
 0 < l.length → ∃ b off, A = some ⟨b, off, none⟩ ∧ b < B ∧ ∀ j, j < l.length → w.cell? ⟨b, off + j, none⟩ = some (.int k ((Wd.g l j : Nat) : Int))

section
variable {k : IntKind} {w w' : World} {B B' : Nat} {A : Option Addr} {l : List Nat}
theorem Ws.Qa : Ws k w B A [] := fun h => absurd h (by simp)
theorem Ws.keep (h : Ws k w B A l) (hk : ∀ p : Addr, p.block < B → w'.cell? p = w.cell? p) : Ws k w' B A l := fun hl => by
 obtain ⟨b, off, e, hb, hc⟩ := h hl
 exact ⟨b, off, e, hb, fun j hj => (hk _ hb).trans (hc j hj)⟩
theorem Ws.more (h : Ws k w B A l) (hB : B ≤ B') : Ws k w B' A l := fun hl => by
 obtain ⟨b, off, e, hb, hc⟩ := h hl
 exact ⟨b, off, e, by omega, hc⟩
theorem Ws.below (h : Ws k w B A l) (hb : Below B w w') : Ws k w' B A l := h.keep fun _ hp => hb.cell hp
theorem Ws.drew (h : Ws k w B A l) : Ws k w.drew B A l := h
theorem Ws.drewN (h : Ws k w B A l) (n : Nat) : Ws k (w.drewN n) B A l := h
theorem Ws.alloc (h : Ws k w B A l) (hB : B ≤ w.heap.size) (o : Obj) : Ws k (w.alloc o) B A l := h.keep fun p hp => World.cell?_alloc_lt w o p om
theorem Ws.setCell (h : Ws k w B A l) {p : Addr} (hB : B ≤ p.block) (u : Value) : Ws k (w.setCell p u) B A l :=
 h.keep fun q hq => World.cell?_setCell_other w p q u (fun e => by subst e; omega)
theorem Ws.Pn (h : Ws k w B A l) (n : Nat) : Ws k w B A (l.take n) := fun hl => by
 have hl' : 0 < l.length := by simp at hl; omega
 obtain ⟨b, off, e, hb, hc⟩ := h hl'
 refine ⟨b, off, e, hb, fun j hj => ?_⟩
 have : j < n ∧ j < l.length := by simp at hj; omega
 rw [Wd.ry, Wd.getD_take _ _ _ this.1]
 exact hc j this.2
end
end Go.Proofs.YtpjgoogeokbaaaaGreatDoor
namespace Go.Proofs.YtpjgoogeokbaaaaGreatDoor
open Go.RowKit
theorem kr {P : Prop} (h : P := by kernel_rfl) : P := h

def xu (k : IntKind) (zs : List Nat) : Array Value := (zs.map fun (x : Nat) => Value.int k (x : Int)).toArray

def ZB (k : IntKind) (w : World) (b : Nat) (T : TypeId) (zs : List Nat) : Prop := w.heap[b]? = some (.cells (xu k zs) T (0, 0))

theorem anw (k : IntKind) (zs : List Nat) (i : Nat) (h : i < zs.length) : (xu k zs)[i]? = some (.int k ((Wd.g zs i : Nat) : Int)) := by
 simp [xu, Wd.g, List.getD, h]

section
variable {k : IntKind} {w w' : World} {b : Nat} {T : TypeId} {zs : List Nat}
theorem ZB.lt (h : ZB k w b T zs) : b < w.heap.size := by
 rcases Nat.lt_or_ge b w.heap.size with hlt | hge
 ·
  exact hlt
 ·
  unfold ZB at h; rw [Array.getElem?_eq_none hge] at h; cases h
theorem ZB.cell (h : ZB k w b T zs) (i : Nat) (hi : i < zs.length) : w.cell? ⟨b, i, none⟩ = some (.int k ((Wd.g zs i : Nat) : Int)) := by
 unfold ZB at h
 simp only [World.cell?, h, Option.isSome_none, Bool.false_eq_true, if_false]
 exact anw k zs i hi
theorem ZB.frozen (h : ZB k w b T zs) (i : Nat) : w.frozen? ⟨b, i, none⟩ = false := by
 unfold ZB at h
 simp [World.frozen?, h]
theorem ZB.drew (h : ZB k w b T zs) : ZB k w.drew b T zs := h
theorem ZB.drewN (h : ZB k w b T zs) (n : Nat) : ZB k (w.drewN n) b T zs := h
theorem ZB.alloc (h : ZB k w b T zs) (o : Obj) : ZB k (w.alloc o) b T zs := (Below.heap_alloc w o b h.lt).trans h
theorem ZB.Ei (h : ZB k w b T zs) (i v : Nat) : ZB k (w.setCell ⟨b, i, none⟩ (.int k (v : Int))) b T (zs.set i v) := by
 unfold ZB at h ⊢
 have e : (xu k zs).setIfInBounds i (.int k (v : Int)) = xu k (zs.set i v) := by
  simp [xu, List.map_set]
 simp [World.setCell, Array.getElem?_modify, h, e]
theorem ZB.below {B : Nat} (h : ZB k w b T zs) (hb : Below B w w') (hg : b < B) : ZB k w' b T zs := (hb.block b hg).trans h
theorem ZB.grown {row : Option Nat} (h : ZB k w b T zs) (hb : w.grownBy w' row) (hg : some b ≠ row) : ZB k w' b T zs := (hb.block b h.lt hg).trans h
theorem ZB.ws (h : ZB k w b T zs) (off n : Nat) (hn : off + n ≤ zs.length) (B : Nat) (hB : b < B) : Ws k w B (some ⟨b, off, none⟩) ((zs.drop off).take n) := fun _ => by
 refine ⟨b, off, rfl, hB, fun j hj => ?_⟩
 have hj' : j < n := by simp at hj; omega
 rw [h.cell (off + j) om]
 simp [Wd.g, List.getD, hj', List.getElem?_drop]
theorem ZB.Fx (h : ZB k w b T zs) (B : Nat) (hB : b < B) : Ws k w B (some ⟨b, 0, none⟩) zs := fun _ => ⟨b, 0, rfl, hB, fun j hj => by rw [Nat.zero_add]; exact h.cell j hj⟩
end

def win (us : List Nat) (off : Nat) (zc : List Nat) : List Nat := us.take off ++ zc ++ us.drop (off + zc.length)

theorem win_length (us : List Nat) (off : Nat) (zc : List Nat) (h : off + zc.length ≤ us.length) : (win us off zc).length = us.length := by
 simp [win]; omega
theorem Lr (us : List Nat) (off : Nat) (zc : List Nat) (h : off + zc.length ≤ us.length) (i : Nat) (hi : i < zc.length) : Wd.g (win us off zc) (off + i) = Wd.g zc i := by
 have h1 : (us.take off).length = off := by simp; omega
 simp only [Wd.g, win, List.getD, List.append_assoc]
 rw [List.getElem?_append_right om, h1, Nat.add_sub_cancel_left, List.getElem?_append_left hi]
theorem Ih (us : List Nat) (off : Nat) (zc : List Nat) (h : off + zc.length ≤ us.length) (i v : Nat) (hi : i < zc.length) : (win us off zc).set (off + i) v = win us off (zc.set i v) := by
 have h1 : (us.take off).length = off := by simp; omega
 simp only [win, List.append_assoc, List.length_set]
 rw [List.set_append_right _ _ om, h1, Nat.add_sub_cancel_left, List.set_append_left _ _ hi]
theorem Lf (us : List Nat) (off n : Nat) (h : off + n ≤ us.length) : win us off ((us.drop off).take n) = us := by
 have h1 : ((us.drop off).take n).length = n := by simp; omega
 simp only [win, h1, List.append_assoc]
 rw [← List.drop_drop, List.take_append_drop, List.take_append_drop]
theorem bep (us : List Nat) (off : Nat) (zc zd : List Nat) (h : off + zc.length ≤ us.length) (hl : zd.length = zc.length) : win (win us off zc) off zd = win us off zd := by
 have h1 : (us.take off).length = off := by simp; omega
 have h2 : (win us off zc).take off = us.take off := by
  simp only [win, List.append_assoc]
  rw [List.take_append_of_le_length om, List.take_of_length_le om]
 have h3 : (win us off zc).drop (off + zc.length) = us.drop (off + zc.length) := by
  simp only [win]
  rw [List.drop_append_of_le_length (by simp; omega), List.drop_of_length_le (by simp; omega), List.nil_append]
 unfold win at h2 h3 ⊢
 rw [h2, hl, h3]
theorem win_zero (zs zc : List Nat) (h : zc.length = zs.length) : win zs 0 zc = zc := by simp [win, h]

def dm : Nat := 18446744073709551616
theorem gu : dm = 18446744073709551616 := rfl
theorem wz : 1 < dm := by rw [gu]; omega
def di : Nat := 4294967296
theorem fo : di = 4294967296 := rfl
theorem zx : 1 < di := by rw [fo]; omega

theorem pg {w w' : World} {b : Nat} (h : w.grownBy w' (some b)) (off : Nat) (u : Value) : w.grownBy (w'.setCell ⟨b, off, none⟩ u) (some b) :=
 ⟨h.os, h.tape, h.output, by simpa [World.setCell] using h.size, fun k hk hne => (Below.heap_setCell w' _ u k (by rintro rfl; exact hne rfl)).trans (h.block k hk hne)⟩
theorem aqb {w w' : World} {r : Option Nat} (h : w.grownBy w' r) : w.grownBy w'.drew r := ⟨h.os, h.tape, h.output, h.size, h.block⟩
theorem Qc {w w' : World} {r : Option Nat} (h : w.grownBy w' r) (n : Nat) : w.grownBy (w'.drewN n) r := ⟨h.os, h.tape, h.output, h.size, h.block⟩
theorem Dk (w : World) (r : Option Nat) : w.grownBy w r := ⟨rfl, rfl, rfl, Nat.le_refl _, fun _ _ _ => rfl⟩
theorem Us {a b c : World} {r : Option Nat} (h : a.grownBy b r) (k : b.grownBy c r) : a.grownBy c r :=
 ⟨k.os.trans h.os, k.tape.trans h.tape, k.output.trans h.output, Nat.le_trans h.size k.size, fun i hi hne => (k.block i (Nat.lt_of_lt_of_le hi h.size) hne).trans (h.block i hi hne)⟩
theorem Ws.grown {k : IntKind} {w w' : World} {B : Nat} {A : Option Addr} {l : List Nat} {row : Option Nat} (h : Ws k w B A l) (hg : w.grownBy w' row) (hB : B ≤ w.heap.size) (hr : ∀ g, row = some g → B ≤ g) : Ws k w' B A l :=
 h.keep fun p hp => World.cell?_of_block (hg.block p.block om (fun e => by have := hr _ e.symm; omega))
end Go.Proofs.YtpjgoogeokbaaaaGreatDoor
namespace Go.Proofs.YtpjgoogeokbaaaaGreatDoor
open Go.RowKit

structure nz (w : World) (A : Option Addr) (cap : Nat) (l : List Nat) (n : Nat) : Prop where
 ws : Ws .u64 w w.heap.size A l
 uk : l.length ≤ cap
 cap2 : cap ≤ 9223372036854775807
 lt : ∀ x ∈ l, x < dm
 norm : Wd.Norm l
 val : Wd.val dm l = n

theorem nz.below {w w' : World} {A : Option Addr} {cap : Nat} {l : List Nat} {n : Nat} (h : nz w A cap l n) (hb : Below w.heap.size w w') : nz w' A cap l n :=
 ⟨(h.ws.below hb).more hb.size, h.uk, h.cap2, h.lt, h.norm, h.val⟩
theorem nz.len {w : World} {A : Option Addr} {cap : Nat} {l : List Nat} {n k : Nat} (h : nz w A cap l n) (hn : n < dm ^ k) : l.length ≤ k :=
 Wd.Xl wz l h.norm k (by rw [h.val]; exact hn)
theorem nz.Qa (w : World) (cap : Nat) (hc : cap ≤ 9223372036854775807) : nz w none cap [] 0 := ⟨Ws.Qa, by simp, hc, by simp, .inl rfl, rfl⟩
theorem nz.Mk {w : World} {A : Option Addr} {cap : Nat} {l : List Nat} {n : Nat} (h : nz w A cap l n) : n < dm ^ l.length := by
 rw [← h.val]; exact Wd.Cy l h.lt

theorem Gh {A : Option Addr} {cap k n : Nat} (h : k = n) : Ending.returned (.slice A k cap) = .returned (.slice A n cap) := by rw [h]
theorem xh {k : IntKind} {a b : Int} (h : a = b) : Ending.returned (.int k a) = .returned (.int k b) := by rw [h]

def Gs (w : World) (n : Nat) (e : Ending) (w' : World) : Prop := ∃ A cap l, e = .returned (.slice A l.length cap) ∧ nz w' A cap l n ∧ Below w.heap.size w w'

theorem nz.Dt {w : World} {b cap : Nat} {T : TypeId} {zs : List Nat} {k : Nat} (hz : ZB .u64 w b T zs) (hlt : ∀ x ∈ zs, x < dm) (ht : Wd.Ic zs (zs.take k)) (hk : k ≤ zs.length) (hc : zs.length ≤ cap) (hc2 : cap ≤ 9223372036854775807) :
  nz w (some ⟨b, 0, none⟩) cap (zs.take k) (Wd.val dm zs) :=
 ⟨(hz.Fx _ hz.lt).Pn k, by simp; omega, hc2, fun x hx => hlt x (List.mem_of_mem_take hx), ht.norm, ht.val _⟩

theorem bdr (n i : Nat) : Wd.g (List.replicate n 0) i = 0 := by
 simp only [Wd.g, List.getD, List.getElem?_replicate]
 split <;> rfl
theorem Nf (n i : Nat) : (List.replicate n 0).getD i 0 = 0 := bdr n i
theorem Ld {B : Nat} (hB : 0 < B) (n : Nat) : ∀ x ∈ List.replicate n 0, x < B := fun x hx => by rw [List.eq_of_mem_replicate hx]; exact hB

theorem Km (k : IntKind) (n : Nat) : madeCells (Value.int k 0).cells (n * 1) = xu k (List.replicate n 0) := by
 apply Array.ext'
 simp only [xu, Nat.mul_one]
 apply List.ext_getElem
 ·
  simp [madeCells]
 ·
  intro i h1 h2
  simp [madeCells, Value.cells]
  exact Nat.mod_one i ▸ rfl
end Go.Proofs.YtpjgoogeokbaaaaGreatDoor
namespace Go.Proofs.YtpjgoogeokbaaaaGreatDoor
open Go.RowKit

def slen : Value → Nat
 | .slice _ n _ => n
 | _ => 0

set_option maxHeartbeats 400000 in
theorem Gp (A : Option Addr) (cap : Nat) (l : List Nat) (B : Nat) (w : World) (hr : Ws .u64 w B A l) (hcap : l.length ≤ cap) (hm : cap ≤ 9223372036854775807) :
  Calls Tryz.prog 174 #[.slice A l.length cap] w fun e w' => (∃ k, e = .returned (.slice A k cap) ∧ Wd.Ic l (l.take k) ∧ k ≤ l.length) ∧ w' = w := by
 go_enter Tryz.func174, Tryz.ntmps174
 go_wp2
 go_loop [0] (fun v => ∃ k : Nat, k ≤ l.length ∧ v = .slice A k cap ∧ ∀ i, k ≤ i → i < l.length → l.getD i 0 = 0) (fun v => slen v)
 case atStart => exact ⟨l.length, Nat.le_refl _, rfl, fun i h1 h2 => by omega⟩
 case round =>
  obtain ⟨k, hk, rfl, hz⟩ := hrel
  have HZ := Lib.hid hz
  clear hz
  by_cases h0 : k = 0
  ·
   subst h0
   go_wp2
   go_ret
   exact ⟨⟨0, rfl, ⟨0, Nat.zero_le _, rfl, HZ.out, .inl rfl⟩, Nat.zero_le _⟩, rfl⟩
  ·
   obtain ⟨b, off, rfl, hb, hc⟩ := hr om
   have hck := hc (k - 1) om
   clear hc
   go_wp2
   ·
    have ht : (((Wd.g l (k - 1) : Nat) : Int) == 0) = true := by assumption
    go_round
    case rel =>
     refine ⟨k - 1, by omega, rfl, fun i h1 h2 => ?_⟩
     by_cases hi : i = k - 1
     ·
      subst hi; have := beq_iff_eq.1 ht; rw [Wd.ry] at this; omega
     ·
      exact HZ.out i om h2
    case measure => simp [slen]; omega
   ·
    have ht : (((Wd.g l (k - 1) : Nat) : Int) == 0) = false := by assumption
    go_ret
    refine ⟨⟨k, rfl, ⟨k, hk, rfl, HZ.out, .inr ?_⟩, hk⟩, rfl⟩
    have := beq_eq_false_iff_ne.1 ht; rw [Wd.ry] at this; omega

set_option maxHeartbeats 400000 in
theorem Po (b : Bool) (w : World) : Calls Tryz.prog 165 #[.bool b] w fun e w' => e = .returned (.int .i64 (if b = true then -1 else 1)) ∧ w' = w := by
 cases b
 all_goals
  go_enter Tryz.func165, Tryz.ntmps165
  go_wp2
  go_ret
  exact ⟨rfl, rfl⟩

set_option maxHeartbeats 400000 in
theorem Lh (A : Option Addr) (cap : Nat) (l : List Nat) (B : Nat) (i : Nat) (w : World) (hr : Ws .u64 w B A l) (hcap : l.length ≤ cap) (hm : cap ≤ 9223372036854775807) (hi : i ≤ 9223372036854775807) :
  Calls Tryz.prog 171 #[.slice A l.length cap, .int .i64 i] w fun e w' => e = .returned (.int .u64 ((Wd.g l i : Nat) : Int)) ∧ w' = w := by
 by_cases h : i < l.length
 ·
  obtain ⟨b, off, rfl, hb, hc⟩ := hr om
  have hci := hc i h
  clear hc
  go_enter Tryz.func171, Tryz.ntmps171
  go_wp2
  go_ret
  exact ⟨rfl, rfl⟩
 ·
  have e : Wd.g l i = 0 := by simp [Wd.g, List.getD, List.getElem?_eq_none (by omega : l.length ≤ i)]
  rw [e]
  clear e
  go_enter Tryz.func171, Tryz.ntmps171
  go_wp2
  go_ret
  exact ⟨rfl, rfl⟩

end Go.Proofs.YtpjgoogeokbaaaaGreatDoor
namespace Go.Proofs.YtpjgoogeokbaaaaGreatDoor
open Go.RowKit
theorem bjg : (Tryz.prog.info? 116).map (fun i => (i.zero, i.size, i.bytes)) = some (some (.int .u64 0), 1, 8) := by kernel_rfl
theorem Mj (n : Nat) (h : n ≤ 35184372088832) (w : World) : (Instr.makeSlice 59 (.int .i64 (n : Int)) (.int .i64 (n : Int))).run Tryz.prog w =
  .ok (.slice (some ⟨w.heap.size, 0, none⟩) n n) (w.alloc (.cells (xu .u64 (List.replicate n 0)) 116)) := by
 obtain ⟨i0, hi, hz0, hz1, hz2⟩ := info_parts bjg
 have hr := run_make (P := Tryz.prog) w 59 116 i0 (.int .u64 0) Tryz.underlying59 hi hz0 .i64 .i64 n n om (Int.le_refl _) (by rw [hz2]; omega) om
 simp only [Int.toNat_natCast] at hr
 rw [hr, hz1, Km]
end Go.Proofs.YtpjgoogeokbaaaaGreatDoor
namespace Go.Proofs.YtpjgoogeokbaaaaGreatDoor
open Go.RowKit

namespace Wd
end Wd
theorem Ng (s : ByteArray) : s.data.toList.length = s.size := Array.length_toList
end Go.Proofs.YtpjgoogeokbaaaaGreatDoor
namespace Go.Proofs.YtpjgoogeokbaaaaGreatDoor
open Go.RowKit

theorem atp {P : Program} {f : FuncId} {args : Array Value} {w : World} {a n : Nat} {v : Value}
  (h : Calls P f args (w.drewN (a + n)) fun e w' => e = .returned v ∧ ∃ m, w' = (w.drewN (a + n)).drewN m) :
  Calls P f args (w.drewN (a + n)) fun e w'' => e = .returned v ∧ ∃ m, w'' = w.drewN (a + m) :=
 h.mono fun _ _ ⟨he, m, hm⟩ => ⟨he, n + m, by rw [hm, World.drewN_drewN, Nat.add_assoc]⟩
theorem bcx (x y c : Nat) (hc : c ≤ 1) (w : World) : (callFunc 173 #[.int .u64 (x : Int), .int .u64 (y : Int), .int .u64 (c : Int)]).run Tryz.prog w =
  .ok (.value (.tuple #[.int .u64 (((x + y + c) % dm : Nat) : Int), .int .u64 (((x + y + c) / dm : Nat) : Int)])) w := by
 rw [run_callFunc_extern Tryz.func173 kr kr kr (e := add64Entry) kr, run_add64 x y c om om om om]
 simp only [Result.andThen]
 rw [gu]
 congr 5 <;> omega

theorem bbn (x y b : Nat) (hb : b ≤ 1) (w : World) : (callFunc 187 #[.int .u64 (x : Int), .int .u64 (y : Int), .int .u64 (b : Int)]).run Tryz.prog w =
  .ok (.value (.tuple #[.int .u64 (((x + dm - y - b) % dm : Nat) : Int), .int .u64 ((if x < y + b then 1 else 0 : Nat) : Int)])) w := by
 rw [run_callFunc_extern Tryz.func187 kr kr kr (e := sub64Entry) kr, run_sub64 x y b hb]
 rfl

structure ard (B : Nat) (zl yl zr : List Nat) (c : Nat) : Prop where
 len : zr.length = zl.length
 lt : ∀ x ∈ zr, x < B
 eq : Wd.val B zr + B ^ zl.length * c = Wd.val B zl + Wd.val B yl
 c1 : c ≤ 1

set_option maxHeartbeats 1000000 in
theorem Qd (b off cap T : Nat) (us zl yl : List Nat) (Ay : Option Addr) (aqj : Nat) (B : Nat) (w : World)
  (hz : ZB .u64 w b T us) (hoff : off + zl.length ≤ us.length) (hzl : zl = (us.drop off).take zl.length) (hcz : zl.length ≤ cap) (ajw : cap ≤ 9223372036854775807)
  (hy : Ws .u64 w B Ay yl) (hB : B ≤ b) (hcy : yl.length ≤ aqj) (buk : aqj ≤ 9223372036854775807) (hyz : yl.length ≤ zl.length)
  (hlz : ∀ x ∈ zl, x < dm) (hly : ∀ x ∈ yl, x < dm) :
  Calls Tryz.prog 186 #[.slice (some ⟨b, off, none⟩) zl.length cap, .slice Ay yl.length aqj] w fun e w' =>
   ∃ zr c, e = .returned (.int .u64 ((c : Nat) : Int)) ∧ ard dm zl yl zr c ∧ ZB .u64 w' b T (win us off zr) ∧ w.grownBy w' (some b) := by
 have HZ := Lib.hid hzl
 clear hzl
 go_enter Tryz.func186, Tryz.ntmps186
 go_wp2
 go_loopw [5, 9] (fun cv iv wr => ∃ (i c : Nat) (zc : List Nat), i ≤ zl.length ∧ cv = .int .u64 ((c : Nat) : Int) ∧ iv = .int .i64 ((i : Nat) : Int) ∧ Wd.Dz dm zl yl zc i c ∧ ZB .u64 wr b T (win us off zc) ∧ w.grownBy wr (some b)) (fun _ iv _ => zl.length - (intOf iv).toNat)
 case atStart => exact ⟨0, 0, zl, Nat.zero_le _, rfl, rfl, Wd.Dz.start _ _ hlz, by rw [HZ.out, Lf _ _ _ hoff]; exact hz, Dk _ _⟩
 case round =>
  obtain ⟨i, c, zc, hi, rfl, rfl, hinv, oo, hg⟩ := hrel
  have hlen := hinv.len
  have hc1 := hinv.c1
  have HI := Lib.hid hinv
  clear hinv
  by_cases hlt : i < zl.length
  ·
   by_cases hst : yl.length ≤ i ∧ c = 0
   ·
    obtain ⟨hst, rfl⟩ := hst
    have b1 : decide ((yl.length : Int) ≤ (i : Int)) = true := by simp; omega
    go_wp2
    go_ret
    exact ⟨zc, 0, rfl, ⟨hlen, HI.out.lt, by rw [HI.out.stop hst]; simp, by omega⟩, oo, hg⟩
   ·
    have hwl := win_length us off zc om
    have hzc := oo.cell (off + i) om
    rw [Lr us off zc om i om] at hzc
    have Oh := oo.frozen (off + i)
    have hyr : Ws .u64 wr B Ay yl := hy.grown hg (Nat.le_trans hB (Nat.le_of_lt hz.lt)) (fun g e => by injection e with e; omega)
    obtain ⟨zi, hzi⟩ : ∃ zi, zi = Wd.g zc i := ⟨_, rfl⟩
    obtain ⟨yi, hyi⟩ : ∃ yi, yi = Wd.g yl i := ⟨_, rfl⟩
    obtain ⟨s, hs⟩ : ∃ s, s = (zi + yi + c) % dm := ⟨_, rfl⟩
    obtain ⟨q, hq⟩ : ∃ q, q = (zi + yi + c) / dm := ⟨_, rfl⟩
    have hadd := bcx zi yi c hc1
    rw [← hzi] at hzc
    rw [← hs, ← hq] at hadd
    have HS := Lib.hid hs
    have HQ := Lib.hid hq
    have HZI := Lib.hid hzi
    have HYI := Lib.hid hyi
    clear hs hq hzi hyi
    have hfin : ∀ W, W = wr.drew.setCell ⟨b, off + i, none⟩ (.int .u64 (s : Int)) → Wd.Dz dm zl yl (zc.set i s) (i + 1) q ∧ ZB .u64 W b T (win us off (zc.set i s)) ∧ w.grownBy W (some b) := by
     rintro W rfl
     refine ⟨?_, ?_, pg (aqb hg) _ _⟩
     ·
      have := HI.out.step wz hly hlt
      rw [HS.out, HQ.out, HZI.out, HYI.out]
      exact this
     ·
      rw [← Ih us off zc om i s om]
      exact (oo.drew).Ei _ _
    have HF := hide hfin
    clear hfin oo hg
    have hcase : (i < yl.length) ∨ (((c : Int) == 0) = false ∧ yl.length ≤ i) := by
     rcases Nat.lt_or_ge i yl.length with h | h
     ·
      exact .inl h
     ·
      exact .inr ⟨by simp; omega, h⟩
    rcases hcase with h | ⟨b2, h⟩
    all_goals
     go_wp2_with fail
     go_region_with (go_at_call 171; refine (Lh Ay aqj yl B i _ (by exact hyr) hcy buk (by omega)).mono ?_; rintro e w' ⟨rfl, rfl⟩; rw [← HYI.out])
     all_goals
      go_wp2
      go_roundw
      case rel =>
       obtain ⟨r1, r2, r3⟩ := (aa HF) _ rfl
       exact ⟨i + 1, q, zc.set i s, by omega, rfl, by go_num, r1, r2, r3⟩
      case measure => simp [intOf]; omega
  ·
   have e : i = zl.length := by omega
   subst e
   go_wp2
   go_ret
   exact ⟨zc, c, rfl, ⟨hlen, HI.out.lt, HI.out.done hyz, hc1⟩, oo, hg⟩
end Go.Proofs.YtpjgoogeokbaaaaGreatDoor
namespace Go.Proofs.YtpjgoogeokbaaaaGreatDoor
open Go.RowKit

set_option maxHeartbeats 1000000 in
theorem Uh (x y : Nat) (hx : x < dm) (hy : y < dm) (w : World) :
  Calls Tryz.prog 151 #[.int .u64 ((x : Nat) : Int), .int .u64 ((y : Nat) : Int)] w fun e w' => e = .returned (.tuple #[.int .u64 ((x * y / dm : Nat) : Int), .int .u64 ((x * y % dm : Nat) : Int)]) ∧ w' = w := by
 rw [gu] at *
 obtain ⟨bd, bt, bw, hhi⟩ := Lib.mul64_hi x y hx hy
 have ba := Lib.half_mul_le (a := x / 4294967296) (b := y / 4294967296) om om
 have bb := Lib.half_mul_le (a := x / 4294967296) (b := y % 4294967296) om om
 have bc := Lib.half_mul_le (a := x % 4294967296) (b := y / 4294967296) om om
 have ba' : x / 4294967296 * (y / 4294967296) < 18446744073709551616 := by omega
 have bb' : x / 4294967296 * (y % 4294967296) < 18446744073709551616 := by omega
 have bc' : x % 4294967296 * (y / 4294967296) < 18446744073709551616 := by omega
 have bh1 : x / 4294967296 * (y / 4294967296) + (x / 4294967296 * (y % 4294967296) + x % 4294967296 * (y % 4294967296) / 4294967296) / 4294967296 < 18446744073709551616 := by omega
 have bh : x / 4294967296 * (y / 4294967296) + (x / 4294967296 * (y % 4294967296) + x % 4294967296 * (y % 4294967296) / 4294967296) / 4294967296 + ((x / 4294967296 * (y % 4294967296) + x % 4294967296 * (y % 4294967296) / 4294967296) % 4294967296 + x % 4294967296 * (y / 4294967296)) / 4294967296 < 18446744073709551616 := by omega
 go_enter Tryz.func151, Tryz.ntmps151
 go_wp2
 simp only [Mul64.maskN x hx, Mul64.maskN y hy, Mul64.divN, Mul64.mulN, Mul64.addN, Mul64.wrapN _ bd, Mul64.wrapN _ bb', Mul64.wrapN _ bt, Mul64.maskN _ bt, Mul64.wrapN _ bc', Mul64.wrapN _ bw, Mul64.wrapN _ ba', Mul64.wrapN _ bh1, Mul64.wrapN _ bh, Mul64.wrapM (x * y)]
 rw [hhi]
 go_ret2
 exact ⟨rfl, rfl⟩


theorem adv (x y : Nat) (w : World) : (callFunc 173 #[.int .u64 (x : Int), .int .u64 (y : Int), .int .u64 0]).run Tryz.prog w =
  .ok (.value (.tuple #[.int .u64 (((x + y) % dm : Nat) : Int), .int .u64 (((x + y) / dm : Nat) : Int)])) w := bcx x y 0 om w

theorem aox {p c z hi lo s1 q1 h1 s2 q2 r : Nat} (hp : p + c + z < dm * dm) (hhi : hi = p / dm) (hlo : lo = p % dm) (hs1 : s1 = (lo + c) % dm) (hq1 : q1 = (lo + c) / dm) (Uo : h1 = hi + q1)
  (hs2 : s2 = (z + s1) % dm) (hq2 : q2 = (z + s1) / dm) (hr : r = h1 + q2) : s2 = (p + c + z) % dm ∧ r = (p + c + z) / dm ∧ hi + q1 < dm ∧ h1 + q2 < dm := by
 rw [gu] at *
 omega

theorem Sa {a b c : Nat} (h : c = a + b) (hc : c < dm) : IntKind.u64.wrap ((a : Int) + (b : Int)) = ((c : Nat) : Int) := by
 rw [IntKind.wrap_u64, h]; rw [gu] at hc; omega

set_option maxHeartbeats 2000000 in
theorem adj (Ax Ay : Option Addr) (cx cy : Nat) (xl yl : List Nat) (n m : Nat) (w : World) (hx : nz w Ax cx xl n) (hy : nz w Ay cy yl m) (hk : xl.length + yl.length ≤ 35184372088832) :
  Calls Tryz.prog 154 #[.slice Ax xl.length cx, .slice Ay yl.length cy] w fun e w' => Gs w (n * m) e w' := by
 have hmk := Mj (xl.length + yl.length) hk
 simp only [Int.natCast_add] at hmk
 have hx1 := hx.uk; have hx2 := hx.cap2; have hy1 := hy.uk; have hy2 := hy.cap2
 go_enter Tryz.func154, Tryz.ntmps154
 go_wp2
 go_loopw [22] (fun iv wr => ∃ (i : Nat) (zr : List Nat), i ≤ xl.length ∧ iv = .int .i64 ((i : Nat) : Int) ∧ Wd.Ia dm xl yl zr i ∧ ZB .u64 wr w.heap.size 116 zr ∧ Below w.heap.size w wr) (fun iv _ => xl.length - (intOf iv).toNat)
 case atStart => exact ⟨0, List.replicate (xl.length + yl.length) 0, Nat.zero_le _, rfl, Wd.Ia.start _ _ _ (by rw [gu]; omega) (by simp) (Nf _), heap_alloc_new w _, (Below.refl _ _).alloc (Nat.le_refl _) _⟩
 case round =>
  obtain ⟨i, zr, hi, rfl, hinv, oo, hg⟩ := hrel
  obtain ⟨wo, rfl⟩ : ∃ wo : World, wo = wr := ⟨_, rfl⟩
  have hlen := hinv.len
  have HI := Lib.hid hinv
  clear hinv
  by_cases hlt : i < xl.length
  ·
   obtain ⟨bx, ox, rfl, hbx, hcx⟩ := hx.ws om
   have Fs := (hg.cell (p := ⟨bx, ox + i, none⟩) hbx).trans (hcx i hlt)
   clear hcx
   obtain ⟨xi, hxi⟩ : ∃ xi, xi = Wd.g xl i := ⟨_, rfl⟩
   rw [← hxi] at Fs
   have zo : xi < dm := by rw [hxi]; exact Wd.getD_lt (by rw [gu]; omega) _ hx.lt i
   have HXI := Lib.hid hxi
   have HXB := hide zo
   clear hxi zo
   go_wp2_with fail
   go_loopw [8, 29] (fun cv jv wr => ∃ (j c : Nat) (zc : List Nat), j ≤ yl.length ∧ cv = .int .u64 ((c : Nat) : Int) ∧ jv = .int .i64 ((j : Nat) : Int) ∧ Wd.Gv dm zr yl zc i (Wd.g xl i) j c ∧ ZB .u64 wr w.heap.size 116 zc ∧ Below w.heap.size w wr) (fun _ jv _ => yl.length - (intOf jv).toNat)
   case atStart => exact ⟨0, 0, zr, Nat.zero_le _, rfl, rfl, Wd.Gv.start _ _ _ _ (by rw [gu]; omega) HI.out.lt, oo, hg⟩
   case round =>
    obtain ⟨j, c, zc, hj, rfl, rfl, Tg, hzc, hgc⟩ := hrel
    have Ti := Tg.len
    have HM := Lib.hid Tg
    clear Tg
    by_cases hjl : j < yl.length
    ·
     obtain ⟨by', oy, rfl, hby, hcy⟩ := hy.ws om
     have Oj := (hgc.cell (p := ⟨by', oy + j, none⟩) hby).trans (hcy j hjl)
     clear hcy
     have Ul := hzc.cell (i + j) om
     have Oh := hzc.frozen (i + j)
     obtain ⟨yj, hyj⟩ : ∃ yj, yj = Wd.g yl j := ⟨_, rfl⟩
     obtain ⟨z, hz⟩ : ∃ z, z = Wd.g zc (i + j) := ⟨_, rfl⟩
     rw [← hyj] at Oj
     rw [← hz] at Ul
     have Df : yj < dm := by rw [hyj]; exact Wd.getD_lt (by rw [gu]; omega) _ hy.lt j
     have Iq : z < dm := by rw [hz]; exact Wd.getD_lt (by rw [gu]; omega) _ HM.out.lt _
     obtain ⟨hi', hhi⟩ : ∃ t, t = xi * yj / dm := ⟨_, rfl⟩
     obtain ⟨lo, hlo⟩ : ∃ t, t = xi * yj % dm := ⟨_, rfl⟩
     obtain ⟨s1, hs1⟩ : ∃ t, t = (lo + c) % dm := ⟨_, rfl⟩
     obtain ⟨q1, hq1⟩ : ∃ t, t = (lo + c) / dm := ⟨_, rfl⟩
     obtain ⟨h1, Uo⟩ : ∃ t, t = hi' + q1 := ⟨_, rfl⟩
     obtain ⟨s2, hs2⟩ : ∃ t, t = (z + s1) % dm := ⟨_, rfl⟩
     obtain ⟨q2, hq2⟩ : ∃ t, t = (z + s1) / dm := ⟨_, rfl⟩
     obtain ⟨r, hr⟩ : ∃ t, t = h1 + q2 := ⟨_, rfl⟩
     obtain ⟨e1, e2, e3, e4⟩ := aox (Wd.Mi (aa HXB) Df HM.out.c1 Iq) hhi hlo hs1 hq1 Uo hs2 hq2 hr
     have ha1 := adv lo c
     rw [← hs1, ← hq1] at ha1
     have ha2 := adv z s1
     rw [← hs2, ← hq2] at ha2
     have hw1 := Sa Uo (by rw [Uo]; exact e3)
     have hw2 := Sa hr (by rw [hr]; exact e4)
     have hmul := Uh xi yj (aa HXB) Df
     rw [← hhi, ← hlo] at hmul
     have bbj := hide hmul
     have hfin : ∀ W, W = wr.setCell ⟨w.heap.size, i + j, none⟩ (.int .u64 (s2 : Int)) → Wd.Gv dm zr yl (zc.set (i + j) s2) i (Wd.g xl i) (j + 1) r ∧ ZB .u64 W w.heap.size 116 (zc.set (i + j) s2) ∧ Below w.heap.size w W := by
      rintro W rfl
      refine ⟨?_, hzc.Ei _ _, hgc.setCell (by simp) _⟩
      have := HM.out.step wz (by rw [← HXI.out]; exact aa HXB) hy.lt om
      rw [e1, e2, HXI.out, hyj, hz]
      exact this
     have HF := hide hfin
     clear hfin hmul hhi hlo hs1 hq1 Uo hs2 hq2 hr e1 e2 e3 e4 hyj hz Df Iq hzc hgc oo hg hlen Ti
     go_wp2_with fail
     refine ((aa bbj) _).mono ?_
     rintro e w' ⟨rfl, rfl⟩
     go_wp2_with fail
     go_roundw
     case rel =>
      obtain ⟨r1, r2, r3⟩ := (aa HF) _ rfl
      exact ⟨j + 1, r, zc.set (i + j) s2, by omega, rfl, by go_num, r1, r2, r3⟩
     case measure => simp [intOf]; omega
    ·
     have e : j = yl.length := by omega
     subst e
     have Ul := hzc.cell (i + yl.length) om
     have Oh := hzc.frozen (i + yl.length)
     have hrow := HI.out.step hlt HM.out
     have HR := Lib.hid hrow
     clear hrow
     have hfin : ∀ W, W = wr.setCell ⟨w.heap.size, i + yl.length, none⟩ (.int .u64 (c : Int)) → ZB .u64 W w.heap.size 116 (zc.set (i + yl.length) c) ∧ Below w.heap.size w W := by
      rintro W rfl
      exact ⟨hzc.Ei _ _, hgc.setCell (by simp) _⟩
     have HF := hide hfin
     clear hfin hzc hgc oo hg hlen Ti
     go_wp2_with fail
     go_roundw
     case rel =>
      obtain ⟨r2, r3⟩ := (aa HF) _ rfl
      exact ⟨i + 1, zc.set (i + yl.length) c, by omega, by go_num, HR.out, r2, r3⟩
     case measure => simp [intOf]; omega
  ·
   have e : i = xl.length := by omega
   subst e
   have hlt2 := HI.out.lt
   have hv := HI.out.done
   rw [hx.val, hy.val] at hv
   have HV := Lib.hid hv
   have Jk := hide hlt2
   clear hv hlt2
   go_wp2_with fail
   have htr := Gp (some ⟨w.heap.size, 0, none⟩) zr.length zr (wo.heap.size) wo (oo.Fx _ oo.lt) (Nat.le_refl _) om
   rw [hlen] at htr
   refine htr.mono ?_
   rintro e w' ⟨⟨k, rfl, ht, hk2⟩, rfl⟩
   go_wp2_with fail
   go_ret
   have hk3 : k = (zr.take k).length := by simp; omega
   refine ⟨some ⟨w.heap.size, 0, none⟩, xl.length + yl.length, zr.take k, Gh hk3, ?_, hg⟩
   have := nz.Dt (cap := xl.length + yl.length) oo (aa Jk) ht om om om
   rwa [HV.out] at this
end Go.Proofs.YtpjgoogeokbaaaaGreatDoor
namespace Go.Proofs.YtpjgoogeokbaaaaGreatDoor
open Go.RowKit

theorem ahy {x y b d c : Nat} (hx : x < dm) (hy : y < dm) (hb : b ≤ 1) (hd : d = (x + dm - y - b) % dm) (hc : c = if x < y + b then 1 else 0) :
  d < dm ∧ c ≤ 1 ∧ d + y + b = x + dm * c := by
 rw [gu] at *
 split at hc <;> subst hc <;> omega

set_option maxHeartbeats 1000000 in
theorem Vi (Ax Ay : Option Addr) (cx cy : Nat) (xl yl : List Nat) (n m : Nat) (w : World) (hx : nz w Ax cx xl n) (hy : nz w Ay cy yl m) (hle : m ≤ n) (hk : xl.length ≤ 35184372088832) :
  Calls Tryz.prog 164 #[.slice Ax xl.length cx, .slice Ay yl.length cy] w fun e w' => Gs w (n - m) e w' := by
 have hmk := Mj xl.length hk
 have hyx : yl.length ≤ xl.length := by
  apply Classical.byContradiction
  intro h
  have := Wd.Ap wz xl yl hx.lt hy.norm om
  rw [hx.val, hy.val] at this
  omega
 go_enter Tryz.func164, Tryz.ntmps164
 go_wp2
 go_loopw [6, 13] (fun bv iv wr => ∃ (i c : Nat) (zc : List Nat), i ≤ xl.length ∧ bv = .int .u64 ((c : Nat) : Int) ∧ iv = .int .i64 ((i : Nat) : Int) ∧ Wd.Gu dm xl yl zc i c ∧ ZB .u64 wr w.heap.size 116 zc ∧ Below w.heap.size w wr) (fun _ iv _ => xl.length - (intOf iv).toNat)
 case atStart => exact ⟨0, 0, List.replicate xl.length 0, Nat.zero_le _, rfl, rfl, Wd.Gu.start _ _ _ (by simp) (Ld (by rw [gu]; omega) _), heap_alloc_new w _, (Below.refl _ _).alloc (Nat.le_refl _) _⟩
 case round =>
  obtain ⟨i, c, zc, hi, rfl, rfl, hinv, oo, hg⟩ := hrel
  have hlen := hinv.len
  have hc1 := hinv.b1
  have HI := Lib.hid hinv
  clear hinv
  by_cases hlt : i < xl.length
  ·
   obtain ⟨bx, ox, rfl, hbx, hcx⟩ := hx.ws om
   have Fs := (hg.cell (p := ⟨bx, ox + i, none⟩) hbx).trans (hcx i hlt)
   clear hcx
   have hzc := oo.cell i om
   have Oh := oo.frozen i
   have hyr : nz wr Ay cy yl m := hy.below hg
   have bul := hx.cap2
   have bum := hx.uk
   obtain ⟨xi, hxi⟩ : ∃ xi, xi = Wd.g xl i := ⟨_, rfl⟩
   obtain ⟨yi, hyi⟩ : ∃ yi, yi = Wd.g yl i := ⟨_, rfl⟩
   obtain ⟨d, hd⟩ : ∃ d, d = (xi + dm - yi - c) % dm := ⟨_, rfl⟩
   obtain ⟨q, hq⟩ : ∃ q, q = if xi < yi + c then 1 else 0 := ⟨_, rfl⟩
   have hsub := bbn xi yi c hc1
   rw [← hxi] at Fs
   rw [← hd, ← hq] at hsub
   have hfin : ∀ W, W = wr.drew.setCell ⟨w.heap.size, i, none⟩ (.int .u64 (d : Int)) → Wd.Gu dm xl yl (zc.set i d) (i + 1) q ∧ ZB .u64 W w.heap.size 116 (zc.set i d) ∧ Below w.heap.size w W := by
    rintro W rfl
    obtain ⟨e1, e2, e3⟩ := ahy (by rw [hxi]; exact Wd.getD_lt (by rw [gu]; omega) _ hx.lt i) (by rw [hyi]; exact Wd.getD_lt (by rw [gu]; omega) _ hy.lt i) hc1 hd hq
    rw [hxi, hyi] at e3
    exact ⟨HI.out.step hlt e1 e2 e3, (oo.drew).Ei _ _, hg.drew.setCell (by simp) _⟩
   have HF := hide hfin
   have HYI := Lib.hid hyi
   clear hfin oo hg hd hq hxi hyi
   go_wp2_with fail
   go_region_with (go_at_call 171; refine (Lh Ay cy yl wr.heap.size i _ (by exact hyr.ws) hyr.uk hyr.cap2 om).mono ?_; rintro e w' ⟨rfl, rfl⟩; rw [← HYI.out])
   all_goals
    go_wp2
    go_roundw
    case rel =>
     obtain ⟨r1, r2, r3⟩ := (aa HF) _ rfl
     exact ⟨i + 1, q, zc.set i d, by omega, rfl, by go_num, r1, r2, r3⟩
    case measure => simp [intOf]; omega
  ·
   have e : i = xl.length := by omega
   subst e
   have hlt2 := HI.out.lt
   have hv := HI.out.bhg hyx (by rw [hx.val, hy.val]; exact hle)
   rw [hx.val, hy.val] at hv
   have HV := Lib.hid hv
   have Jk := hide hlt2
   clear hv hlt2
   have bul := hx.cap2
   have bum := hx.uk
   go_wp2_with fail
   have htr := Gp (some ⟨w.heap.size, 0, none⟩) zc.length zc (wr.heap.size) wr (oo.Fx _ oo.lt) (Nat.le_refl _) om
   rw [hlen] at htr
   refine htr.mono ?_
   rintro e w' ⟨⟨k, rfl, ht, hk2⟩, rfl⟩
   go_wp2_with fail
   go_ret
   have hk3 : k = (zc.take k).length := by simp; omega
   refine ⟨some ⟨w.heap.size, 0, none⟩, xl.length, zc.take k, Gh hk3, ?_, hg⟩
   have := nz.Dt (cap := xl.length) oo (aa Jk) ht om om om
   rwa [HV.out] at this
end Go.Proofs.YtpjgoogeokbaaaaGreatDoor
namespace Go.Proofs.YtpjgoogeokbaaaaGreatDoor
open Go.RowKit

theorem amg (x y : Nat) (w : World) : (callFunc 187 #[.int .u64 (x : Int), .int .u64 (y : Int), .int .u64 0]).run Tryz.prog w =
  .ok (.value (.tuple #[.int .u64 (((x + dm - y - 0) % dm : Nat) : Int), .int .u64 ((if x < y + 0 then 1 else 0 : Nat) : Int)])) w := bbn x y 0 om w

theorem asw {p c z hi lo s1 q1 h1 d b r : Nat} (hp : p + c < dm * dm) (hz : z < dm) (hhi : hi = p / dm) (hlo : lo = p % dm) (hs1 : s1 = (lo + c) % dm) (hq1 : q1 = (lo + c) / dm) (Uo : h1 = hi + q1)
  (hd : d = (z + dm - s1 - 0) % dm) (hb : b = if z < s1 + 0 then 1 else 0) (hr : r = h1 + b) (hpb : p ≤ (dm - 1) * (dm - 1)) (hc : c < dm) :
  d < dm ∧ hi + q1 < dm ∧ h1 + b < dm ∧ p + c = h1 * dm + s1 ∧ d + s1 = z + dm * b := by
 rw [gu] at *
 split at hb <;> subst hb <;> omega

theorem bgn {a b B : Nat} (ha : a < B) (hb : b < B) : a * b ≤ (B - 1) * (B - 1) := Nat.mul_le_mul om om

set_option maxHeartbeats 2000000 in
theorem acy (b off cap T : Nat) (us ul vl : List Nat) (Av : Option Addr) (cv : Nat) (B : Nat) (k : Nat) (w : World)
  (hz : ZB .u64 w b T us) (hoff : off + ul.length ≤ us.length) (Mr : ul = (us.drop off).take ul.length) (hcz : ul.length ≤ cap) (ajw : cap ≤ 9223372036854775807)
  (hv : Ws .u64 w B Av vl) (hB : B ≤ b) (hcv : vl.length ≤ cv) (apx : cv ≤ 9223372036854775807) (huv : ul.length = vl.length + 1)
  (hlu : ∀ x ∈ ul, x < dm) (hlv : ∀ x ∈ vl, x < dm) (hkB : k < dm) :
  Calls Tryz.prog 196 #[.slice (some ⟨b, off, none⟩) ul.length cap, .slice Av vl.length cv, .int .u64 ((k : Nat) : Int)] w fun e w' =>
   ∃ zr c, e = .returned (.bool (decide (c = 1))) ∧ zr.length = ul.length ∧ (∀ x ∈ zr, x < dm) ∧ Wd.val dm zr + k * Wd.val dm vl = Wd.val dm ul + dm ^ ul.length * c ∧ c ≤ 1 ∧ ZB .u64 w' b T (win us off zr) ∧ w.grownBy w' (some b) := by
 have HUL := Lib.hid Mr
 have Kv := Lib.hid huv
 have cfn : vl.length < ul.length := by omega
 clear Mr huv
 go_enter Tryz.func196, Tryz.ntmps196
 go_wp2
 go_loopw [7, 16] (fun cv iv wr => ∃ (i c : Nat) (zc : List Nat), i ≤ vl.length ∧ cv = .int .u64 ((c : Nat) : Int) ∧ iv = .int .i64 ((i : Nat) : Int) ∧ Hid (Wd.Eh dm ul vl zc k i c) ∧ ZB .u64 wr b T (win us off zc) ∧ w.grownBy wr (some b)) (fun _ iv _ => vl.length - (intOf iv).toNat)
 case atStart => exact ⟨0, 0, ul, Nat.zero_le _, rfl, rfl, Wd.Eh.start _ _ _ (by rw [gu]; omega) hlu, by rw [HUL.out, Lf _ _ _ hoff]; exact hz, Dk _ _⟩
 case round =>
  obtain ⟨i, c, zc, hi, rfl, rfl, HI, oo, hg⟩ := hrel
  have hlen := HI.out.len
  have hwl := win_length us off zc om
  have hBw := hz.lt
  by_cases hlt : i < vl.length
  ·
   obtain ⟨bv, ov, hA, hbv, bko⟩ := (hv.grown hg (Nat.le_trans hB (Nat.le_of_lt hBw)) (fun g e => by injection e with e; omega)) om
   subst hA
   have hvc := bko i hlt
   clear bko
   have hzc := oo.cell (off + i) om
   rw [Lr us off zc om i om] at hzc
   have Oh := oo.frozen (off + i)
   obtain ⟨vi, hvi⟩ : ∃ t, t = Wd.g vl i := ⟨_, rfl⟩
   obtain ⟨z, hz2⟩ : ∃ t, t = Wd.g zc i := ⟨_, rfl⟩
   rw [← hvi] at hvc
   rw [← hz2] at hzc
   have hvB : vi < dm := by rw [hvi]; exact Wd.getD_lt (by rw [gu]; omega) _ hlv i
   have Iq : z < dm := by rw [hz2]; exact Wd.getD_lt (by rw [gu]; omega) _ HI.out.lt _
   obtain ⟨hi', hhi⟩ : ∃ t, t = k * vi / dm := ⟨_, rfl⟩
   obtain ⟨lo, hlo⟩ : ∃ t, t = k * vi % dm := ⟨_, rfl⟩
   obtain ⟨s1, hs1⟩ : ∃ t, t = (lo + c) % dm := ⟨_, rfl⟩
   obtain ⟨q1, hq1⟩ : ∃ t, t = (lo + c) / dm := ⟨_, rfl⟩
   obtain ⟨h1, Uo⟩ : ∃ t, t = hi' + q1 := ⟨_, rfl⟩
   obtain ⟨d, hd⟩ : ∃ t, t = (z + dm - s1 - 0) % dm := ⟨_, rfl⟩
   obtain ⟨b2, hb2⟩ : ∃ t, t = if z < s1 + 0 then 1 else 0 := ⟨_, rfl⟩
   obtain ⟨r, hr⟩ : ∃ t, t = h1 + b2 := ⟨_, rfl⟩
   have hpl := bgn hkB hvB
   obtain ⟨e0, e1, e2, e3, e4⟩ := asw (by have := Wd.Mi hkB hvB HI.out.c1 Iq; omega) Iq hhi hlo hs1 hq1 Uo hd hb2 hr hpl HI.out.c1
   have ha1 := adv lo c
   rw [← hs1, ← hq1] at ha1
   have ha2 := amg z s1
   rw [← hd, ← hb2] at ha2
   have hw1 := Sa Uo (by rw [Uo]; exact e1)
   have hw2 := Sa hr (by rw [hr]; exact e2)
   have hmul := Uh k vi hkB hvB
   rw [← hhi, ← hlo] at hmul
   have bbj := hide hmul
   have hfin : ∀ W, W = wr.setCell ⟨b, off + i, none⟩ (.int .u64 (d : Int)) → Hid (Wd.Eh dm ul vl (zc.set i d) k (i + 1) r) ∧ ZB .u64 W b T (win us off (zc.set i d)) ∧ w.grownBy W (some b) := by
    rintro W rfl
    refine ⟨?_, ?_, pg hg _ _⟩
    ·
     rw [hr]
     refine HI.out.step (lo := s1) om e0 e2 ?_ ?_
     ·
      rw [← Wd.ry, ← hvi]; exact e3
     ·
      rw [← Wd.ry, ← hz2]; exact e4
    ·
     rw [← Ih us off zc om i d om]
     exact oo.Ei _ _
   have HF := hide hfin
   clear hfin hmul hhi hlo hs1 hq1 Uo hd hb2 hr e0 e1 e2 e3 e4 hvi hz2 hvB Iq oo hg hz hpl
   go_wp2_with fail
   refine ((aa bbj) _).mono ?_
   rintro e w' ⟨rfl, rfl⟩
   go_wp2_with fail
   go_roundw
   case rel =>
    obtain ⟨r1, r2, r3⟩ := (aa HF) _ rfl
    exact ⟨i + 1, r, zc.set i d, by omega, rfl, by go_num, r1, r2, r3⟩
   case measure => simp [intOf] <;> omega
  ·
   have e : i = vl.length := by omega
   subst e
   have hzc := oo.cell (off + vl.length) om
   rw [Lr us off zc om vl.length om] at hzc
   have Oh := oo.frozen (off + vl.length)
   obtain ⟨z, hz2⟩ : ∃ t, t = Wd.g zc vl.length := ⟨_, rfl⟩
   rw [← hz2] at hzc
   have Iq : z < dm := by rw [hz2]; exact Wd.getD_lt (by rw [gu]; omega) _ HI.out.lt _
   obtain ⟨d, hd⟩ : ∃ t, t = (z + dm - c - 0) % dm := ⟨_, rfl⟩
   obtain ⟨b2, hb2⟩ : ∃ t, t = if z < c + 0 then 1 else 0 := ⟨_, rfl⟩
   have ha2 := amg z c
   rw [← hd, ← hb2] at ha2
   obtain ⟨e0, e1, e2⟩ := ahy Iq HI.out.c1 (Nat.zero_le 1) hd hb2
   have hfin : ∀ W, W = wr.setCell ⟨b, off + vl.length, none⟩ (.int .u64 (d : Int)) → (zc.set vl.length d).length = ul.length ∧ (∀ x ∈ zc.set vl.length d, x < dm) ∧ Wd.val dm (zc.set vl.length d) + k * Wd.val dm vl = Wd.val dm ul + dm ^ ul.length * b2 ∧ b2 ≤ 1 ∧ ZB .u64 W b T (win us off (zc.set vl.length d)) ∧ w.grownBy W (some b) := by
    rintro W rfl
    refine ⟨by simp [hlen], Wd.Bv _ _ _ HI.out.lt e0, HI.out.done Kv.out (by rw [← Wd.ry, ← hz2]; omega), e1, ?_, pg hg _ _⟩
    rw [← Ih us off zc om _ d om]
    exact oo.Ei _ _
   have HF := hide hfin
   have hne : ((b2 : Int) != 0) = decide (b2 = 1) := by
    have : b2 = 0 ∨ b2 = 1 := by omega
    rcases this with h | h <;> rw [h] <;> rfl
   clear hfin hd hb2 e0 e1 e2 hz2 Iq oo hg hz
   have cfp : (ul.length : Int) - 1 = (vl.length : Int) := by have := Kv.out; omega
   go_wp2_with fail
   go_ret
   exact ⟨_, b2, rfl, (aa HF) _ rfl⟩
end Go.Proofs.YtpjgoogeokbaaaaGreatDoor
