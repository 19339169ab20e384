/- Texts beneath a law of layer 1. -/
import Derived.Test.YtfgeaakhlcaibaaGreatDoorDa14
import Derived.Laws.Concat
import Derived.Shelf.Strings.SplitCore
import Derived.Lib.SplitLaws
import Derived.OwnWalk
set_option maxRecDepth 100000
set_option maxHeartbeats 16000000
namespace Go.Proofs.YtfgeaakhlcaibaaGreatDoor
namespace Wd

def cutAt (c : UInt8) : List UInt8 → Option (List UInt8 × List UInt8)
 | [] => none
 | x :: l => if x = c then some ([], l) else (cutAt c l).map fun p => (x :: p.1, p.2)
theorem Kq (c : UInt8) : ∀ (a b : List UInt8), c ∉ a → cutAt c (a ++ c :: b) = some (a, b)
 | [], b, _ => by simp [cutAt]
 | x :: a, b, h => by
  have h1 : ¬ x = c := fun e => h (by rw [e]; exact List.mem_cons_self)
  have h2 : c ∉ a := fun e => h (List.mem_cons_of_mem _ e)
  rw [List.cons_append, cutAt, if_neg h1, Kq c a b h2]; rfl
theorem Lm (c : UInt8) : ∀ l : List UInt8, c ∉ l → cutAt c l = none
 | [], _ => rfl
 | x :: l, h => by
  have h1 : ¬ x = c := fun e => h (by rw [e]; exact List.mem_cons_self)
  have h2 : c ∉ l := fun e => h (List.mem_cons_of_mem _ e)
  rw [cutAt, if_neg h1, Lm c l h2]; rfl
def Ad (l : List UInt8) : Option Rat :=
 match cutAt 47 l with
 | some (a, b) => if (Bg a && Bg b && !(b == [48])) = true then some (Rat.divInt (uk a : Nat) (uk b : Nat)) else none
 | none => match cutAt 46 l with
  | some (a, b) => if (Bg a && Co b 12) = true then some (Rat.divInt (uk (a ++ b) : Nat) ((10 ^ b.length : Nat) : Int)) else none
  | none => if Bg l = true then some (Rat.divInt (uk l : Nat) 1) else none
theorem Hz {l a b : List UInt8} (hl : l = a ++ 47 :: b) (hn : 47 ∉ a) : Ad l = if (Bg a && Bg b && !(b == [48])) = true then some (Rat.divInt (uk a : Nat) (uk b : Nat)) else none := by
 unfold Ad; rw [hl, Kq 47 a b hn]
theorem Xe {l a b : List UInt8} (h0 : 47 ∉ l) (hl : l = a ++ 46 :: b) (hn : 46 ∉ a) : Ad l = if (Bg a && Co b 12) = true then some (Rat.divInt (uk (a ++ b) : Nat) ((10 ^ b.length : Nat) : Int)) else none := by
 unfold Ad; rw [Lm 47 l h0]; dsimp only; rw [hl, Kq 46 a b hn]
theorem Ra {l : List UInt8} (h0 : 47 ∉ l) (h1 : 46 ∉ l) : Ad l = if Bg l = true then some (Rat.divInt (uk l : Nat) 1) else none := by
 unfold Ad; rw [Lm 47 l h0]; dsimp only; rw [Lm 46 l h1]
def Tf (l : List UInt8) : Told :=
 if l.head? = some 45 then
  match Ad l.tail with
  | some q => if q = 0 then ⟨0, 0, 2⟩ else told (-q)
  | none => ⟨0, 0, 2⟩
 else match Ad l with
  | some q => told q
  | none => ⟨0, 0, 2⟩
theorem aon (l : List UInt8) : ∀ a : Nat, l.foldl (fun a (c : UInt8) => a * 10 + (c.toNat - 48)) a = a * 10 ^ l.length + uk l := by
 unfold uk
 induction l with
 | nil => intro a; simp
 | cons c l ih =>
  intro a
  rw [List.foldl_cons, List.foldl_cons, ih, ih (0 * 10 + (c.toNat - 48)), List.length_cons, Nat.pow_succ, Nat.zero_mul, Nat.zero_add, Nat.add_mul, Nat.mul_comm (10 ^ l.length) 10, Nat.mul_assoc, Nat.add_assoc]
theorem aoo (c : UInt8) (l : List UInt8) : uk (c :: l) = (c.toNat - 48) * 10 ^ l.length + uk l := by
 have h := aon l (0 * 10 + (c.toNat - 48))
 rw [Nat.zero_mul, Nat.zero_add] at h
 show List.foldl _ (0 * 10 + (c.toNat - 48)) l = _
 rw [Nat.zero_mul, Nat.zero_add]; exact h
theorem uy {l : List UInt8} {m : Int} : Co l m = true ↔ 1 ≤ l.length ∧ (l.length : Int) ≤ m ∧ l.all yx = true := by
 unfold Co
 rw [Bool.and_eq_true, Bool.and_eq_true, decide_eq_true_eq, decide_eq_true_eq]
 constructor
 ·
  rintro ⟨⟨h1, h2⟩, h3⟩; exact ⟨by omega, h2, h3⟩
 ·
  rintro ⟨h1, h2, h3⟩; exact ⟨⟨by omega, h2⟩, h3⟩
theorem yw {l : List UInt8} : Bg l = true ↔ Co l 20 = true ∧ (l = [48] ∨ l.head? ≠ some 48) := by
 unfold Bg
 rw [Bool.and_eq_true, Bool.or_eq_true, beq_iff_eq, Bool.not_eq_true', beq_eq_false_iff_ne]
theorem aqw {l : List UInt8} (h : Bg l = true) (hz : ¬ l = [48]) : 0 < uk l := by
 obtain ⟨h1, h2⟩ := yw.1 h
 obtain ⟨h3, _, h5⟩ := uy.1 h1
 cases l with
 | nil => exact absurd h3 de
 | cons c l =>
  rcases h2 with h2 | h2
  ·
   exact absurd h2 hz
  ·
   have hc := ady h5 (List.mem_cons_self (a := c) (l := l))
   have hne : c.toNat ≠ 48 := fun e => h2 (by
    have : c = 48 := UInt8.toNat_inj.1 e
    rw [this]; rfl)
   rw [aoo]
   have := Nat.mul_le_mul (show 1 ≤ c.toNat - 48 by omega) (Nat.pow_pos (n := l.length) (show 0 < 10 by decide))
   omega
end Wd
end Go.Proofs.YtfgeaakhlcaibaaGreatDoor
namespace Go.Proofs.YtfgeaakhlcaibaaGreatDoor
open Go.RowKit

def bie (w : World) (l : List UInt8) (e : Ending) (w' : World) : Prop :=
 (Wd.Ad l = none ∧ e = .returned (.tuple #[(Value.agg #[.int .i64 0, .bool false, .slice none 0 0, .int .i64 0, .bool false, .slice none 0 0]), .bool false]) ∧ Below w.heap.size w w') ∨
 ∃ q s1 cz A1 c1 l1 s2 cu A2 c2 l2, Wd.Ad l = some q ∧ e = .returned (.tuple #[(Value.agg #[.int .i64 s1, .bool cz, .slice A1 (List.length l1) c1, .int .i64 s2, .bool cu, .slice A2 (List.length l2) c2]), .bool true]) ∧ fw w' s1 cz A1 c1 l1 q.num ∧ fw w' s2 cu A2 c2 l2 (q.den : Int) ∧ Below w.heap.size w w'
theorem Kz (a b : ByteArray) : (a ++ b).data.toList = a.data.toList ++ b.data.toList := by
 rw [ByteArray.data_append, Array.toList_append]
theorem Qr (a b : ByteArray) : (a ++ b).size = a.size + b.size := by
 rw [← ou, Kz, List.length_append, ou, ou]
theorem Oq {b : Bool} (h : ¬ b = true) : b = false := by cases b with
 | true => exact absurd rfl h
 | false => rfl
theorem sz3 {l : List UInt8} (h : l.all Wd.yx = true) (hl : l.length ≤ 40) : Wd.Sz dh 3 ((Wd.uk l : Nat) : Int) :=
 ael (Nat.lt_of_lt_of_le (Wd.ajk l h) (Nat.pow_le_pow_right om hl))
theorem aem {n : Nat} (h : n ≤ 12) : Wd.Sz dh 3 ((10 ^ n : Nat) : Int) :=
 ael (Nat.lt_of_le_of_lt (Nat.pow_le_pow_right om h) de)
theorem bcs {a b : List UInt8} (h1 : a.all Wd.yx = true) (h2 : b.all Wd.yx = true) : (a ++ b).all Wd.yx = true := by
 rw [List.all_append, h1, h2]; rfl

theorem afg (s : ByteArray) (w : World) (hT : og w) (hs : s.size ≤ 9223372036854775806) :
  Calls Tryz.prog 86 #[.string s] w fun e w' => bie w s.data.toList e w' := by
 have HT := hide hT
 have Qf := hide (fun W => Kb s ⟨#[47]⟩ 47 rfl W hs)
 have Si := hide (fun W => Kb s ⟨#[46]⟩ 46 rfl W hs)
 have Sd := hide hs
 clear hT hs
 go_enter Tryz.func86, Tryz.ntmps86
 go_upto_region 1 with fail
 obtain ⟨nr, hsz, hw0⟩ := He w (.cells #[.int .i64 0, .bool false, .slice none 0 0, .int .i64 0, .bool false, .slice none 0 0] 79)
 generalize w.alloc (.cells #[.int .i64 0, .bool false, .slice none 0 0, .int .i64 0, .bool false, .slice none 0 0] 79) = W0 at *
 have NR := hide nr
 have HB := Lib.hid hw0
 clear hsz hw0 nr
 go_wp2_with fail
 refine ((aa Qf) _).mono ?_
 rintro e W1 ⟨a, b, f, rfl, hb, hcase⟩
 replace NR := hide ((hb.block _ (lt_of_block (aa NR))).trans (aa NR))
 replace HB := Lib.hid (ay HB.out hb)
 clear hb
 rcases hcase with ⟨rfl, hl, hn⟩ | ⟨rfl, _, _, hn⟩
 ·
  have hlen : s.size = a.size + 1 + b.size := by rw [← ou, hl, List.length_append, List.length_cons, ou, ou]; omega
  have Hr := hide (fun W => Gf a W (by have := aa Sd; omega))
  have Ld := hide (fun W => Gf b W (by have := aa Sd; omega))
  clear hlen Si
  by_cases na : Wd.Bg a.data.toList = true
  ·
   by_cases nb : Wd.Bg b.data.toList = true
   ·
    by_cases hz : b.data.toList = [48]
    ·
     have HN := Lib.hid (show Wd.Ad s.data.toList = none by rw [Wd.Hz hl hn, na, nb, hz]; rfl)
     rw [na] at Hr
     rw [nb] at Ld
     have e1 : (b.toList == [48]) = true := by rw [Lib.toList_data, hz]; rfl
     clear na nb hz hl hn Qf
     have r0 : W1.cell? ⟨w.heap.size, 0, none⟩ = some (.int .i64 0) := ag (aa NR) 0
     have Ob := ai (aa NR) 0
     have r1 : W1.cell? ⟨w.heap.size, 1, none⟩ = some (.bool false) := ag (aa NR) 1
     have Oa := ai (aa NR) 1
     have r2 : W1.cell? ⟨w.heap.size, 2, none⟩ = some (.slice none 0 0) := ag (aa NR) 2
     have Wq := ai (aa NR) 2
     have r3 : W1.cell? ⟨w.heap.size, 3, none⟩ = some (.int .i64 0) := ag (aa NR) 3
     have fr3 := ai (aa NR) 3
     have r4 : W1.cell? ⟨w.heap.size, 4, none⟩ = some (.bool false) := ag (aa NR) 4
     have fr4 := ai (aa NR) 4
     have r5 : W1.cell? ⟨w.heap.size, 5, none⟩ = some (.slice none 0 0) := ag (aa NR) 5
     have fr5 := ai (aa NR) 5
     have qr := lt_of_block (aa NR)
     go_wp2_with (first | (go_at_call_of 156 (Value.string a); refine ((aa Hr) _).mono ?_; rintro e w' ⟨rfl, rfl⟩) | (go_at_call_of 156 (Value.string b); refine ((aa Ld) _).mono ?_; rintro e w' ⟨rfl, rfl⟩))
     exact bodyPost_ret (v := .tuple #[(Value.agg #[.int .i64 0, .bool false, .slice none 0 0, .int .i64 0, .bool false, .slice none 0 0]), .bool false]) (by simp [results, Tryz.results86, go_sem, r0, r1, r2, r3, r4, r5, qr]) rfl
      (.inl ⟨HN.out, rfl, HB.out.grown (kg _ _ _ _ _ _ _ _) HB.out.size (fun k hk => by injection hk with hk; omega)⟩)
    ·
     have Sg := hide (fun W => Jv a W (Wd.uy.1 (Wd.yw.1 na).1).2.2 (by have := (Wd.uy.1 (Wd.yw.1 na).1).2.1; rw [ou] at this; omega))
     have HIB := hide (fun W => Jv b W (Wd.uy.1 (Wd.yw.1 nb).1).2.2 (by have := (Wd.uy.1 (Wd.yw.1 nb).1).2.1; rw [ou] at this; omega))
     have Sk := sz3 (Wd.uy.1 (Wd.yw.1 na).1).2.2 (by have := (Wd.uy.1 (Wd.yw.1 na).1).2.1; omega)
     have Sj := sz3 (Wd.uy.1 (Wd.yw.1 nb).1).2.2 (by have := (Wd.uy.1 (Wd.yw.1 nb).1).2.1; omega)
     have hp := Wd.aqw nb hz
     have Iw := Lib.hid (show Wd.Ad s.data.toList = some (Rat.divInt (Wd.uk a.data.toList : Nat) (Wd.uk b.data.toList : Nat)) by
      rw [Wd.Hz hl hn, na, nb, beq_eq_false_iff_ne.2 hz]; rfl)
     obtain ⟨z1, hz1⟩ : ∃ z : Int, z = (Wd.uk a.data.toList : Nat) := ⟨_, rfl⟩
     obtain ⟨z2, hz2⟩ : ∃ z : Int, z = (Wd.uk b.data.toList : Nat) := ⟨_, rfl⟩
     have hz0 : z2 ≠ 0 := by omega
     rw [← hz1] at Sg Iw Sk
     rw [← hz2] at HIB Iw Sj
     have HNR := hide (fun s2 cu A2 c2 l2 s3 rz A3 c3 l3 W (hW : og W) (g2 : fw W s2 cu A2 c2 l2 z1) (g3 : fw W s3 rz A3 c3 l3 z2) => Xi (K := 3) s2 cu A2 c2 l2 s3 rz A3 c3 l3 z1 z2 W hW g2 g3 hz0 Sk Sj (by rw [zo]; omega))
     rw [na] at Hr
     rw [nb] at Ld
     have e1 : (b.toList == [48]) = false := by rw [Lib.toList_data]; exact beq_eq_false_iff_ne.2 hz
     clear na nb hz hl hn hp Sk Sj hz1 hz2 hz0 Qf
     go_wp2_with (first | (go_at_call_of 156 (Value.string a); refine ((aa Hr) _).mono ?_; rintro e w' ⟨rfl, rfl⟩) | (go_at_call_of 156 (Value.string b); refine ((aa Ld) _).mono ?_; rintro e w' ⟨rfl, rfl⟩))
     refine ((aa Sg) _).mono ?_
     rintro e V1 ⟨s2, cu, A2, c2, l2, rfl, f2, hb⟩
     have F2 := hide f2
     clear f2
     replace NR := hide ((hb.block _ (lt_of_block (aa NR))).trans (aa NR))
     replace HB := Lib.hid (ay HB.out hb)
     clear hb
     go_wp2_with fail
     refine ((aa HIB) _).mono ?_
     rintro e V2 ⟨s3, rz, A3, c3, l3, rfl, f3, hb⟩
     have F3 := hide f3
     clear f3
     replace NR := hide ((hb.block _ (lt_of_block (aa NR))).trans (aa NR))
     replace HB := Lib.hid (ay HB.out hb)
     replace F2 := hide ((aa F2).below hb)
     clear hb
     go_wp2_with fail
     refine ((aa HNR) s2 cu A2 c2 l2 s3 rz A3 c3 l3 _ ((aa HT).below HB.out) (aa F2) (aa F3)).mono ?_
     rintro e V3 ⟨s4, Cy, A4, c4, l4, s5, qg, A5, c5, l5, rfl, f4, f5, hb⟩
     have F4 := hide f4; have F5 := hide f5
     clear f4 f5 F2 F3
     replace NR := hide ((hb.block _ (lt_of_block (aa NR))).trans (aa NR))
     replace HB := Lib.hid (ay HB.out hb)
     clear hb
     have r0 : V3.cell? ⟨w.heap.size, 0, none⟩ = some (.int .i64 0) := ag (aa NR) 0
     have Ob := ai (aa NR) 0
     have r1 : V3.cell? ⟨w.heap.size, 1, none⟩ = some (.bool false) := ag (aa NR) 1
     have Oa := ai (aa NR) 1
     have r2 : V3.cell? ⟨w.heap.size, 2, none⟩ = some (.slice none 0 0) := ag (aa NR) 2
     have Wq := ai (aa NR) 2
     have r3 : V3.cell? ⟨w.heap.size, 3, none⟩ = some (.int .i64 0) := ag (aa NR) 3
     have fr3 := ai (aa NR) 3
     have r4 : V3.cell? ⟨w.heap.size, 4, none⟩ = some (.bool false) := ag (aa NR) 4
     have fr4 := ai (aa NR) 4
     have r5 : V3.cell? ⟨w.heap.size, 5, none⟩ = some (.slice none 0 0) := ag (aa NR) 5
     have fr5 := ai (aa NR) 5
     have qr := lt_of_block (aa NR)
     go_wp2_with fail
     have ky := Lib.hid (aa NR)
     exact bodyPost_ret (v := .tuple #[(Value.agg #[.int .i64 s4, .bool Cy, .slice A4 l4.length c4, .int .i64 s5, .bool qg, .slice A5 l5.length c5]), .bool true]) (by simp [results, Tryz.results86, go_sem, r0, r1, r2, r3, r4, r5, qr]) rfl
      (.inr ⟨_, s4, Cy, A4, c4, l4, s5, qg, A5, c5, l5, Iw.out, rfl, (aa F4).upto ky.out (ui _ _ _ _ _ _ _ _ _ _) (kg _ _ _ _ _ _ _ _), (aa F5).upto ky.out (ui _ _ _ _ _ _ _ _ _ _) (kg _ _ _ _ _ _ _ _), HB.out.grown (kg _ _ _ _ _ _ _ _) HB.out.size (fun k hk => by injection hk with hk; omega)⟩)
   ·
    have HN := Lib.hid (show Wd.Ad s.data.toList = none by rw [Wd.Hz hl hn, na, Oq nb]; rfl)
    rw [na] at Hr
    rw [Oq nb] at Ld
    clear na nb hl hn Qf
    have r0 : W1.cell? ⟨w.heap.size, 0, none⟩ = some (.int .i64 0) := ag (aa NR) 0
    have Ob := ai (aa NR) 0
    have r1 : W1.cell? ⟨w.heap.size, 1, none⟩ = some (.bool false) := ag (aa NR) 1
    have Oa := ai (aa NR) 1
    have r2 : W1.cell? ⟨w.heap.size, 2, none⟩ = some (.slice none 0 0) := ag (aa NR) 2
    have Wq := ai (aa NR) 2
    have r3 : W1.cell? ⟨w.heap.size, 3, none⟩ = some (.int .i64 0) := ag (aa NR) 3
    have fr3 := ai (aa NR) 3
    have r4 : W1.cell? ⟨w.heap.size, 4, none⟩ = some (.bool false) := ag (aa NR) 4
    have fr4 := ai (aa NR) 4
    have r5 : W1.cell? ⟨w.heap.size, 5, none⟩ = some (.slice none 0 0) := ag (aa NR) 5
    have fr5 := ai (aa NR) 5
    have qr := lt_of_block (aa NR)
    go_wp2_with (first | (go_at_call_of 156 (Value.string a); refine ((aa Hr) _).mono ?_; rintro e w' ⟨rfl, rfl⟩) | (go_at_call_of 156 (Value.string b); refine ((aa Ld) _).mono ?_; rintro e w' ⟨rfl, rfl⟩))
    exact bodyPost_ret (v := .tuple #[(Value.agg #[.int .i64 0, .bool false, .slice none 0 0, .int .i64 0, .bool false, .slice none 0 0]), .bool false]) (by simp [results, Tryz.results86, go_sem, r0, r1, r2, r3, r4, r5, qr]) rfl
     (.inl ⟨HN.out, rfl, HB.out.grown (kg _ _ _ _ _ _ _ _) HB.out.size (fun k hk => by injection hk with hk; omega)⟩)
  ·
   have HN := Lib.hid (show Wd.Ad s.data.toList = none by rw [Wd.Hz hl hn, Oq na]; rfl)
   rw [Oq na] at Hr
   clear na hl hn Qf Ld
   have r0 : W1.cell? ⟨w.heap.size, 0, none⟩ = some (.int .i64 0) := ag (aa NR) 0
   have Ob := ai (aa NR) 0
   have r1 : W1.cell? ⟨w.heap.size, 1, none⟩ = some (.bool false) := ag (aa NR) 1
   have Oa := ai (aa NR) 1
   have r2 : W1.cell? ⟨w.heap.size, 2, none⟩ = some (.slice none 0 0) := ag (aa NR) 2
   have Wq := ai (aa NR) 2
   have r3 : W1.cell? ⟨w.heap.size, 3, none⟩ = some (.int .i64 0) := ag (aa NR) 3
   have fr3 := ai (aa NR) 3
   have r4 : W1.cell? ⟨w.heap.size, 4, none⟩ = some (.bool false) := ag (aa NR) 4
   have fr4 := ai (aa NR) 4
   have r5 : W1.cell? ⟨w.heap.size, 5, none⟩ = some (.slice none 0 0) := ag (aa NR) 5
   have fr5 := ai (aa NR) 5
   have qr := lt_of_block (aa NR)
   go_wp2_with (first | (go_at_call_of 156 (Value.string a); refine ((aa Hr) _).mono ?_; rintro e w' ⟨rfl, rfl⟩))
   exact bodyPost_ret (v := .tuple #[(Value.agg #[.int .i64 0, .bool false, .slice none 0 0, .int .i64 0, .bool false, .slice none 0 0]), .bool false]) (by simp [results, Tryz.results86, go_sem, r0, r1, r2, r3, r4, r5, qr]) rfl
    (.inl ⟨HN.out, rfl, HB.out.grown (kg _ _ _ _ _ _ _ _) HB.out.size (fun k hk => by injection hk with hk; omega)⟩)
 ·
  go_wp2_with fail
  refine ((aa Si) _).mono ?_
  rintro e W2 ⟨a, b, f, rfl, hb, hcase⟩
  replace NR := hide ((hb.block _ (lt_of_block (aa NR))).trans (aa NR))
  replace HB := Lib.hid (ay HB.out hb)
  clear hb
  rcases hcase with ⟨rfl, hl, hn2⟩ | ⟨rfl, ha, hbn, hn2⟩
  ·
   have hlen : s.size = a.size + 1 + b.size := by rw [← ou, hl, List.length_append, List.length_cons, ou, ou]; omega
   have Hr := hide (fun W => Gf a W (by have := aa Sd; omega))
   have Ld := hide (fun W => Tp b 12 W (by have := aa Sd; omega))
   clear hlen
   by_cases na : Wd.Bg a.data.toList = true
   ·
    by_cases nb : Wd.Co b.data.toList 12 = true
    ·
     obtain ⟨g1, g2, g3⟩ := Wd.uy.1 nb
     obtain ⟨g4, g5, g6⟩ := Wd.uy.1 (Wd.yw.1 na).1
     rw [ou] at g2 g5
     have Xu := bcs g6 g3
     have ahe : b.size ≤ 12 := by omega
     have awd : a.size ≤ 20 := by omega
     have Iw := Lib.hid (show Wd.Ad s.data.toList = some (Rat.divInt (Wd.uk (a.data.toList ++ b.data.toList) : Nat) ((10 ^ b.size : Nat) : Int)) by
      rw [Wd.Xe hn hl hn2, na, nb, ou]; rfl)
     rw [na] at Hr
     rw [nb] at Ld
     clear na nb g1 g2 g3 g4 g5 g6 hl hn hn2
     have Sg := hide (fun W => Jv (a ++ b) W (by rw [Kz]; exact Xu) (by rw [Qr]; omega))
     rw [Kz] at Sg
     have hadd : ∀ W, (Op.stringOp .add a b).run Tryz.prog W = .ok (.string (a ++ b)) W := fun W => run_string_add_sum W a b om
     have hno : ¬ (a.size + b.size > 9223372036854775807) := by omega
     obtain ⟨y, hy⟩ : ∃ y, a ++ b = y := ⟨_, rfl⟩
     rw [hy] at Sg hadd
     clear hy
     have Sk := sz3 Xu (by rw [List.length_append, ou, ou]; omega)
     have Sj := aem (n := b.size) ahe
     obtain ⟨z1, hz1⟩ : ∃ z : Int, z = (Wd.uk (a.data.toList ++ b.data.toList) : Nat) := ⟨_, rfl⟩
     obtain ⟨z2, hz2⟩ : ∃ z : Int, z = ((10 ^ b.size : Nat) : Int) := ⟨_, rfl⟩
     have hz0 : z2 ≠ 0 := by have := Nat.pow_pos (n := b.size) (show 0 < 10 by decide); omega
     have hz3 : (10 : Int) ^ b.size = z2 := by rw [hz2, Int.natCast_pow]; rfl
     rw [← hz1] at Sg Iw Sk
     rw [← hz2] at Iw Sj
     have HNR := hide (fun s2 cu A2 c2 l2 s3 rz A3 c3 l3 W (hW : og W) (g2 : fw W s2 cu A2 c2 l2 z1) (g3 : fw W s3 rz A3 c3 l3 z2) => Xi (K := 3) s2 cu A2 c2 l2 s3 rz A3 c3 l3 z1 z2 W hW g2 g3 hz0 Sk Sj (by rw [zo]; omega))
     have axl := hide (fun W => Al 10 om om W)
     have HPW := hide (fun s2 cu A2 c2 l2 W (g2 : fw W s2 cu A2 c2 l2 10) => agk s2 cu A2 c2 l2 10 b.size 1 W g2 Yo (by rw [zo]; omega) (by rw [zo]; omega) om)
     rw [hz3] at HPW
     clear Xu ahe awd Sk Sj hz1 hz2 hz0 hz3 Qf Si
     go_wp2_with (first | (go_at_call_of 156 (Value.string a); refine ((aa Hr) _).mono ?_; rintro e w' ⟨rfl, rfl⟩) | (go_at_call 158; refine ((aa Ld) _).mono ?_; rintro e w' ⟨rfl, rfl⟩))
     refine ((aa axl) _).mono ?_
     rintro e V2 ⟨s2, cu, A2, c2, l2, rfl, f2, hb⟩
     have F2 := hide f2
     clear f2
     replace NR := hide ((hb.block _ (lt_of_block (aa NR))).trans (aa NR))
     replace HB := Lib.hid (ay HB.out hb)
     clear hb
     go_wp2_with fail
     refine ((aa HPW) s2 cu A2 c2 l2 _ (aa F2)).mono ?_
     rintro e V3 ⟨s3, rz, A3, c3, l3, rfl, f3, hb⟩
     have F3 := hide f3
     clear f3 F2
     replace NR := hide ((hb.block _ (lt_of_block (aa NR))).trans (aa NR))
     replace HB := Lib.hid (ay HB.out hb)
     clear hb
     go_upto_region 10 with fail
     have nu := heap_alloc_new V3 (.cells #[.int .i64 s3, .bool rz, .slice A3 l3.length c3] 77)
     have hb := ig (Below.refl V3.heap.size V3) (.cells #[.int .i64 s3, .bool rz, .slice A3 l3.length c3] 77)
     generalize V3.alloc (.cells #[.int .i64 s3, .bool rz, .slice A3 l3.length c3] 77) = V4 at *
     obtain ⟨bu, hbu⟩ : ∃ b, b = V3.heap.size := ⟨_, rfl⟩
     rw [← hbu] at nu ⊢
     have obu : w.heap.size < bu := by rw [hbu]; exact lt_of_block (aa NR)
     clear hbu
     replace NR := hide ((hb.block _ (lt_of_block (aa NR))).trans (aa NR))
     replace HB := Lib.hid (ay HB.out hb)
     replace F3 := hide ((aa F3).below hb)
     clear hb
     have bnm : V4.cell? ⟨bu, 0, none⟩ = some (.int .i64 s3) := ag nu 0
     have bnl : V4.cell? ⟨bu, 1, none⟩ = some (.bool rz) := ag nu 1
     have bnk : V4.cell? ⟨bu, 2, none⟩ = some (.slice A3 l3.length c3) := ag nu 2
     have qu := lt_of_block nu
     have r0 : V4.cell? ⟨w.heap.size, 0, none⟩ = some (.int .i64 0) := ag (aa NR) 0
     have Ob := ai (aa NR) 0
     have r1 : V4.cell? ⟨w.heap.size, 1, none⟩ = some (.bool false) := ag (aa NR) 1
     have Oa := ai (aa NR) 1
     have r2 : V4.cell? ⟨w.heap.size, 2, none⟩ = some (.slice none 0 0) := ag (aa NR) 2
     have Wq := ai (aa NR) 2
     have r3 : V4.cell? ⟨w.heap.size, 3, none⟩ = some (.int .i64 0) := ag (aa NR) 3
     have fr3 := ai (aa NR) 3
     have r4 : V4.cell? ⟨w.heap.size, 4, none⟩ = some (.bool false) := ag (aa NR) 4
     have fr4 := ai (aa NR) 4
     have r5 : V4.cell? ⟨w.heap.size, 5, none⟩ = some (.slice none 0 0) := ag (aa NR) 5
     have fr5 := ai (aa NR) 5
     have qr := lt_of_block (aa NR)
     clear nu
     go_region_with (first | (go_at_call 157; refine ((aa Sg) _).mono ?_; rintro e w' ⟨s4, Cy, A4, c4, l4, rfl, f4, hb4⟩; have hbw := bz (w := V4) (by (first | with_reducible assumption | (repeat (first | with_reducible exact Below.refl _ _ | with_reducible assumption | refine Below.drew ?_ | (refine Below.alloc ?_ (by simp <;> omega) _) | refine mi ?_ _)))) hb4; obtain ⟨hc, hfz⟩ := fe hbw) | (go_at_call 136; refine ((aa HNR) s4 Cy A4 c4 l4 s3 rz A3 c3 l3 _ ((aa HT).below (ay HB.out (by (first | with_reducible assumption | (repeat (first | with_reducible exact Below.refl _ _ | with_reducible assumption | refine Below.drew ?_ | (refine Below.alloc ?_ (by simp <;> omega) _) | refine mi ?_ _)))))) (by first | exact f4 | exact fw.below f4 (by (first | with_reducible assumption | (repeat (first | with_reducible exact Below.refl _ _ | with_reducible assumption | refine Below.drew ?_ | (refine Below.alloc ?_ (by simp <;> omega) _) | refine mi ?_ _))))) (fw.below (aa F3) (by (first | with_reducible assumption | (repeat (first | with_reducible exact Below.refl _ _ | with_reducible assumption | refine Below.drew ?_ | (refine Below.alloc ?_ (by simp <;> omega) _) | refine mi ?_ _)))))).mono ?_; rintro e w' ⟨s5, qg, A5, c5, l5, s6, ug, A6, c6, l6, rfl, f5, f6, hb5⟩; have hbw := bz (w := V4) (by (first | with_reducible assumption | (repeat (first | with_reducible exact Below.refl _ _ | with_reducible assumption | refine Below.drew ?_ | (refine Below.alloc ?_ (by simp <;> omega) _) | refine mi ?_ _)))) hb5; obtain ⟨hc, hfz⟩ := fe hbw))
     all_goals
      replace NR := hide ((hbw.block _ (lt_of_block (aa NR))).trans (aa NR))
      replace HB := Lib.hid (ay HB.out hbw)
      have ky := Lib.hid (aa NR)
      have F5 := hide f5; have F6 := hide f6
      go_wp2_with fail
      exact bodyPost_ret (v := .tuple #[(Value.agg #[.int .i64 s5, .bool qg, .slice A5 l5.length c5, .int .i64 s6, .bool ug, .slice A6 l6.length c6]), .bool true]) (by simp [results, Tryz.results86, go_sem, hc, r0, r1, r2, r3, r4, r5, qr]) rfl
       (.inr ⟨_, s5, qg, A5, c5, l5, s6, ug, A6, c6, l6, Iw.out, rfl, (aa F5).upto ky.out (ui _ _ _ _ _ _ _ _ _ _) (kg _ _ _ _ _ _ _ _), (aa F6).upto ky.out (ui _ _ _ _ _ _ _ _ _ _) (kg _ _ _ _ _ _ _ _), HB.out.grown (kg _ _ _ _ _ _ _ _) HB.out.size (fun k hk => by injection hk with hk; omega)⟩)
    ·
     have HN := Lib.hid (show Wd.Ad s.data.toList = none by rw [Wd.Xe hn hl hn2, na, Oq nb]; rfl)
     rw [na] at Hr
     rw [Oq nb] at Ld
     clear na nb hl hn hn2 Qf Si
     have r0 : W2.cell? ⟨w.heap.size, 0, none⟩ = some (.int .i64 0) := ag (aa NR) 0
     have Ob := ai (aa NR) 0
     have r1 : W2.cell? ⟨w.heap.size, 1, none⟩ = some (.bool false) := ag (aa NR) 1
     have Oa := ai (aa NR) 1
     have r2 : W2.cell? ⟨w.heap.size, 2, none⟩ = some (.slice none 0 0) := ag (aa NR) 2
     have Wq := ai (aa NR) 2
     have r3 : W2.cell? ⟨w.heap.size, 3, none⟩ = some (.int .i64 0) := ag (aa NR) 3
     have fr3 := ai (aa NR) 3
     have r4 : W2.cell? ⟨w.heap.size, 4, none⟩ = some (.bool false) := ag (aa NR) 4
     have fr4 := ai (aa NR) 4
     have r5 : W2.cell? ⟨w.heap.size, 5, none⟩ = some (.slice none 0 0) := ag (aa NR) 5
     have fr5 := ai (aa NR) 5
     have qr := lt_of_block (aa NR)
     go_wp2_with (first | (go_at_call_of 156 (Value.string a); refine ((aa Hr) _).mono ?_; rintro e w' ⟨rfl, rfl⟩) | (go_at_call 158; refine ((aa Ld) _).mono ?_; rintro e w' ⟨rfl, rfl⟩))
     exact bodyPost_ret (v := .tuple #[(Value.agg #[.int .i64 0, .bool false, .slice none 0 0, .int .i64 0, .bool false, .slice none 0 0]), .bool false]) (by simp [results, Tryz.results86, go_sem, r0, r1, r2, r3, r4, r5, qr]) rfl
      (.inl ⟨HN.out, rfl, HB.out.grown (kg _ _ _ _ _ _ _ _) HB.out.size (fun k hk => by injection hk with hk; omega)⟩)
   ·
    have HN := Lib.hid (show Wd.Ad s.data.toList = none by rw [Wd.Xe hn hl hn2, Oq na]; rfl)
    rw [Oq na] at Hr
    clear na hl hn hn2 Qf Si Ld
    have r0 : W2.cell? ⟨w.heap.size, 0, none⟩ = some (.int .i64 0) := ag (aa NR) 0
    have Ob := ai (aa NR) 0
    have r1 : W2.cell? ⟨w.heap.size, 1, none⟩ = some (.bool false) := ag (aa NR) 1
    have Oa := ai (aa NR) 1
    have r2 : W2.cell? ⟨w.heap.size, 2, none⟩ = some (.slice none 0 0) := ag (aa NR) 2
    have Wq := ai (aa NR) 2
    have r3 : W2.cell? ⟨w.heap.size, 3, none⟩ = some (.int .i64 0) := ag (aa NR) 3
    have fr3 := ai (aa NR) 3
    have r4 : W2.cell? ⟨w.heap.size, 4, none⟩ = some (.bool false) := ag (aa NR) 4
    have fr4 := ai (aa NR) 4
    have r5 : W2.cell? ⟨w.heap.size, 5, none⟩ = some (.slice none 0 0) := ag (aa NR) 5
    have fr5 := ai (aa NR) 5
    have qr := lt_of_block (aa NR)
    go_wp2_with (first | (go_at_call_of 156 (Value.string a); refine ((aa Hr) _).mono ?_; rintro e w' ⟨rfl, rfl⟩))
    exact bodyPost_ret (v := .tuple #[(Value.agg #[.int .i64 0, .bool false, .slice none 0 0, .int .i64 0, .bool false, .slice none 0 0]), .bool false]) (by simp [results, Tryz.results86, go_sem, r0, r1, r2, r3, r4, r5, qr]) rfl
     (.inl ⟨HN.out, rfl, HB.out.grown (kg _ _ _ _ _ _ _ _) HB.out.size (fun k hk => by injection hk with hk; omega)⟩)
  ·
   have Hr := hide (fun W => Gf a W (by have := aa Sd; rw [ha]; omega))
   by_cases na : Wd.Bg a.data.toList = true
   ·
    obtain ⟨g4, g5, g6⟩ := Wd.uy.1 (Wd.yw.1 na).1
    rw [ou] at g5
    have hb0 : b.size = 0 := by rw [← ou, hbn]; rfl
    have Xu : (a.data.toList ++ b.data.toList).all Wd.yx = true := by rw [hbn, List.append_nil]; exact g6
    have ahe : b.size ≤ 12 := by omega
    have awd : a.size ≤ 20 := by omega
    have Iw := Lib.hid (show Wd.Ad s.data.toList = some (Rat.divInt (Wd.uk (a.data.toList ++ b.data.toList) : Nat) ((10 ^ b.size : Nat) : Int)) by
     rw [Wd.Ra hn hn2, ← ha, na, hbn, List.append_nil, hb0]; rfl)
    rw [na] at Hr
    clear na g4 g5 g6 ha hbn hn hn2 hb0
    have Sg := hide (fun W => Jv (a ++ b) W (by rw [Kz]; exact Xu) (by rw [Qr]; omega))
    rw [Kz] at Sg
    have hadd : ∀ W, (Op.stringOp .add a b).run Tryz.prog W = .ok (.string (a ++ b)) W := fun W => run_string_add_sum W a b om
    have hno : ¬ (a.size + b.size > 9223372036854775807) := by omega
    obtain ⟨y, hy⟩ : ∃ y, a ++ b = y := ⟨_, rfl⟩
    rw [hy] at Sg hadd
    clear hy
    have Sk := sz3 Xu (by rw [List.length_append, ou, ou]; omega)
    have Sj := aem (n := b.size) ahe
    obtain ⟨z1, hz1⟩ : ∃ z : Int, z = (Wd.uk (a.data.toList ++ b.data.toList) : Nat) := ⟨_, rfl⟩
    obtain ⟨z2, hz2⟩ : ∃ z : Int, z = ((10 ^ b.size : Nat) : Int) := ⟨_, rfl⟩
    have hz0 : z2 ≠ 0 := by have := Nat.pow_pos (n := b.size) (show 0 < 10 by decide); omega
    have hz3 : (10 : Int) ^ b.size = z2 := by rw [hz2, Int.natCast_pow]; rfl
    rw [← hz1] at Sg Iw Sk
    rw [← hz2] at Iw Sj
    have HNR := hide (fun s2 cu A2 c2 l2 s3 rz A3 c3 l3 W (hW : og W) (g2 : fw W s2 cu A2 c2 l2 z1) (g3 : fw W s3 rz A3 c3 l3 z2) => Xi (K := 3) s2 cu A2 c2 l2 s3 rz A3 c3 l3 z1 z2 W hW g2 g3 hz0 Sk Sj (by rw [zo]; omega))
    have axl := hide (fun W => Al 10 om om W)
    have HPW := hide (fun s2 cu A2 c2 l2 W (g2 : fw W s2 cu A2 c2 l2 10) => agk s2 cu A2 c2 l2 10 b.size 1 W g2 Yo (by rw [zo]; omega) (by rw [zo]; omega) om)
    rw [hz3] at HPW
    clear Xu ahe awd Sk Sj hz1 hz2 hz0 hz3 Qf Si
    go_wp2_with (first | (go_at_call_of 156 (Value.string a); refine ((aa Hr) _).mono ?_; rintro e w' ⟨rfl, rfl⟩))
    refine ((aa axl) _).mono ?_
    rintro e V2 ⟨s2, cu, A2, c2, l2, rfl, f2, hb⟩
    have F2 := hide f2
    clear f2
    replace NR := hide ((hb.block _ (lt_of_block (aa NR))).trans (aa NR))
    replace HB := Lib.hid (ay HB.out hb)
    clear hb
    go_wp2_with fail
    refine ((aa HPW) s2 cu A2 c2 l2 _ (aa F2)).mono ?_
    rintro e V3 ⟨s3, rz, A3, c3, l3, rfl, f3, hb⟩
    have F3 := hide f3
    clear f3 F2
    replace NR := hide ((hb.block _ (lt_of_block (aa NR))).trans (aa NR))
    replace HB := Lib.hid (ay HB.out hb)
    clear hb
    go_upto_region 10 with fail
    have nu := heap_alloc_new V3 (.cells #[.int .i64 s3, .bool rz, .slice A3 l3.length c3] 77)
    have hb := ig (Below.refl V3.heap.size V3) (.cells #[.int .i64 s3, .bool rz, .slice A3 l3.length c3] 77)
    generalize V3.alloc (.cells #[.int .i64 s3, .bool rz, .slice A3 l3.length c3] 77) = V4 at *
    obtain ⟨bu, hbu⟩ : ∃ b, b = V3.heap.size := ⟨_, rfl⟩
    rw [← hbu] at nu ⊢
    have obu : w.heap.size < bu := by rw [hbu]; exact lt_of_block (aa NR)
    clear hbu
    replace NR := hide ((hb.block _ (lt_of_block (aa NR))).trans (aa NR))
    replace HB := Lib.hid (ay HB.out hb)
    replace F3 := hide ((aa F3).below hb)
    clear hb
    have bnm : V4.cell? ⟨bu, 0, none⟩ = some (.int .i64 s3) := ag nu 0
    have bnl : V4.cell? ⟨bu, 1, none⟩ = some (.bool rz) := ag nu 1
    have bnk : V4.cell? ⟨bu, 2, none⟩ = some (.slice A3 l3.length c3) := ag nu 2
    have qu := lt_of_block nu
    have r0 : V4.cell? ⟨w.heap.size, 0, none⟩ = some (.int .i64 0) := ag (aa NR) 0
    have Ob := ai (aa NR) 0
    have r1 : V4.cell? ⟨w.heap.size, 1, none⟩ = some (.bool false) := ag (aa NR) 1
    have Oa := ai (aa NR) 1
    have r2 : V4.cell? ⟨w.heap.size, 2, none⟩ = some (.slice none 0 0) := ag (aa NR) 2
    have Wq := ai (aa NR) 2
    have r3 : V4.cell? ⟨w.heap.size, 3, none⟩ = some (.int .i64 0) := ag (aa NR) 3
    have fr3 := ai (aa NR) 3
    have r4 : V4.cell? ⟨w.heap.size, 4, none⟩ = some (.bool false) := ag (aa NR) 4
    have fr4 := ai (aa NR) 4
    have r5 : V4.cell? ⟨w.heap.size, 5, none⟩ = some (.slice none 0 0) := ag (aa NR) 5
    have fr5 := ai (aa NR) 5
    have qr := lt_of_block (aa NR)
    clear nu
    go_region_with (first | (go_at_call 157; refine ((aa Sg) _).mono ?_; rintro e w' ⟨s4, Cy, A4, c4, l4, rfl, f4, hb4⟩; have hbw := bz (w := V4) (by (first | with_reducible assumption | (repeat (first | with_reducible exact Below.refl _ _ | with_reducible assumption | refine Below.drew ?_ | (refine Below.alloc ?_ (by simp <;> omega) _) | refine mi ?_ _)))) hb4; obtain ⟨hc, hfz⟩ := fe hbw) | (go_at_call 136; refine ((aa HNR) s4 Cy A4 c4 l4 s3 rz A3 c3 l3 _ ((aa HT).below (ay HB.out (by (first | with_reducible assumption | (repeat (first | with_reducible exact Below.refl _ _ | with_reducible assumption | refine Below.drew ?_ | (refine Below.alloc ?_ (by simp <;> omega) _) | refine mi ?_ _)))))) (by first | exact f4 | exact fw.below f4 (by (first | with_reducible assumption | (repeat (first | with_reducible exact Below.refl _ _ | with_reducible assumption | refine Below.drew ?_ | (refine Below.alloc ?_ (by simp <;> omega) _) | refine mi ?_ _))))) (fw.below (aa F3) (by (first | with_reducible assumption | (repeat (first | with_reducible exact Below.refl _ _ | with_reducible assumption | refine Below.drew ?_ | (refine Below.alloc ?_ (by simp <;> omega) _) | refine mi ?_ _)))))).mono ?_; rintro e w' ⟨s5, qg, A5, c5, l5, s6, ug, A6, c6, l6, rfl, f5, f6, hb5⟩; have hbw := bz (w := V4) (by (first | with_reducible assumption | (repeat (first | with_reducible exact Below.refl _ _ | with_reducible assumption | refine Below.drew ?_ | (refine Below.alloc ?_ (by simp <;> omega) _) | refine mi ?_ _)))) hb5; obtain ⟨hc, hfz⟩ := fe hbw))
    all_goals
     replace NR := hide ((hbw.block _ (lt_of_block (aa NR))).trans (aa NR))
     replace HB := Lib.hid (ay HB.out hbw)
     have ky := Lib.hid (aa NR)
     have F5 := hide f5; have F6 := hide f6
     go_wp2_with fail
     exact bodyPost_ret (v := .tuple #[(Value.agg #[.int .i64 s5, .bool qg, .slice A5 l5.length c5, .int .i64 s6, .bool ug, .slice A6 l6.length c6]), .bool true]) (by simp [results, Tryz.results86, go_sem, hc, r0, r1, r2, r3, r4, r5, qr]) rfl
      (.inr ⟨_, s5, qg, A5, c5, l5, s6, ug, A6, c6, l6, Iw.out, rfl, (aa F5).upto ky.out (ui _ _ _ _ _ _ _ _ _ _) (kg _ _ _ _ _ _ _ _), (aa F6).upto ky.out (ui _ _ _ _ _ _ _ _ _ _) (kg _ _ _ _ _ _ _ _), HB.out.grown (kg _ _ _ _ _ _ _ _) HB.out.size (fun k hk => by injection hk with hk; omega)⟩)
   ·
    have HN := Lib.hid (show Wd.Ad s.data.toList = none by rw [Wd.Ra hn hn2, ← ha, Oq na]; rfl)
    rw [Oq na] at Hr
    clear na ha hbn hn hn2 Qf Si
    have r0 : W2.cell? ⟨w.heap.size, 0, none⟩ = some (.int .i64 0) := ag (aa NR) 0
    have Ob := ai (aa NR) 0
    have r1 : W2.cell? ⟨w.heap.size, 1, none⟩ = some (.bool false) := ag (aa NR) 1
    have Oa := ai (aa NR) 1
    have r2 : W2.cell? ⟨w.heap.size, 2, none⟩ = some (.slice none 0 0) := ag (aa NR) 2
    have Wq := ai (aa NR) 2
    have r3 : W2.cell? ⟨w.heap.size, 3, none⟩ = some (.int .i64 0) := ag (aa NR) 3
    have fr3 := ai (aa NR) 3
    have r4 : W2.cell? ⟨w.heap.size, 4, none⟩ = some (.bool false) := ag (aa NR) 4
    have fr4 := ai (aa NR) 4
    have r5 : W2.cell? ⟨w.heap.size, 5, none⟩ = some (.slice none 0 0) := ag (aa NR) 5
    have fr5 := ai (aa NR) 5
    have qr := lt_of_block (aa NR)
    go_wp2_with (first | (go_at_call_of 156 (Value.string a); refine ((aa Hr) _).mono ?_; rintro e w' ⟨rfl, rfl⟩))
    exact bodyPost_ret (v := .tuple #[(Value.agg #[.int .i64 0, .bool false, .slice none 0 0, .int .i64 0, .bool false, .slice none 0 0]), .bool false]) (by simp [results, Tryz.results86, go_sem, r0, r1, r2, r3, r4, r5, qr]) rfl
     (.inl ⟨HN.out, rfl, HB.out.grown (kg _ _ _ _ _ _ _ _) HB.out.size (fun k hk => by injection hk with hk; omega)⟩)


namespace Wd
def tellT (m : Bool) (o : Option Rat) : Told := match o with
 | none => ⟨0, 0, 2⟩
 | some q => if m = true ∧ q = 0 then ⟨0, 0, 2⟩ else told (if m = true then -q else q)
theorem aqu (l : List UInt8) : Tf l = if l.head? = some 45 then tellT true (Ad l.tail) else tellT false (Ad l) := by
 unfold Tf tellT
 split
 ·
  cases Ad l.tail with
  | none => rfl
  | some q => simp
 ·
  cases Ad l with
  | none => rfl
  | some q => simp
end Wd
theorem Il (s : ByteArray) : (⟨s.data.toList.toArray⟩ : ByteArray) = s := by cases s; simp
theorem aww (s : ByteArray) (h : s.data.toList.head? = some 45) (W : World) :
  Calls Tryz.prog 85 #[.string s, .string ⟨#[45]⟩] W fun e w' => e = .returned (.tuple #[.string ⟨s.data.toList.tail.toArray⟩, .bool true]) ∧ w' = W := by
 have h1 : Lib.hasPrefix s.data.toList [45] = true := by
  unfold Lib.hasPrefix
  cases hl : s.data.toList with
  | nil => rw [hl] at h; cases h
  | cons c l => rw [hl] at h; have := Option.some.inj h; rw [this]; rfl
 have h2 : Lib.trimPrefix s.data.toList [45] = s.data.toList.tail := by
  unfold Lib.trimPrefix; rw [if_pos h1]
  cases s.data.toList with
  | nil => rfl
  | cons c l => rfl
 refine (Tryz.strings_CutPrefix s ⟨#[45]⟩ W).mono ?_
 rintro e w' ⟨he, hw⟩
 refine ⟨he.trans ?_, hw⟩
 show Ending.returned (.tuple #[.string ⟨(Lib.trimPrefix s.data.toList [45]).toArray⟩, .bool (Lib.hasPrefix s.data.toList [45])]) = _
 rw [h1, h2]
theorem akw (s : ByteArray) (h : ¬ s.data.toList.head? = some 45) (W : World) :
  Calls Tryz.prog 85 #[.string s, .string ⟨#[45]⟩] W fun e w' => e = .returned (.tuple #[.string s, .bool false]) ∧ w' = W := by
 have h1 : Lib.hasPrefix s.data.toList [45] = false := by
  unfold Lib.hasPrefix
  cases hl : s.data.toList with
  | nil => rfl
  | cons c l =>
   rw [hl] at h
   have hc : ¬ 45 = c := fun e => h (by rw [← e]; rfl)
   simp [List.isPrefixOf, hc]
 have h2 : Lib.trimPrefix s.data.toList [45] = s.data.toList := by
  unfold Lib.trimPrefix; rw [h1]; rfl
 refine (Tryz.strings_CutPrefix s ⟨#[45]⟩ W).mono ?_
 rintro e w' ⟨he, hw⟩
 refine ⟨he.trans ?_, hw⟩
 show Ending.returned (.tuple #[.string ⟨(Lib.trimPrefix s.data.toList [45]).toArray⟩, .bool (Lib.hasPrefix s.data.toList [45])]) = _
 rw [h1, h2, Il]

theorem apz (s1 : Int) (cz : Bool) (A1 : Option Addr) (c1 : Nat) (l1 : List Nat) (s2 : Int) (cu : Bool) (A2 : Option Addr) (c2 : Nat) (l2 : List Nat) (z : Int) (w : World) (h1 : fw w s1 cz A1 c1 l1 z) :
  Calls Tryz.prog 87 #[(Value.agg #[.int .i64 s1, .bool cz, .slice A1 l1.length c1, .int .i64 s2, .bool cu, .slice A2 l2.length c2])] w fun e w' => e = .returned (.int .i64 (qi z)) ∧ Below w.heap.size w w' := by
 have HS := hide (fun W (hW : Below w.heap.size w W) => zg s1 cz A1 c1 l1 z W (h1.below hW))
 obtain ⟨o, ho⟩ : ∃ o, o = qi z := ⟨_, rfl⟩
 rw [← ho] at HS ⊢
 clear h1 ho
 go_enter Tryz.func87, Tryz.ntmps87
 go_upto_region 1 with fail
 obtain ⟨nr, hsz, hw0⟩ := He w (.cells #[.int .i64 s1, .bool cz, .slice A1 l1.length c1, .int .i64 s2, .bool cu, .slice A2 l2.length c2] 79)
 generalize w.alloc (.cells #[.int .i64 s1, .bool cz, .slice A1 l1.length c1, .int .i64 s2, .bool cu, .slice A2 l2.length c2] 79) = W0 at *
 have k0 : W0.cell? ⟨w.heap.size, 0, none⟩ = some (.int .i64 s1) := ag nr 0
 have k1 : W0.cell? ⟨w.heap.size, 1, none⟩ = some (.bool cz) := ag nr 1
 have k2 : W0.cell? ⟨w.heap.size, 2, none⟩ = some (.slice A1 l1.length c1) := ag nr 2
 have k3 : W0.cell? ⟨w.heap.size, 3, none⟩ = some (.int .i64 s2) := ag nr 3
 have k4 : W0.cell? ⟨w.heap.size, 4, none⟩ = some (.bool cu) := ag nr 4
 have k5 : W0.cell? ⟨w.heap.size, 5, none⟩ = some (.slice A2 l2.length c2) := ag nr 5
 clear hsz nr
 go_wp2_with fail
 refine ((aa HS) _ hw0).mono ?_
 rintro e w' ⟨rfl, hb⟩
 have jq := ay hw0 hb
 clear hb
 go_wp2_with fail
 all_goals first | go_ret | skip
 exact ⟨rfl, jq⟩

theorem Ey (s B : ByteArray) (m : Bool) (o : Option Rat) (ho : Wd.Ad B.data.toList = o) (w : World) (hT : og w)
  (hcut : ∀ W, Calls Tryz.prog 85 #[.string s, .string ⟨#[45]⟩] W fun e w' => e = .returned (.tuple #[.string B, .bool m]) ∧ w' = W)
  (hpos : ∀ W, og W → Calls Tryz.prog 86 #[.string B] W fun e w' => bie W B.data.toList e w') :
  Calls Tryz.prog 24 #[.string s] w fun e w' => bic w (Wd.tellT m o) e w' := by
 obtain ⟨t, ht⟩ : ∃ t, t = Wd.tellT m o := ⟨_, rfl⟩
 rw [← ht]
 have HT := hide hT; have HC := hide hcut; have HP := hide hpos; have HO := Lib.hid ho; have HTE := Lib.hid ht
 clear hT hcut hpos ho ht
 go_enter Tryz.func24, Tryz.ntmps24
 go_upto_region 1 with fail
 obtain ⟨nr, hsz, hw0⟩ := He w (.cells #[.int .i64 0, .int .i64 0] 23)
 generalize w.alloc (.cells #[.int .i64 0, .int .i64 0] 23) = W0 at *
 have NR := hide nr; have HB := Lib.hid hw0
 clear hsz nr hw0
 go_wp2_with (go_at_call 85; refine ((aa HC) _).mono ?_; rintro e w' ⟨rfl, rfl⟩)
 refine ((aa HP) _ ((aa HT).below HB.out)).mono ?_
 rintro e V1 hpr
 rcases hpr with ⟨hpn, rfl, hb⟩ | ⟨q, s1, cz, A1, c1, l1, s2, cu, A2, c2, l2, hpn, rfl, f1, f2, hb⟩
 ·
  have Iu := Lib.hid (show t = ⟨0, 0, 2⟩ by rw [HTE.out, ← HO.out, hpn]; rfl)
  replace NR := hide ((hb.block _ (lt_of_block (aa NR))).trans (aa NR))
  replace HB := Lib.hid (ay HB.out hb)
  clear hb hpn HP HC
  go_upto_region 3 with fail
  have hn := heap_alloc_new V1 (.cells #[.int .i64 0, .bool false, .slice none 0 0, .int .i64 0, .bool false, .slice none 0 0] 79)
  have hb := ig (Below.refl V1.heap.size V1) (.cells #[.int .i64 0, .bool false, .slice none 0 0, .int .i64 0, .bool false, .slice none 0 0] 79)
  generalize V1.alloc (.cells #[.int .i64 0, .bool false, .slice none 0 0, .int .i64 0, .bool false, .slice none 0 0] 79) = W2 at *
  obtain ⟨bx, hbx⟩ : ∃ b, b = V1.heap.size := ⟨_, rfl⟩
  rw [← hbx] at hn ⊢
  have obx : w.heap.size < bx := by rw [hbx]; exact lt_of_block (aa NR)
  clear hbx
  have kx0 : W2.cell? ⟨bx, 0, none⟩ = some (.int .i64 0) := ag hn 0
  have kx1 : W2.cell? ⟨bx, 1, none⟩ = some (.bool false) := ag hn 1
  have kx2 : W2.cell? ⟨bx, 2, none⟩ = some (.slice none 0 0) := ag hn 2
  have kx3 : W2.cell? ⟨bx, 3, none⟩ = some (.int .i64 0) := ag hn 3
  have kx4 : W2.cell? ⟨bx, 4, none⟩ = some (.bool false) := ag hn 4
  have kx5 : W2.cell? ⟨bx, 5, none⟩ = some (.slice none 0 0) := ag hn 5
  replace NR := hide ((hb.block _ (lt_of_block (aa NR))).trans (aa NR))
  replace HB := Lib.hid (ay HB.out hb)
  clear hb hn
  have r0 : W2.cell? ⟨w.heap.size, 0, none⟩ = some (.int .i64 0) := ag (aa NR) 0
  have Ob := ai (aa NR) 0
  have r1 : W2.cell? ⟨w.heap.size, 1, none⟩ = some (.int .i64 0) := ag (aa NR) 1
  have Oa := ai (aa NR) 1
  have qr := lt_of_block (aa NR)
  go_wp2_with fail
  exact bodyPost_ret (v := .tuple #[.agg #[.int .i64 0, .int .i64 0], .int .i64 2]) (by simp [results, Tryz.results24, go_sem, r0, r1, qr]) rfl
   ⟨by rw [Iu.out], HB.out.grown (mo _ _ _ _) HB.out.size (fun k hk => by injection hk with hk; omega)⟩
 ·
  have HQ := Lib.hid (show o = some q from HO.out.symm.trans hpn)
  have F1 := hide f1; have F2 := hide f2
  replace NR := hide ((hb.block _ (lt_of_block (aa NR))).trans (aa NR))
  replace HB := Lib.hid (ay HB.out hb)
  clear hb hpn HP HC f1 f2
  go_upto_region 3 with fail
  have hn := heap_alloc_new V1 (.cells #[.int .i64 s1, .bool cz, .slice A1 l1.length c1, .int .i64 s2, .bool cu, .slice A2 l2.length c2] 79)
  have hb := ig (Below.refl V1.heap.size V1) (.cells #[.int .i64 s1, .bool cz, .slice A1 l1.length c1, .int .i64 s2, .bool cu, .slice A2 l2.length c2] 79)
  generalize V1.alloc (.cells #[.int .i64 s1, .bool cz, .slice A1 l1.length c1, .int .i64 s2, .bool cu, .slice A2 l2.length c2] 79) = W2 at *
  obtain ⟨bx, hbx⟩ : ∃ b, b = V1.heap.size := ⟨_, rfl⟩
  rw [← hbx] at hn ⊢
  have obx : w.heap.size < bx := by rw [hbx]; exact lt_of_block (aa NR)
  clear hbx
  have JX := hide hn
  replace NR := hide ((hb.block _ (lt_of_block (aa NR))).trans (aa NR))
  replace HB := Lib.hid (ay HB.out hb)
  replace F1 := hide ((aa F1).below hb)
  replace F2 := hide ((aa F2).below hb)
  clear hb hn
  have kx0 : W2.cell? ⟨bx, 0, none⟩ = some (.int .i64 s1) := ag (aa JX) 0
  have ux0 := ai (aa JX) 0
  have kx1 : W2.cell? ⟨bx, 1, none⟩ = some (.bool cz) := ag (aa JX) 1
  have ux1 := ai (aa JX) 1
  have kx2 : W2.cell? ⟨bx, 2, none⟩ = some (.slice A1 l1.length c1) := ag (aa JX) 2
  have ux2 := ai (aa JX) 2
  have kx3 : W2.cell? ⟨bx, 3, none⟩ = some (.int .i64 s2) := ag (aa JX) 3
  have ux3 := ai (aa JX) 3
  have kx4 : W2.cell? ⟨bx, 4, none⟩ = some (.bool cu) := ag (aa JX) 4
  have ux4 := ai (aa JX) 4
  have kx5 : W2.cell? ⟨bx, 5, none⟩ = some (.slice A2 l2.length c2) := ag (aa JX) 5
  have ux5 := ai (aa JX) 5
  have qx := lt_of_block (aa JX)
  cases m
  ·
   have Iu := Lib.hid (show t = Wd.told q by rw [HTE.out, HQ.out]; simp [Wd.tellT])
   have ht2 : Wd.told q = t := Iu.out.symm
   have HR := hide (fun s5 qg A5 c5 l5 s6 ug A6 c6 l6 W (g1 : fw W s5 qg A5 c5 l5 (q).num) (g2 : fw W s6 ug A6 c6 l6 ((q).den : Int)) => Xd s5 qg A5 c5 l5 _ s6 ug A6 c6 l6 _ W g1 g2 (q) rfl rfl)
   rw [ht2] at HR
   replace Iu := Lib.hid (show t = t from rfl)
   clear ht2 HQ HTE HO
   go_wp2_with fail
   refine ((aa HR) s1 cz A1 c1 l1 s2 cu A2 c2 l2 _ (aa F1) (aa F2)).mono ?_
   rintro e V9 ⟨rfl, hb⟩
   replace NR := hide ((hb.block _ (lt_of_block (aa NR))).trans (aa NR))
   replace HB := Lib.hid (ay HB.out hb)
   clear hb
   have r0 : V9.cell? ⟨w.heap.size, 0, none⟩ = some (.int .i64 0) := ag (aa NR) 0
   have Ob := ai (aa NR) 0
   have r1 : V9.cell? ⟨w.heap.size, 1, none⟩ = some (.int .i64 0) := ag (aa NR) 1
   have Oa := ai (aa NR) 1
   have qr := lt_of_block (aa NR)
   go_wp2_with fail
   exact bodyPost_ret (v := .tuple #[.agg #[.int .i64 t.n, .int .i64 t.d], .int .i64 t.e]) (by simp [results, Tryz.results24, go_sem, r0, r1, qr]) rfl
    ⟨rfl, HB.out.grown (mo _ _ _ _) HB.out.size (fun k hk => by injection hk with hk; omega)⟩
  ·
   have HS := hide (fun W (hW : Below W2.heap.size W2 W) => apz s1 cz A1 c1 l1 s2 cu A2 c2 l2 q.num W ((aa F1).below hW))
   by_cases hz : q = 0
   ·
    have Iu := Lib.hid (show t = ⟨0, 0, 2⟩ by rw [HTE.out, HQ.out]; unfold Wd.tellT; dsimp only; rw [if_pos ⟨rfl, hz⟩])
    have hs0 : qi q.num = 0 := by rw [hz]; rfl
    rw [hs0] at HS
    clear hs0 hz HQ HTE HO
    go_wp2_with fail
    refine ((aa HS) _ (Below.refl _ _)).mono ?_
    rintro e V3 ⟨rfl, hb⟩
    clear kx0 ux0 kx1 ux1 kx2 ux2 kx3 ux3 kx4 ux4 kx5 ux5 qx
    replace NR := hide ((hb.block _ (lt_of_block (aa NR))).trans (aa NR))
    replace HB := Lib.hid (ay HB.out hb)
    replace JX := hide ((hb.block _ (lt_of_block (aa JX))).trans (aa JX))
    clear hb
    have r0 : V3.cell? ⟨w.heap.size, 0, none⟩ = some (.int .i64 0) := ag (aa NR) 0
    have Ob := ai (aa NR) 0
    have r1 : V3.cell? ⟨w.heap.size, 1, none⟩ = some (.int .i64 0) := ag (aa NR) 1
    have Oa := ai (aa NR) 1
    have qr := lt_of_block (aa NR)
    go_wp2_with fail
    exact bodyPost_ret (v := .tuple #[.agg #[.int .i64 0, .int .i64 0], .int .i64 2]) (by simp [results, Tryz.results24, go_sem, r0, r1, qr]) rfl
     ⟨by rw [Iu.out], HB.out.grown (mo _ _ _ _) HB.out.size (fun k hk => by injection hk with hk; omega)⟩
   ·
    have Iu := Lib.hid (show t = Wd.told (-q) by rw [HTE.out, HQ.out]; unfold Wd.tellT; dsimp only; rw [if_neg (fun h => hz h.2)]; rfl)
    have hs0 : ¬ qi q.num = 0 := fun h => hz (by
     have : q.num = 0 := by unfold qi at h; split at h <;> (try split at h) <;> omega
     exact Rat.num_eq_zero.1 this)
    obtain ⟨so, hso⟩ : ∃ so, so = qi q.num := ⟨_, rfl⟩
    rw [← hso] at HS hs0
    have e1 : (so == 0) = false := beq_eq_false_iff_ne.2 hs0
    have ht2 : Wd.told (-q) = t := Iu.out.symm
    have HR := hide (fun s5 qg A5 c5 l5 s6 ug A6 c6 l6 W (g1 : fw W s5 qg A5 c5 l5 ((-q)).num) (g2 : fw W s6 ug A6 c6 l6 (((-q)).den : Int)) => Xd s5 qg A5 c5 l5 _ s6 ug A6 c6 l6 _ W g1 g2 ((-q)) rfl rfl)
    rw [ht2] at HR
    have HNG := hide (fun s5 qg A5 c5 l5 s6 ug A6 c6 l6 W (g1 : fw W s5 qg A5 c5 l5 q.num) (g2 : fw W s6 ug A6 c6 l6 (q.den : Int)) => afb s5 qg A5 c5 l5 _ s6 ug A6 c6 l6 _ W g1 g2)
    rw [← Rat.neg_num, show (q.den : Int) = ((-q).den : Int) from by rw [Rat.neg_den]] at HNG
    replace F2 := hide (show fw W2 s2 cu A2 c2 l2 ((-q).den : Int) by rw [Rat.neg_den]; exact aa F2)
    replace Iu := Lib.hid (show t = t from rfl)
    clear ht2 HQ HTE HO hso hz
    go_wp2_with fail
    refine ((aa HS) _ (Below.refl _ _)).mono ?_
    rintro e V3 ⟨rfl, hb⟩
    clear kx0 ux0 kx1 ux1 kx2 ux2 kx3 ux3 kx4 ux4 kx5 ux5 qx
    replace NR := hide ((hb.block _ (lt_of_block (aa NR))).trans (aa NR))
    replace HB := Lib.hid (ay HB.out hb)
    replace F1 := hide ((aa F1).below hb)
    replace F2 := hide ((aa F2).below hb)
    replace JX := hide ((hb.block _ (lt_of_block (aa JX))).trans (aa JX))
    clear hb
    have kx0 : V3.cell? ⟨bx, 0, none⟩ = some (.int .i64 s1) := ag (aa JX) 0
    have ux0 := ai (aa JX) 0
    have kx1 : V3.cell? ⟨bx, 1, none⟩ = some (.bool cz) := ag (aa JX) 1
    have ux1 := ai (aa JX) 1
    have kx2 : V3.cell? ⟨bx, 2, none⟩ = some (.slice A1 l1.length c1) := ag (aa JX) 2
    have ux2 := ai (aa JX) 2
    have kx3 : V3.cell? ⟨bx, 3, none⟩ = some (.int .i64 s2) := ag (aa JX) 3
    have ux3 := ai (aa JX) 3
    have kx4 : V3.cell? ⟨bx, 4, none⟩ = some (.bool cu) := ag (aa JX) 4
    have ux4 := ai (aa JX) 4
    have kx5 : V3.cell? ⟨bx, 5, none⟩ = some (.slice A2 l2.length c2) := ag (aa JX) 5
    have ux5 := ai (aa JX) 5
    have qx := lt_of_block (aa JX)
    go_wp2_with fail
    refine ((aa HNG) s1 cz A1 c1 l1 s2 cu A2 c2 l2 _ (aa F1) (aa F2)).mono ?_
    rintro e V4 ⟨s3, rz, A3, c3, l3, s4, Cy, A4, c4, l4, rfl, f3, f4, hb⟩
    have F3 := hide f3; have F4 := hide f4
    clear kx0 ux0 kx1 ux1 kx2 ux2 kx3 ux3 kx4 ux4 kx5 ux5 qx
    replace NR := hide ((hb.block _ (lt_of_block (aa NR))).trans (aa NR))
    replace HB := Lib.hid (ay HB.out hb)
    replace JX := hide ((hb.block _ (lt_of_block (aa JX))).trans (aa JX))
    clear hb f3 f4 F1 F2
    have kx0 : V4.cell? ⟨bx, 0, none⟩ = some (.int .i64 s1) := ag (aa JX) 0
    have ux0 := ai (aa JX) 0
    have kx1 : V4.cell? ⟨bx, 1, none⟩ = some (.bool cz) := ag (aa JX) 1
    have ux1 := ai (aa JX) 1
    have kx2 : V4.cell? ⟨bx, 2, none⟩ = some (.slice A1 l1.length c1) := ag (aa JX) 2
    have ux2 := ai (aa JX) 2
    have kx3 : V4.cell? ⟨bx, 3, none⟩ = some (.int .i64 s2) := ag (aa JX) 3
    have ux3 := ai (aa JX) 3
    have kx4 : V4.cell? ⟨bx, 4, none⟩ = some (.bool cu) := ag (aa JX) 4
    have ux4 := ai (aa JX) 4
    have kx5 : V4.cell? ⟨bx, 5, none⟩ = some (.slice A2 l2.length c2) := ag (aa JX) 5
    have ux5 := ai (aa JX) 5
    have qx := lt_of_block (aa JX)
    go_upto_region 7 with fail
    have hg := kg V4 bx (.int .i64 s3) (.bool rz) (.slice A3 l3.length c3) (.int .i64 s4) (.bool Cy) (.slice A4 l4.length c4)
    have hblk := ama (u0 := .int .i64 s3) (u1 := .bool rz) (u2 := .slice A3 l3.length c3) (u3 := .int .i64 s4) (u4 := .bool Cy) (u5 := .slice A4 l4.length c4) (aa JX)
    have hjr := (hg.block w.heap.size (lt_of_block (aa NR)) (fun e => by injection e with e; omega)).trans (aa NR)
    replace F3 := hide ((aa F3).upto (aa JX) (ui _ _ _ _ _ _ _ _ _ _) hg)
    replace F4 := hide ((aa F4).upto (aa JX) (ui _ _ _ _ _ _ _ _ _ _) hg)
    replace HB := Lib.hid (HB.out.grown hg HB.out.size (fun k hk => by injection hk with hk; omega))
    clear kx0 ux0 kx1 ux1 kx2 ux2 kx3 ux3 kx4 ux4 kx5 ux5 qx
    generalize ((((((V4.setCell ⟨bx, 0, none⟩ (.int .i64 s3)).setCell ⟨bx, 1, none⟩ (.bool rz)).setCell ⟨bx, 2, none⟩ (.slice A3 l3.length c3)).setCell ⟨bx, 3, none⟩ (.int .i64 s4)).setCell ⟨bx, 4, none⟩ (.bool Cy)).setCell ⟨bx, 5, none⟩ (.slice A4 l4.length c4)) = W5 at *
    replace NR := hide hjr
    clear JX hg hjr
    have kx0 : W5.cell? ⟨bx, 0, none⟩ = some (.int .i64 s3) := ag hblk 0
    have kx1 : W5.cell? ⟨bx, 1, none⟩ = some (.bool rz) := ag hblk 1
    have kx2 : W5.cell? ⟨bx, 2, none⟩ = some (.slice A3 l3.length c3) := ag hblk 2
    have kx3 : W5.cell? ⟨bx, 3, none⟩ = some (.int .i64 s4) := ag hblk 3
    have kx4 : W5.cell? ⟨bx, 4, none⟩ = some (.bool Cy) := ag hblk 4
    have kx5 : W5.cell? ⟨bx, 5, none⟩ = some (.slice A4 l4.length c4) := ag hblk 5
    clear hblk
    go_wp2_with fail
    refine ((aa HR) s3 rz A3 c3 l3 s4 Cy A4 c4 l4 _ (aa F3) (aa F4)).mono ?_
    rintro e V9 ⟨rfl, hb⟩
    replace NR := hide ((hb.block _ (lt_of_block (aa NR))).trans (aa NR))
    replace HB := Lib.hid (ay HB.out hb)
    clear hb
    have r0 : V9.cell? ⟨w.heap.size, 0, none⟩ = some (.int .i64 0) := ag (aa NR) 0
    have Ob := ai (aa NR) 0
    have r1 : V9.cell? ⟨w.heap.size, 1, none⟩ = some (.int .i64 0) := ag (aa NR) 1
    have Oa := ai (aa NR) 1
    have qr := lt_of_block (aa NR)
    go_wp2_with fail
    exact bodyPost_ret (v := .tuple #[.agg #[.int .i64 t.n, .int .i64 t.d], .int .i64 t.e]) (by simp [results, Tryz.results24, go_sem, r0, r1, qr]) rfl
     ⟨rfl, HB.out.grown (mo _ _ _ _) HB.out.size (fun k hk => by injection hk with hk; omega)⟩

theorem acf (s : ByteArray) (w : World) (hT : og w) (hs : s.size ≤ 9223372036854775806) :
  Calls Tryz.prog 24 #[.string s] w fun e w' => bic w (Wd.Tf s.data.toList) e w' := by
 rw [Wd.aqu]
 by_cases h : s.data.toList.head? = some 45
 ·
  rw [if_pos h]
  have hl : (⟨s.data.toList.tail.toArray⟩ : ByteArray).size ≤ 9223372036854775806 := by
   rw [← ou]
   show s.data.toList.tail.length ≤ _
   rw [List.length_tail, ou]; omega
  exact Ey s ⟨s.data.toList.tail.toArray⟩ true _ rfl w hT (fun W => aww s h W) (fun W hW => afg _ W hW hl)
 ·
  rw [if_neg h]
  exact Ey s s false _ rfl w hT (fun W => akw s h W) (fun W hW => afg s W hW hs)


namespace Sb
theorem bdy (s : ByteArray) (c : UInt8) (w : World) (hs : s.size < 4294967281) :
  Calls Tryz.prog 208 #[.string s, .string ⟨#[c]⟩] w fun e w' =>
   e = .returned (.slice (some ⟨w.heap.size, 0, none⟩) (Lib.countB s ⟨#[c]⟩ + 1) (Lib.countB s ⟨#[c]⟩ + 1)) ∧ w' = w.alloc (.cells ((Lib.splitB ⟨#[c]⟩ 0 (Lib.countB s ⟨#[c]⟩) s).map Value.string).toArray 9) := by
 have h1 : 1 ≤ (⟨#[c]⟩ : ByteArray).size := Nat.le_refl 1
 have hle := Lib.countB_le ⟨#[c]⟩ h1 s.size s (Nat.le_refl _)
 have hlen := Lib.splitB_all ⟨#[c]⟩ h1 0 _ s rfl
 have c0 := Any.strings_genSplit_core (P := Tryz.prog) Tryz.lays221 kr s ⟨#[c]⟩ 0 (-1) (Lib.countB s ⟨#[c]⟩ + 1) w hs h1 (Nat.zero_le _)
  (fun x cs hx => (Tryz.strings_Index_one x c _).mono fun e w' ⟨he, hw⟩ => ⟨he.trans (by
   show _ = Ending.returned (Value.int .i64 (Lib.index x.data.toList [c]))
   rw [Lib.index_one]), hw⟩)
  ((Tryz.strings_Count_one s c w).mono fun e w' ⟨he, hw⟩ => ⟨he.trans (by
   show _ = Ending.returned (Value.int .i64 ((Lib.count s.data.toList [c] : Nat) : Int))
   rw [Lib.count_one]
   rfl), hw⟩) de de (by rw [if_pos de]; omega)
 rw [Nat.add_sub_cancel, hlen] at c0
 have e2 : Lib.cellsOf (Lib.splitB ⟨#[c]⟩ 0 (Lib.countB s ⟨#[c]⟩) s) (Lib.countB s ⟨#[c]⟩ + 1) = ((Lib.splitB ⟨#[c]⟩ 0 (Lib.countB s ⟨#[c]⟩) s).map Value.string).toArray := by rw [← hlen]; exact Lib.cellsOf_full _
 rw [e2] at c0
 go_enter Tryz.func208, Tryz.ntmps208
 go_wp2_with (go_at_call 234; refine c0.mono ?_; rintro e w' ⟨rfl, hw⟩; rw [hw])
 go_ret
 exact ⟨rfl, rfl⟩
example : Lib.splitB ⟨#[46]⟩ 0 (Lib.countB ⟨#[107, 78, 46, 109]⟩ ⟨#[46]⟩) ⟨#[107, 78, 46, 109]⟩ = [⟨#[107, 78]⟩, ⟨#[109]⟩] := by kernel_rfl
example : Lib.splitB ⟨#[46]⟩ 0 (Lib.countB ⟨#[115, 50]⟩ ⟨#[46]⟩) ⟨#[115, 50]⟩ = [⟨#[115, 50]⟩] := by kernel_rfl

theorem Zj (b : Int) (w : World) : Calls Tryz.prog 235 #[.int .u8 b] w fun e w' => e = .returned (.bool (Dr b)) ∧ w' = w := by
 obtain ⟨v, hv⟩ : ∃ v, v = Dr b := ⟨_, rfl⟩
 rw [← hv]
 unfold Dr at hv
 have HV := hide hv
 clear hv
 by_cases h1 : 97 ≤ b <;> by_cases h2 : b ≤ 122 <;> by_cases h3 : 65 ≤ b <;> by_cases h4 : b ≤ 90
 all_goals
  have hv := aa HV
  clear HV
  simp only [h1, h2, h3, h4, decide_true, decide_false, Bool.and_true, Bool.and_false, Bool.true_and, Bool.false_and, Bool.or_true, Bool.or_false, Bool.true_or, Bool.false_or] at hv
  subst hv
  go_enter Tryz.func235, Tryz.ntmps235
  go_wp2_with fail
  go_ret
  exact ⟨rfl, rfl⟩
def Us (n : ByteArray) (p : Int) (b : Bool) : World → Value → Prop := jw [ax [.v (.string n), iv p], Rg.au (.bool b)]
theorem akr {w : World} {n : ByteArray} {p : Int} {b : Bool} : Us n p b w (.tuple #[.agg #[.string n, .int .i64 p], .bool b]) :=
 ⟨[_, _], rfl, _, _, rfl, ⟨_, rfl, fu.v (Zc _) (fu.v (lh _) rfl)⟩, _, _, rfl, rfl, rfl⟩
theorem aaz (s : ByteArray) (hl : ∀ j (h : j < s.size), Dr (s[j].toNat : Int) = true) (h0 : 0 < s.size) (hs : s.size ≤ 1000000) (w : World) :
  Calls Tryz.prog 209 #[.string s] w (ic (Us s 1 true) w) := by
 have HL := hide (fun W b => Zj b W)
 have HH := hide hl
 clear hl
 have z0 : ((s.size : Int) == 0) = false := beq_eq_false_iff_ne.2 om
 go_enter Tryz.func209, Tryz.ntmps209
 go_wp2_with fail
 go_loop [4] (fun i => ∃ k : Nat, k ≤ s.size ∧ i = .int .i64 k) (fun i => s.size - (intOf i).toNat)
 case atStart => exact ⟨0, Nat.zero_le _, rfl⟩
 case round =>
  obtain ⟨k, hk, rfl⟩ := hrel
  by_cases hlt : k < s.size
  ·
   have e1 := (aa HH) k hlt
   go_wp2_with (go_at_call 235; refine ((aa HL) _ _).mono ?_; rintro e w' ⟨rfl, rfl⟩; rw [e1])
   go_round
   case rel => exact ⟨k + 1, by omega, by go_num⟩
   case measure => simp [intOf]; omega
  ·
   obtain rfl : k = s.size := by omega
   go_wp2_with fail
   exact bodyPost_ret (v := .tuple #[.agg #[.string s, .int .i64 1], .bool true]) (by simp [results, Tryz.results209, go_sem]) rfl ⟨_, rfl, ig (Below.refl _ _) _, akr⟩
end Sb

namespace Sb
def facC : List (ByteArray × Int) → List Value
 | [] => []
 | f :: l => .string f.1 :: .int .i64 f.2 :: facC l
theorem ahm : ∀ l k : List (ByteArray × Int), facC (l ++ k) = facC l ++ facC k
 | [], _ => rfl
 | f :: l, k => by rw [List.cons_append, facC, facC, ahm l k]; rfl
def Ao (w : World) (base : Nat) (v : Value) (l : List (ByteArray × Int)) : Prop := w.ownsRow base 181 2 v l.length (facC l)
theorem Ao.nil (w : World) (base : Nat) : Ao w base (.slice none 0 0) [] := World.ownsRow_nil _ _ _ _
theorem Ao.ge {w : World} {base : Nat} {v : Value} {l : List (ByteArray × Int)} (h : Ao w base v l) : ∀ g, v.ownBlock = some g → base ≤ g := fun g hg => (h.lt g hg).1
theorem Ao.below {w w' : World} {base : Nat} {v : Value} {l : List (ByteArray × Int)} (h : Ao w base v l) (hb : Below w.heap.size w w') : Ao w' base v l := by
 obtain ⟨h1, h2 | ⟨g, cap, cur, e, h3, h4, h5⟩⟩ := h
 ·
  exact ⟨h1, .inl h2⟩
 ·
  exact ⟨h1, .inr ⟨g, cap, cur, e, h3, (hb.block _ (lt_of_block h4)).trans h4, h5⟩⟩
theorem Ao.ne {w : World} {base b : Nat} {v : Value} {l : List (ByteArray × Int)} {cs : Array Value} (h : Ao w base v l) (hb : w.heap[b]? = some (.cells cs 9 (0, 0))) : some b ≠ v.ownBlock := by
 intro e
 obtain ⟨_, ⟨rfl, _⟩ | ⟨g, cap, cur, rfl, _, h4, _⟩⟩ := h
 ·
  cases e
 ·
  injection e with e
  subst e
  have h5 := hb.symm.trans h4
  injection h5 with h5
  injection h5 with _ h5 _
  exact absurd h5 de
theorem bbv : (Tryz.prog.info? 181).map (fun i => (i.zero, i.size, i.bytes)) = some (some (.agg #[.string ⟨#[]⟩, .int .i64 0]), 2, 24) := by kernel_rfl
theorem awk {w : World} {n : ByteArray} {p : Int} {b : Bool} {u : Value} (h : Us n p b w u) : u = .tuple #[.agg #[.string n, .int .i64 p], .bool b] := by
 obtain ⟨vs, rfl, u1, r, rfl, ⟨cs, rfl, h1⟩, u2, r2, rfl, h2, rfl⟩ := h
 obtain ⟨r1, rfl, _, h3⟩ := fu.Ci h1
 obtain ⟨r2, rfl, _, h4⟩ := fu.Ci h3
 cases h4
 have h2' : u2 = .bool b := h2
 subst h2'
 rfl
def Vo (w0 : World) (l : List (ByteArray × Int)) (e : Ending) (w' : World) : Prop := ∃ v', e = .returned (.tuple #[v', .bool true]) ∧ Ao w' w0.heap.size v' l ∧ Below w0.heap.size w0 w'
theorem aot {w : World} {n : ByteArray} {p : Int} {T : TypeId} {b : Nat} (hb : b = w.heap.size) : ∀ (j : Nat) u, [Value.string n, .int .i64 p][j]? = some u → (w.alloc (.cells #[.string n, .int .i64 p] T)).cell? ((⟨b, 0, none⟩ : Addr).add j) = some u := by
 intro j u h
 subst hb
 have h1 := ag (heap_alloc_new w (.cells #[.string n, .int .i64 p] T)) j
 rw [show (⟨w.heap.size, 0, none⟩ : Addr).add j = ⟨w.heap.size, j, none⟩ by (simp [Addr.add]; try omega), h1]
 simpa using h
theorem bag {n : ByteArray} {p : Int} : ∀ u ∈ [Value.string n, .int .i64 p], u.oneCell' = true := by
 intro u hu
 simp only [List.mem_cons, List.not_mem_nil, or_false] at hu
 rcases hu with rfl | rfl <;> rfl
theorem abb (s : ByteArray) (ps : List ByteArray) (fs : List (ByteArray × Int)) (l : List (ByteArray × Int)) (sg : Int) (v : Value) (w0 w : World)
  (hsp : Lib.splitB ⟨#[46]⟩ 0 (Lib.countB s ⟨#[46]⟩) s = ps) (hs : s.size ≤ 600) (hlen : fs.length = ps.length) (hl : l.length ≤ 1000000)
  (hrf : ∀ (k : Nat) (p : ByteArray) (f : ByteArray × Int), ps[k]? = some p → fs[k]? = some f → ∀ W, Calls Tryz.prog 209 #[.string p] W (ic (Us f.1 f.2 true) W))
  (hown : Ao w w0.heap.size v l) (hb0 : Below w0.heap.size w0 w) :
  Calls Tryz.prog 170 #[v, .string s, .int .i64 sg] w fun e w' => Vo w0 (l ++ fs.map (fun (f : ByteArray × Int) => (f.1, wrap64 (f.2 * sg)))) e w' := by
 have hcount : Lib.countB s ⟨#[46]⟩ + 1 = ps.length := by rw [← hsp]; exact (Lib.splitB_all ⟨#[46]⟩ (Nat.le_refl 1) 0 _ s rfl).symm
 have hps : ps.length ≤ 601 := by
  have := Lib.countB_le ⟨#[46]⟩ (Nat.le_refl 1) s.size s (Nat.le_refl _)
  omega
 have HS := hide (bdy s 46 w om)
 rw [hsp, hcount] at HS
 obtain ⟨gs, hgs⟩ : ∃ gs, gs = fs.map (fun (f : ByteArray × Int) => (f.1, wrap64 (f.2 * sg))) := ⟨_, rfl⟩
 have hg : ∀ (k : Nat) (f : ByteArray × Int), fs[k]? = some f → gs[k]? = some (f.1, wrap64 (f.2 * sg)) := fun k f hf => by rw [hgs, List.getElem?_map, hf]; rfl
 have hgl : gs.length = ps.length := by rw [hgs, List.length_map, hlen]
 rw [← hgs]
 obtain ⟨n, hn⟩ : ∃ n, n = ps.length := ⟨_, rfl⟩
 rw [← hn] at HS hgl hlen hps
 have HRF := hide hrf
 have HG := hide (And.intro hg (And.intro hgl hlen))
 have HN := hide hn
 obtain ⟨i0, hi0, hz0, hz1, hz2⟩ := info_parts bbv
 clear hsp hcount hrf hgs hg hgl hlen hn hs
 go_enter Tryz.func170, Tryz.ntmps170
 go_wp2_with fail
 refine (aa HS).mono ?_
 rintro e W1 ⟨rfl, hW1⟩
 have hP : W1.heap[w.heap.size]? = some (.cells (ps.map Value.string).toArray 9 (0, 0)) := by rw [hW1]; exact heap_alloc_new w _
 have hbW : Below w.heap.size w W1 := by rw [hW1]; exact ig (Below.refl _ _) _
 replace hown := hown.below hbW
 replace hb0 := ay hb0 hbW
 obtain ⟨pb, hpb⟩ : ∃ pb, pb = w.heap.size := ⟨_, rfl⟩
 rw [← hpb] at hP
 rw [← hpb]
 clear hW1 hbW HS hpb
 try dsimp only
 go_wp2_with fail
 go_loopw [0, 15] (fun lv kv wr => ∃ k : Nat, k ≤ n ∧ kv = .int .i64 ((k : Nat) : Int) ∧ Ao wr w0.heap.size lv (l ++ gs.take k) ∧ wr.heap[pb]? = some (.cells (ps.map Value.string).toArray 9 (0, 0)) ∧ Below w0.heap.size w0 wr) (fun _ kv _ => n - (intOf kv).toNat)
 case atStart => exact ⟨0, Nat.zero_le _, rfl, by simpa using hown, hP, hb0⟩
 case round =>
  clear hown hP hb0
  obtain ⟨k, hk, rfl, hown, hP, hb0⟩ := hrel
  by_cases hlt : k < n
  ·
   obtain ⟨p, hp⟩ : ∃ p, ps[k]? = some p := ⟨_, List.getElem?_eq_getElem (by have := aa HN; omega)⟩
   obtain ⟨f, hf⟩ : ∃ f, fs[k]? = some f := ⟨_, List.getElem?_eq_getElem (by have := (aa HG).2.2; omega)⟩
   have Ff := hide ((aa HG).1 k f hf)
   have HR := hide ((aa HRF) k p f hp hf)
   have hc : wr.cell? ⟨pb, k, none⟩ = some (.string p) := by rw [ag hP]; simp [hp]
   clear hp hf
   go_wp2_with fail
   refine ((aa HR) _).mono ?_
   rintro e W2 ⟨u, rfl, hb2, hu⟩
   obtain rfl := awk hu
   replace hown := hown.below hb2
   replace hP := (hb2.block _ (lt_of_block hP)).trans hP
   replace hb0 := ay hb0 hb2
   clear hu hb2 hc
   try dsimp only
   go_wp2_with (first | (at_builtin; go_loud (refine wpList_append_own _ rfl _ _ 127 rfl w0.heap.size 181 i0 (.agg #[.string ⟨#[]⟩, .int .i64 0]) 2 24 Tryz.underlying127 hi0 hz0 hz1 hz2 rfl de _ _ _ rfl ((hown.alloc _).alloc _) ⟨_, 0, none⟩ 1 1 [.string f.1, .int .i64 (wrap64 (f.2 * sg))] rfl rfl (aot (by simp only [World.size_alloc])) bag (by unfold maxLen; simp; omega) (by simp; omega) (by simp; have := hb0.size; omega) ?_; intro v' w1 hown1 hgrow1 _)) | fail)
   have hbX : Below W2.heap.size W2 ((W2.alloc (.cells #[.string f.1, .int .i64 (wrap64 (f.2 * sg))] 181)).alloc (.cells #[.string f.1, .int .i64 (wrap64 (f.2 * sg))] 181)) := ig (ig (Below.refl _ _) _) _
   have hne := hown.ne hP
   have hb1 := ay hb0 hbX
   have ht : gs.take (k + 1) = gs.take k ++ [(f.1, wrap64 (f.2 * sg))] := by rw [List.take_add_one, aa Ff]; rfl
   refine ⟨⟨k + 1, by omega, by push_cast; rfl, ?_, ?_, hb1.grown hgrow1 hb1.size hown.ge⟩, by simp [intOf]; omega⟩
   ·
    rw [ht, ← List.append_assoc]
    unfold Ao
    rw [ahm (l ++ gs.take k), show (l ++ gs.take k ++ [(f.1, wrap64 (f.2 * sg))]).length = (l ++ gs.take k).length + 1 from List.length_append]
    exact hown1
   ·
    have hlt1 : pb < W2.heap.size := lt_of_block hP
    exact (hgrow1.block pb (Nat.lt_of_lt_of_le hlt1 hbX.size) hne).trans ((hbX.block pb hlt1).trans hP)
  ·
   obtain rfl : k = n := by omega
   have htk : gs.take k = gs := List.take_of_length_le (by have := (aa HG).2.1; omega)
   rw [htk] at hown
   clear htk hP
   go_wp2_with fail
   go_ret2
   exact ⟨_, rfl, hown, hb0⟩
def Lr (W : World) (g i : Nat) (nm : ByteArray) (p : Int) : Prop := W.cell? ⟨g, 2 * i, none⟩ = some (.string nm) ∧ W.cell? ⟨g, 2 * i + 1, none⟩ = some (.int .i64 p)
theorem Lr.below {W W' : World} {g i : Nat} {nm : ByteArray} {p : Int} {B : Nat} (h : Lr W g i nm p) (hb : Below B W W') (hg : g < B) : Lr W' g i nm p := by
 have e := hb.block g hg
 exact ⟨(World.cell?_of_block e).trans h.1, (World.cell?_of_block e).trans h.2⟩
theorem Lr.lt {W : World} {g i : Nat} {nm : ByteArray} {p : Int} (h : Lr W g i nm p) : g < W.heap.size := World.block_lt_of_cell? W _ h.1
def Sa (W : World) (ao : Option Addr) (fs : List (ByteArray × Int)) : Prop := ∀ k f, fs[k]? = some f → ∃ g, ao = some ⟨g, 0, none⟩ ∧ Lr W g k f.1 f.2
theorem Sa.below {W W' : World} {ao : Option Addr} {fs : List (ByteArray × Int)} (h : Sa W ao fs) (hb : dz W W') : Sa W' ao fs := fun k f hf => by
 obtain ⟨g, e, h1⟩ := h k f hf
 exact ⟨g, e, h1.below hb h1.lt⟩
def Fj (fs : List (ByteArray × Int)) : World → Value → Prop := fun W v => ∃ ao c, v = .slice ao fs.length c ∧ Sa W ao fs
theorem Qq (fs : List (ByteArray × Int)) : Rg.Da dz (Fj fs) := by
 rintro w w' v hb ⟨g, c, rfl, h⟩
 exact ⟨g, c, rfl, h.below hb⟩
theorem ahl : ∀ (l : List (ByteArray × Int)) (k : Nat) (f : ByteArray × Int), l[k]? = some f → (facC l)[2 * k]? = some (.string f.1) ∧ (facC l)[2 * k + 1]? = some (.int .i64 f.2)
 | [], k, f, h => by simp at h
 | a :: l, 0, f, h => by
  simp only [List.getElem?_cons_zero, Option.some.injEq] at h
  subst h
  exact ⟨rfl, rfl⟩
 | a :: l, k + 1, f, h => by
  have h1 := ahl l k f (by simpa using h)
  rw [facC, show 2 * (k + 1) = 2 * k + 1 + 1 by omega, show 2 * k + 1 + 1 + 1 = (2 * k + 1) + 1 + 1 by omega]
  exact ⟨by simpa using h1.1, by simpa using h1.2⟩
theorem Ao.ant {W : World} {base : Nat} {v : Value} {l : List (ByteArray × Int)} (h : Ao W base v l) : Fj l W v := by
 have h0 := h
 obtain ⟨_, ⟨rfl, h2⟩ | ⟨g, cap, cur, rfl, h3⟩⟩ := h
 ·
  obtain rfl := List.length_eq_zero_iff.1 h2
  exact ⟨none, 0, rfl, fun k f hf => by simp at hf⟩
 ·
  refine ⟨_, cap, rfl, fun k f hf => ⟨g, rfl, ?_⟩⟩
  have hc := World.ownsRow.cells (g := g) h0 rfl
  obtain ⟨h4, h5⟩ := ahl l k f hf
  have e : ∀ j, (⟨g, 0, none⟩ : Addr).add j = ⟨g, j, none⟩ := fun j => by (simp [Addr.add]; try omega)
  have h6 := hc _ _ h4
  have h7 := hc _ _ h5
  rw [e] at h6 h7
  exact ⟨h6, h7⟩
theorem akb (s a b : ByteArray) (l1 l2 : List (ByteArray × Int)) (w : World)
  (hcut : ∀ W, Calls Tryz.prog 155 #[.string s, .string ⟨#[47]⟩] W fun e w' => e = .returned (.tuple #[.string a, .string b, .bool true]) ∧ Below W.heap.size W w') (ha : (a.toList == [49]) = false)
  (h1 : ∀ w0 W v, Ao W w0.heap.size v [] → Below w0.heap.size w0 W → Calls Tryz.prog 170 #[v, .string a, .int .i64 1] W fun e w' => Vo w0 l1 e w')
  (h2 : ∀ w0 W v, Ao W w0.heap.size v l1 → Below w0.heap.size w0 W → Calls Tryz.prog 170 #[v, .string b, .int .i64 (-1)] W fun e w' => Vo w0 l2 e w') :
  Calls Tryz.prog 115 #[.string s] w (ic (jw [Fj l2, Rg.au (.bool true)]) w) := by
 have HC := hide hcut
 have H1 := hide h1
 have H2 := hide h2
 clear hcut h1 h2
 go_enter Tryz.func115, Tryz.ntmps115
 go_wp2_with fail
 refine ((aa HC) _).mono ?_
 rintro e W1 ⟨rfl, hb⟩
 try dsimp only
 go_wp2_with fail
 refine ((aa H1) w W1 _ (Ao.nil _ _) hb).mono ?_
 rintro e W2 ⟨v1, rfl, hf1, hb1⟩
 clear hb
 try dsimp only
 go_wp2_with fail
 refine ((aa H2) w W2 _ hf1 hb1).mono ?_
 rintro e W3 ⟨v2, rfl, hf2, hb2⟩
 clear hb1 hf1
 try dsimp only
 go_wp2_with fail
 go_ret2
 exact ⟨_, rfl, hb2, [_, _], rfl, _, _, rfl, hf2.ant, _, _, rfl, rfl, rfl⟩
theorem auq (s a b : ByteArray) (l1 : List (ByteArray × Int)) (w : World)
  (hcut : ∀ W, Calls Tryz.prog 155 #[.string s, .string ⟨#[47]⟩] W fun e w' => e = .returned (.tuple #[.string a, .string b, .bool false]) ∧ Below W.heap.size W w') (ha : (a.toList == [49]) = false)
  (h1 : ∀ w0 W v, Ao W w0.heap.size v [] → Below w0.heap.size w0 W → Calls Tryz.prog 170 #[v, .string a, .int .i64 1] W fun e w' => Vo w0 l1 e w') :
  Calls Tryz.prog 115 #[.string s] w (ic (jw [Fj l1, Rg.au (.bool true)]) w) := by
 have HC := hide hcut
 have H1 := hide h1
 clear hcut h1
 go_enter Tryz.func115, Tryz.ntmps115
 go_wp2_with fail
 refine ((aa HC) _).mono ?_
 rintro e W1 ⟨rfl, hb⟩
 try dsimp only
 go_wp2_with fail
 refine ((aa H1) w W1 _ (Ao.nil _ _) hb).mono ?_
 rintro e W2 ⟨v1, rfl, hf1, hb1⟩
 clear hb
 try dsimp only
 go_wp2_with fail
 go_ret2
 exact ⟨_, rfl, hb1, [_, _], rfl, _, _, rfl, hf1.ant, _, _, rfl, rfl, rfl⟩
theorem aur (s a b : ByteArray) (l1 : List (ByteArray × Int)) (w : World)
  (hcut : ∀ W, Calls Tryz.prog 155 #[.string s, .string ⟨#[47]⟩] W fun e w' => e = .returned (.tuple #[.string a, .string b, .bool true]) ∧ Below W.heap.size W w') (ha : (a.toList == [49]) = true)
  (h1 : ∀ w0 W v, Ao W w0.heap.size v [] → Below w0.heap.size w0 W → Calls Tryz.prog 170 #[v, .string b, .int .i64 (-1)] W fun e w' => Vo w0 l1 e w') :
  Calls Tryz.prog 115 #[.string s] w (ic (jw [Fj l1, Rg.au (.bool true)]) w) := by
 have HC := hide hcut
 have H1 := hide h1
 clear hcut h1
 go_enter Tryz.func115, Tryz.ntmps115
 go_wp2_with fail
 refine ((aa HC) _).mono ?_
 rintro e W1 ⟨rfl, hb⟩
 try dsimp only
 go_wp2_with fail
 refine ((aa H1) w W1 _ (Ao.nil _ _) hb).mono ?_
 rintro e W2 ⟨v1, rfl, hf1, hb1⟩
 clear hb
 try dsimp only
 go_wp2_with fail
 go_ret2
 exact ⟨_, rfl, hb1, [_, _], rfl, _, _, rfl, hf1.ant, _, _, rfl, rfl, rfl⟩
theorem aqk (s a b : ByteArray) (l1 : List (ByteArray × Int)) (w : World)
  (hcut : ∀ W, Calls Tryz.prog 155 #[.string s, .string ⟨#[47]⟩] W fun e w' => e = .returned (.tuple #[.string a, .string b, .bool false]) ∧ Below W.heap.size W w') (ha : (a.toList == [49]) = true) (hl : l1 = []) :
  Calls Tryz.prog 115 #[.string s] w (ic (jw [Fj l1, Rg.au (.bool true)]) w) := by
 have HC := hide hcut
 subst hl
 clear hcut
 go_enter Tryz.func115, Tryz.ntmps115
 go_wp2_with fail
 refine ((aa HC) _).mono ?_
 rintro e W1 ⟨rfl, hb⟩
 try dsimp only
 go_wp2_with fail
 go_ret2
 exact ⟨_, rfl, hb, [_, _], rfl, _, _, rfl, (Ao.nil W1 0).ant, _, _, rfl, rfl, rfl⟩
end Sb

namespace Sb
theorem bfh : Dk Tryz.prog 181 2 := by
 intro ρ w d x b off us ty pos af gd hl hc hx
 match us, hl with
 | [u0, u1], _ =>
 have k0 : w.cell? ⟨b, off, none⟩ = some u0 := hc 0 om
 have k1 : w.cell? ⟨b, off + 1, none⟩ = some u1 := hc 1 om
 clear hc
 simp only [execOp, hx]
 simp [go_sem, k0, k1]
theorem bai : zh Tryz.prog 181 2 := by
 intro ρ w d p x b off cs TB us ty pos af gd hl hu hb ho hp hx
 match us, hl with
 | [u0, u1], _ =>
 have o0 := hu u0 (by simp)
 have o1 := hu u1 (by simp)
 have f0 : w.frozen? ⟨b, off, none⟩ = false := ai hb _
 have f1 : w.frozen? ⟨b, off + 1, none⟩ = false := ai hb _
 obtain ⟨c0, k0⟩ : ∃ c, w.cell? ⟨b, off, none⟩ = some c := jk hb om
 obtain ⟨c1, k1⟩ : ∃ c, w.cell? ⟨b, off + 1, none⟩ = some c := jk hb om
 have hlt := lt_of_block hb
 clear hb ho hu
 simp only [execOp, hp, hx, setM]
 simp [go_sem, hlt, run_store _ _ _ _ _ o0, o0, run_store _ _ _ _ _ o1, o1, k0, k1, f0, f1]
theorem bjm : Jy Tryz.prog 181 [.string ⟨#[]⟩, .int .i64 0] := by
 intro ρ w d ty pos af gd
 simp only [execOp]
 simp [go_sem]
theorem bdd : Eu Tryz.prog (fun x => .fieldAddr 181 x 0) 0 := by
 intro a w d x b off ty pos af gd hx
 have hc : ∀ v, a.eval (.const v) = v := fun _ => rfl
 simp only [execOp, hx, hc]
 simp [go_sem]
theorem aps {Q : Exit → Act → World → Prop} {l : List Oper} {n : Nat} {T : Nat → World → Value → Prop} {G : World → Prop} {al : List Nat} {a0 : Act} {k d : Nat} {ty : TypeId} {pos : String} {af : Array Edge} {gd : Option (Nat × Bool)} {b off off' : Nat} {x : Operand} (hal : al.contains k = false) (hx : Rg.ib l n T a0 k x (Rg.au (.pointer (some ⟨b, off, none⟩)))) (ho : off + 0 = off') (hT : T k = Rg.au (.pointer (some ⟨b, off', none⟩))) :
  Rg.Step Tryz.prog Q l n T G dz al a0 k { dst := some d, op := .fieldAddr 181 x 0, type := ty, pos := pos, after := af, guard := gd } := by
 exact Fq (P := Tryz.prog) (o := fun x => .fieldAddr 181 x 0) bdd hal hx ho hT
theorem bdc : Eu Tryz.prog (fun x => .fieldAddr 181 x 1) 1 := by
 intro a w d x b off ty pos af gd hx
 have hc : ∀ v, a.eval (.const v) = v := fun _ => rfl
 simp only [execOp, hx, hc]
 simp [go_sem]
theorem apr {Q : Exit → Act → World → Prop} {l : List Oper} {n : Nat} {T : Nat → World → Value → Prop} {G : World → Prop} {al : List Nat} {a0 : Act} {k d : Nat} {ty : TypeId} {pos : String} {af : Array Edge} {gd : Option (Nat × Bool)} {b off off' : Nat} {x : Operand} (hal : al.contains k = false) (hx : Rg.ib l n T a0 k x (Rg.au (.pointer (some ⟨b, off, none⟩)))) (ho : off + 1 = off') (hT : T k = Rg.au (.pointer (some ⟨b, off', none⟩))) :
  Rg.Step Tryz.prog Q l n T G dz al a0 k { dst := some d, op := .fieldAddr 181 x 1, type := ty, pos := pos, after := af, guard := gd } := by
 exact Fq (P := Tryz.prog) (o := fun x => .fieldAddr 181 x 1) bdc hal hx ho hT
theorem amg {ρ : Operand → Value} {w : World} {d : Option Tmp} {x y : Operand} {p q : Int} {ty : TypeId} {pos : String} {af : Array Edge} {gd : Option (Nat × Bool)} (h1 : ρ x = .int .i64 p) (h2 : ρ y = .int .i64 q) :
  (execOp ρ { dst := d, op := .build 23 #[(0, x), (1, y)], type := ty, pos := pos, after := af, guard := gd }).run Tryz.prog w = .ok (.value (.agg #[.int .i64 p, .int .i64 q])) w := by
 simp only [execOp]
 simp [go_sem, h1, h2]
 try rfl
theorem Md {Q : Exit → Act → World → Prop} {l : List Oper} {n : Nat} {T : Nat → World → Value → Prop} {G : World → Prop} {al : List Nat} {a0 : Act} {k d : Nat} {ty : TypeId} {pos : String} {af : Array Edge} {gd : Option (Nat × Bool)} {x y : Operand} {p q : Int} (hal : al.contains k = false) (hx : Rg.ib l n T a0 k x (Rg.au (.int .i64 p))) (hy : Rg.ib l n T a0 k y (Rg.au (.int .i64 q))) (hT : T k = ax [.v (.int .i64 p), .v (.int .i64 q)]) :
  Rg.Step Tryz.prog Q l n T G dz al a0 k { dst := some d, op := .build 23 #[(0, x), (1, y)], type := ty, pos := pos, after := af, guard := gd } := by
 intro a w hG hO hN
 exact iq (P := Tryz.prog) (amg (hx a w hO hN) (hy a w hO hN)) ⟨_, rfl, hG, Below.refl _ _, by rw [hT]; exact Bd _ _ _, fun h => by rw [hal] at h; cases h⟩
abbrev zF : List jf := [.v (.string ⟨#[]⟩), iv 0]
theorem akk : aea Tryz.prog 9 := by
 intro ρ w d x b off u ty pos af gd hc hx
 simp only [execOp, hx]
 simp [go_sem, hc]
theorem bed {Q : Exit → Act → World → Prop} {l : List Oper} {n : Nat} {T : Nat → World → Value → Prop} {G : World → Prop} {al : List Nat} {a0 : Act} {k d : Nat} {ty : TypeId} {pos : String} {af : Array Edge} {gd : Option (Nat × Bool)} {x : Operand} {A : Option Addr} {m c : Nat} (hal : al.contains k = false) (hx : Rg.ib l n T a0 k x (Rg.au (.slice A m c))) (hT : T k = Rg.au (.int .i64 m)) :
  Rg.Step Tryz.prog Q l n T G dz al a0 k { dst := some d, op := .call { callee := .builtin .len, args := #[x], argTypes := #[127] }, type := ty, pos := pos, after := af, guard := gd } := by
 intro a w hG hO hN
 have h : a.eval x = .slice A m c := hx a w hO hN
 have hr : (execOp a.eval { dst := some d, op := .call { callee := .builtin .len, args := #[x], argTypes := #[127] }, type := ty, pos := pos, after := af, guard := gd }).run Tryz.prog w = .ok (.value (.int .i64 m)) w := by
  simp only [execOp, resolve, invoke, h, List.map_toArray, List.map_cons, List.map_nil]
  simp [go_sem, h, Builtin.len_]
 exact iq (P := Tryz.prog) hr ⟨_, rfl, hG, Below.refl _ _, by rw [hT]; rfl, fun h => by rw [hal] at h; cases h⟩
theorem beh {Q : Exit → Act → World → Prop} {l : List Oper} {n : Nat} {T : Nat → World → Value → Prop} {G : World → Prop} {al : List Nat} {a0 : Act} {k d : Nat} {ty : TypeId} {pos : String} {af : Array Edge} {gd : Option (Nat × Bool)} {b i m c : Nat} {x y : Operand} (hal : al.contains k = false) (hx : Rg.ib l n T a0 k x (Rg.au (.slice (some ⟨b, 0, none⟩) m c))) (hy : Rg.ib l n T a0 k y (Rg.au (.int .i64 (i : Int)))) (hi : i < m) (hT : T k = Rg.au (.pointer (some ⟨b, 2 * i, none⟩))) :
  Rg.Step Tryz.prog Q l n T G dz al a0 k { dst := some d, op := .indexAddr 127 x y, type := ty, pos := pos, after := af, guard := gd } := by
 intro a w hG hO hN
 have h1 : a.eval x = .slice (some ⟨b, 0, none⟩) m c := hx a w hO hN
 have h2 : a.eval y = .int .i64 (i : Int) := hy a w hO hN
 have hr : (execOp a.eval { dst := some d, op := .indexAddr 127 x y, type := ty, pos := pos, after := af, guard := gd }).run Tryz.prog w = .ok (.value (.pointer (some ⟨b, 2 * i, none⟩))) w := by
  simp only [execOp, h1, h2]
  simp [go_sem, hi, Nat.mul_comm]
 exact iq (P := Tryz.prog) hr ⟨_, rfl, hG, Below.refl _ _, by rw [hT]; rfl, fun h => by rw [hal] at h; cases h⟩
theorem bas {Q : Exit → Act → World → Prop} {l : List Oper} {n : Nat} {T : Nat → World → Value → Prop} {G : World → Prop} {al : List Nat} {a0 : Act} {k d : Nat} {ty : TypeId} {pos : String} {af : Array Edge} {gd : Option (Nat × Bool)} {b i : Nat} {x : Operand} {nm : ByteArray} {p : Int} (hb : ∀ W, G W → Lr W b i nm p) (hal : al.contains k = false) (hx : Rg.ib l n T a0 k x (Rg.au (.pointer (some ⟨b, 2 * i, none⟩)))) (hT : T k = ax [.v (.string nm), iv p]) :
  Rg.Step Tryz.prog Q l n T G dz al a0 k { dst := some d, op := .load 181 x, type := ty, pos := pos, after := af, guard := gd } := by
 intro a w hG hO hN
 obtain ⟨h1, h2⟩ := hb w hG
 have hr := bfh a.eval w (some d) x b (2 * i) [.string nm, .int .i64 p] ty pos af gd rfl (fun j hj => by
  have hc : j = 0 ∨ j = 1 := by omega
  rcases hc with rfl | rfl
  ·
   exact h1
  ·
   exact h2) (hx a w hO hN)
 exact iq (P := Tryz.prog) hr ⟨_, rfl, hG, Below.refl _ _, by rw [hT]; exact ⟨_, rfl, fu.v (Zc _) (fu.v (lh _) rfl)⟩, fun h => by rw [hal] at h; cases h⟩
theorem xx.setM {W : World} {r b off : Nat} {T : TypeId} {ls : List jf} {us : List Value} {L : List (ByteArray × Value)} (h : xx W r L) (hb : si W b T ls) : xx (setM W b off us) r L := by
 obtain ⟨cs, h1, _⟩ := hb
 have hne : some r ≠ some b := fun e => by
  injection e with e
  subst e
  have h2 : W.heap[r]? = _ := h
  rw [h1] at h2
  cases h2
 exact ((xh b us off W W (qb _ _)).block r (lt_of_block h) hne).trans h
theorem aox {P : Program} {ops : Array Oper} {Q : Exit → Act → World → Prop} {rest : List Oper} {a : Act} {w0 w : World} {TL TB : TypeId} {p x : Operand} {m b off : Nat} {xs ys : List wh} {pre old new post : List jf} {ty : TypeId} {pos : String} {af : Array Edge}
  (hS : zh P TL m) (hp : a.eval p = .pointer (some ⟨b, off, none⟩)) (hv : ax new w (a.eval x)) (hO : Own w0 (xs ++ (b, TB, pre ++ (old ++ post)) :: ys) w) (hm : oq new = m) (hl : oq new = oq old) (ho : off = oq pre)
  (hk : ∀ w', Own w0 (xs ++ (b, TB, pre ++ (new ++ post)) :: ys) w' → (∀ ks u, ax ks w u → ax ks w' u) → (∀ r L, xx w r L → xx w' r L) → wpList P ops Q rest a w') :
  wpList P ops Q ({ dst := none, op := .store TL p x, type := ty, pos := pos, after := af, guard := none } :: rest) a w := by
 obtain ⟨us, e, hu⟩ := hv
 have hbx := hO.box b TB _ (List.mem_append_right _ List.mem_cons_self)
 obtain ⟨hge, cs, hb, hls⟩ := hbx
 have hr := hS a.eval w none p x b off cs TB us ty pos af none (by rw [hu.len, hm]) (fun u h => (hu.noW u h).2.1) hb (by
  have h1 := hls.len
  obtain ⟨c, cd, rfl, k1, k2⟩ := hls.cut
  obtain ⟨o, d, rfl, k3, k4⟩ := k2.cut
  have e1 := k1.len
  have e3 := k3.len
  simp only [List.length_append]
  omega) hp e
 unfold wpList
 rw [if_pos (by simp [Region.wanted])]
 refine .inl ?_
 unfold Oper.wp
 rw [hr]
 exact hk _ (hO.set hu hl ho) (fun ks u h => abt ⟨cs, hb, hls⟩ h) (fun r L h => h.setM ⟨cs, hb, hls⟩)
theorem Ta {P : Program} {ops : Array Oper} {Q : Exit → Act → World → Prop} {rest : List Oper} {a : Act} {w0 w : World} {TL TB : TypeId} {p x : Operand} {m b off : Nat} {bs : List wh} {ty : TypeId} {pos : String} {af : Array Edge} (hO : Own w0 bs w) (i : Nat) (pre old new post : List jf)
  (hi : bs[i]? = some (b, TB, pre ++ (old ++ post))) (hS : zh P TL m) (hp : a.eval p = .pointer (some ⟨b, off, none⟩)) (hv : ax new w (a.eval x)) (hm : oq new = m) (hl : oq new = oq old) (ho : off = oq pre)
  (hk : ∀ w', Own w0 (bs.set i (b, TB, pre ++ (new ++ post))) w' → (∀ ks u, ax ks w u → ax ks w' u) → (∀ r L, xx w r L → xx w' r L) → wpList P ops Q rest a w') :
  wpList P ops Q ({ dst := none, op := .store TL p x, type := ty, pos := pos, after := af, guard := none } :: rest) a w := by
 obtain ⟨hlt, he⟩ := List.getElem?_eq_some_iff.1 hi
 have hbs : bs = bs.take i ++ (b, TB, pre ++ (old ++ post)) :: bs.drop (i + 1) := by
  rw [← he, ← List.drop_eq_getElem_cons hlt, List.take_append_drop]
 have hset : bs.set i (b, TB, pre ++ (new ++ post)) = bs.take i ++ (b, TB, pre ++ (new ++ post)) :: bs.drop (i + 1) := List.set_eq_take_append_cons_drop .. |>.trans (if_pos hlt)
 rw [hset] at hk
 rw [hbs] at hO
 exact aox hS hp hv hO hm hl ho hk
theorem Own.tl {w W : World} {e : wh} {bs : List wh} (h : Own w (e :: bs) W) : Own w bs W := ⟨h.bel, (List.nodup_cons.1 (by simpa using h.nd)).2, fun b T ls hm => h.box b T ls (List.mem_cons_of_mem _ hm)⟩
structure azm (w : World) (g k : Nat) (nm : ByteArray) (p : Int) (f : Nat → Int) (x : Rat) (u : Nat → Int) (y : Rat) (q : Nat → Int) (z : Rat) (f' : Nat → Int) (x' : Rat) : Prop where
 at_ : Lr w g k nm p
 find : ∀ W r, og W → xx W r wu → Calls Tryz.prog 121 #[.map (some r), .string nm] W (ic (jw [ax [.k (eK u), .q y], Rg.au (.bool true)]) W)
 pow : ∀ W v0, og W → ax [.k (eK u), .q y] W v0 → Calls Tryz.prog 104 #[v0, .int .i64 p] W (ic (ax [.k (eK q), .q z]) W)
 tim : ∀ W v0 v1, og W → ax [.k (eK f), .q x] W v0 → ax [.k (eK q), .q z] W v1 → Calls Tryz.prog 119 #[v0, v1] W (ic (ax [.k (eK f'), .q x']) W)
def Vm (w : World) (g k : Nat) (nm : ByteArray) (p : Int) (f : Nat → Int) (x : Rat) (f' : Nat → Int) (x' : Rat) : Prop := ∃ u y q z, azm w g k nm p f x u y q z f' x'
theorem Vm.parts {w : World} {g k : Nat} {nm : ByteArray} {p : Int} {f : Nat → Int} {x : Rat} {f' : Nat → Int} {x' : Rat} (h : Hid (Vm w g k nm p f x f' x')) : ∃ u y q z, Hid (azm w g k nm p f x u y q z f' x') := by
 obtain ⟨u, y, q, z, h⟩ := aa h
 exact ⟨u, y, q, z, hide h⟩
theorem acg {ao : Option Addr} {n c : Nat} {F : Nat → Nat → Int} {X : Nat → Rat} (w : World) (hT : og w) (hn : n ≤ 1000000) (hF0 : F 0 = z7) (hX0 : Wd.qR 1 1 = X 0) (ok : Wd.qm 1 1)
  (hh : ∀ k, k < n → ∃ g, ao = some ⟨g, 0, none⟩ ∧ ∃ nm p, Vm w g k nm p (F k) (X k) (F (k + 1)) (X (k + 1))) :
  Calls Tryz.prog 117 #[.slice ao n c] w (ic (jw [ax [.k (eK (F n)), .q (X n)], Rg.au (.bool true)]) w) := by
 have HT := hide hT
 have HN := hide hn
 have HF0 := hide hF0
 have HX0 := hide hX0
 have Dz := hide ok
 have HH := hide hh
 clear hT hn hF0 hX0 ok hh
 go_enter Tryz.func117, Tryz.ntmps117
 go_upto_region 1 with fail
 have hO := (Own.push (T := 118) (ls := zM) (Own.nil w) (fu.vs w [.int .i64 0, .int .i64 0, .int .i64 0, .int .i64 0, .int .i64 0, .int .i64 0, .int .i64 0, .int .i64 0, .bool false, .slice none 0 0, .int .i64 0, .bool false, .slice none 0 0] rfl) (w.heap.size) rfl)
 generalize w.alloc (.cells #[.int .i64 0, .int .i64 0, .int .i64 0, .int .i64 0, .int .i64 0, .int .i64 0, .int .i64 0, .int .i64 0, .bool false, .slice none 0 0, .int .i64 0, .bool false, .slice none 0 0] 118) = W0 at *
 have HO := hide hO
 clear hO
 go_upto_region 1 with fail
 refine Rg.di 2 37 (Rg.pick [abw wu, abw wu]) (az w _ W0) dz [] kr rfl (Rg.ek.pick ⟨Xa, Xa, trivial⟩) (az.begin (aa HO))
  (ah (Pb Tryz.func120 kr rfl az.step  (fun W  hG  => ahy W))
  (ah (ik rfl (aT 0))
  Rg.bg)) ?_
 intro v1 V1 hG1 hv1 hne1
 simp only [Rg.puts, Act.put, tA]
 obtain ⟨mr, em, hm⟩ := (show abw wu V1 (v1 1) from hv1 1 de)
 simp only [em]
 have Ac := hide hm
 clear hm
 have hO := hG1.1
 clear HO
 have HO := hide hO
 clear hO hG1 hv1 hne1
 go_upto_region 2 with fail
 refine Rg.di 3 37 (Rg.pick [ax [iv 1, iv 1], ax [.k (eK z7), .q (X 0)], qj 118 zM V1.heap.size]) (az w _ V1) dz [2] kr rfl (Rg.ek.pick ⟨bf _, bf _, qz _ _ _, trivial⟩) (az.begin (aa HO))
  (ah (Md rfl (Rg.je _) (Rg.je _) rfl)
  (ah (sc1 Tryz.func118 (aT 0) (fun W v0 hG h0 => (aa HX0) ▸ ahz (aa Dz) W _ h0))
  (ah (uh adu rfl az.step az.size rfl (xm (by intro j hj; simp at hj; (repeat' (first | (rcases hj with rfl | hj))) <;> first | (subst hj; exact ⟨_, _, _, rfl⟩) | exact ⟨_, _, _, rfl⟩)))
  Rg.bg))) ?_
 intro v2 V2 hG2 hv2 hne2
 simp only [Rg.puts, Act.put, tA]
 obtain ⟨bov, e2, agy, hz2⟩ := (show qj 118 zM V1.heap.size V2 (v2 2) from hv2 2 de)
 simp only [e2]
 have hO := hG2.1
 replace Ac := hide ((aa Ac).below hG2.2)
 replace hO := Own.add (aa HO) hG2.2 agy hz2
 clear agy hz2
 refine Ta hO 0 [] zM [.k (eK z7), .q (X 0)] [] rfl Au rfl (show ax [.k (eK z7), .q (X 0)] V2 (v2 1) from hv2 1 de) rfl rfl rfl ?_
 intro Jo jb hk0 hm0
 replace Ac := hide (hm0 _ _ (aa Ac))
 clear hm0
 replace hO := jb
 clear jb
 clear HO
 have HO := hide hO
 clear hO hG2 hv2 hne2 hk0
 try clear e2
 go_upto_region 3 with fail
 refine Rg.di 3 37 (Rg.pick [Rg.au (.slice ao n c), Rg.au (.int .i64 n), Rg.au (.int .i64 0)]) (az w _ Jo) dz [] kr rfl (Rg.ek.pick ⟨Rg.ae _, Rg.ae _, Rg.ae _, trivial⟩) (az.begin (aa HO))
  (ah (df rfl aF)
  (ah (bed rfl (aT 0) rfl)
  (ah (df rfl (Rg.je _))
  Rg.bg))) ?_
 intro v3 V3 hG3 hv3 mh
 simp only [Rg.puts, Act.put, tA]
 have e0 : v3 0 = .slice ao n c := hv3 0 de
 have e1 : v3 1 = .int .i64 n := hv3 1 de
 have e2 : v3 2 = .int .i64 0 := hv3 2 de
 simp only [e0, e1, e2]
 have hO := hG3.1
 replace Ac := hide ((aa Ac).below hG3.2)
 clear HO
 have HO := hide hO
 clear hO hG3 hv3 mh
 try clear e0 e1 e2
 have HOM := hide (And.intro (aa HO) (aa Ac))
 clear HO Ac
 go_wp2_with fail
 go_loopw [15] (fun vk wr => ∃ k : Nat, k ≤ n ∧ vk = .int .i64 ((k : Nat) : Int) ∧ Hid (Own w [(bov, 118, [.k (eK (F k)), .q (X k)]), (w.heap.size, 118, zM)] wr ∧ xx wr mr wu)) (fun vk _ => n - (intOf vk).toNat)
 case atStart => exact ⟨0, by omega, rfl, by rw [aa HF0]; exact HOM⟩
 case round =>
  clear HOM
  obtain ⟨k, hk, rfl, HOM⟩ := hrel
  have HK := hide hk
  clear hk
  have HO := hide (aa HOM).1
  have Ac := hide (aa HOM).2
  clear HOM
  by_cases g1 : (k : Int) < (n : Int)
  ·
   have d1 : decide ((k : Int) < (n : Int)) = true := decide_eq_true g1
   have rq := hide (show k < n by omega)
   obtain ⟨g, rfl, nm, p, HS⟩ : ∃ g, ao = some ⟨g, 0, none⟩ ∧ ∃ nm p, Hid (Vm w g k nm p (F k) (X k) (F (k + 1)) (X (k + 1))) := by
    obtain ⟨g, e, nm, p, h⟩ := (aa HH) k (aa rq)
    exact ⟨g, e, nm, p, hide h⟩
   obtain ⟨u, y, q, z, HS⟩ := Vm.parts HS
   go_upto_region 4 with fail
   refine Rg.di 1 37 (Rg.pick [Rg.au (.bool true)]) (az w _ wr) dz [] kr rfl (Rg.ek.pick ⟨Rg.ae _, trivial⟩) (az.begin (aa HO))
    (ah (xq rfl aF aF rfl d1)
    Rg.bg) ?_
   intro v4 V4 hG4 hv4 tu
   simp only [Rg.puts, Act.put, tA]
   have e0 : v4 0 = .bool true := hv4 0 de
   simp only [e0]
   have hO := hG4.1
   replace Ac := hide ((aa Ac).below hG4.2)
   clear HO
   have HO := hide hO
   clear hO hG4 hv4 tu
   try clear e0
   clear d1 g1
   go_upto_region 5 with fail
   refine Rg.di 3 37 (Rg.pick [Rg.au (.pointer (some ⟨g, 2 * k, none⟩)), ax [.v (.string nm), iv p], qj 181 zF V4.heap.size]) (az w _ V4) dz [2] kr rfl (Rg.ek.pick ⟨Rg.ae _, bf _, qz _ _ _, trivial⟩) (az.begin (aa HO))
    (ah (beh (i := k) (m := n) (c := c) rfl aF aF (aa rq) rfl)
    (ah (bas (i := k) (fun W h => (aa HS).at_.below h.1.bel (aa HS).at_.lt) rfl (aT 0) rfl)
    (ah (uh bjm rfl az.step az.size rfl (xm (by intro j hj; simp at hj; (repeat' (first | (rcases hj with rfl | hj))) <;> first | (subst hj; exact ⟨_, _, _, rfl⟩) | exact ⟨_, _, _, rfl⟩)))
    Rg.bg))) ?_
   intro v5 V5 zz hv5 hne5
   simp only [Rg.puts, Act.put, tA]
   obtain ⟨aoc, e2, agy, hz2⟩ := (show qj 181 zF V4.heap.size V5 (v5 2) from hv5 2 de)
   simp only [e2]
   have hO := zz.1
   replace Ac := hide ((aa Ac).below zz.2)
   replace hO := Own.add (aa HO) zz.2 agy hz2
   clear agy hz2
   refine Ta hO 0 [] zF [.v (.string nm), iv p] [] rfl bai rfl (show ax [.v (.string nm), iv p] V5 (v5 1) from hv5 1 de) rfl rfl rfl ?_
   intro Rx jb hk0 hm0
   replace Ac := hide (hm0 _ _ (aa Ac))
   clear hm0
   replace hO := jb
   clear jb
   clear HO
   have HO := hide hO
   clear hO zz hv5 hne5 hk0
   try clear e2
   go_upto_region 6 with fail
   refine Rg.di 8 37 (Rg.pick [Rg.au (.map (some mr)), Rg.au (.pointer (some ⟨aoc, 0, none⟩)), Rg.au (.string nm), jw [ax [.k (eK u), .q y], Rg.au (.bool true)], jw [ax [.k (eK u), .q y], Rg.au (.bool true)], ax [.k (eK u), .q y], Rg.au (.bool true), qj 118 zM Rx.heap.size]) (az w _ Rx) dz [7] kr rfl (Rg.ek.pick ⟨Rg.ae _, Rg.ae _, Rg.ae _, jm ⟨(bf _), (Rg.ae _), trivial⟩, jm ⟨(bf _), (Rg.ae _), trivial⟩, bf _, Rg.ae _, qz _ _ _, trivial⟩) (az.begin (aa HO))
    (ah (df rfl aF)
    (ah (aps (b := aoc) (off := 0) rfl aF rfl rfl)
    (ah (Qv akk me0 (aT 1) [] [iv p] rfl)
    (ah (sc2 Tryz.func121 (aT 0) (aT 2) (fun W v0 v1 hG h0 h1 => by cases h0; cases h1; exact (aa HS).find W mr ((aa HT).below hG.bel) ((aa Ac).below hG.2)))
    (ah (df rfl (aT 3))
    (ah (mf (ts := [ax [.k (eK u), .q y], Rg.au (.bool true)]) rfl (aT 4) (of_decide_eq_true rfl) rfl)
    (ah (mf (ts := [ax [.k (eK u), .q y], Rg.au (.bool true)]) rfl (aT 4) (of_decide_eq_true rfl) rfl)
    (ah (uh adu rfl az.step az.size rfl (xm (by intro j hj; simp at hj; (repeat' (first | (rcases hj with rfl | hj))) <;> first | (subst hj; exact ⟨_, _, _, rfl⟩) | exact ⟨_, _, _, rfl⟩)))
    Rg.bg)))))))) ?_
   intro v6 V6 Ch hv6 Gp
   simp only [Rg.puts, Act.put, tA]
   have e6 : v6 6 = .bool true := hv6 6 de
   obtain ⟨bux, e7, Ub, hz7⟩ := (show qj 118 zM Rx.heap.size V6 (v6 7) from hv6 7 de)
   simp only [e6, e7]
   have hO := Ch.1
   replace Ac := hide ((aa Ac).below Ch.2)
   replace hO := Own.add (aa HO) Ch.2 Ub hz7
   clear Ub hz7
   refine Ta hO 0 [] zM [.k (eK u), .q y] [] rfl Au rfl (show ax [.k (eK u), .q y] V6 (v6 5) from hv6 5 de) rfl rfl rfl ?_
   intro axh jb hk0 hm0
   replace Ac := hide (hm0 _ _ (aa Ac))
   clear hm0
   replace hO := jb
   clear jb
   clear HO
   have HO := hide hO
   clear hO Ch hv6 Gp hk0
   try clear e6 e7
   go_upto_region 7 with fail
   refine Rg.di 2 37 (Rg.pick [Rg.au (.bool true), Rg.au (.bool false)]) (az w _ axh) dz [] kr rfl (Rg.ek.pick ⟨Rg.ae _, Rg.ae _, trivial⟩) (az.begin (aa HO))
    (ah (df rfl aF)
    (ah (zw rfl (aT 0) rfl rfl)
    Rg.bg)) ?_
   intro v7 V7 Bh hv7 En
   simp only [Rg.puts, Act.put, tA]
   have e1 : v7 1 = .bool false := hv7 1 de
   simp only [e1]
   have hO := Bh.1
   replace Ac := hide ((aa Ac).below Bh.2)
   clear HO
   have HO := hide hO
   clear hO Bh hv7 En
   try clear e1
   go_upto_region 9 with fail
   refine Rg.region 6 37 (Rg.pick [ax [.k (eK (F k)), .q (X k)], ax [.k (eK u), .q y], Rg.au (.pointer (some ⟨aoc, 1, none⟩)), Rg.au (.int .i64 p), ax [.k (eK q), .q z], ax [.k (eK (F (k + 1))), .q (X (k + 1))]]) (az w _ V7) dz [] kr kr rfl (Rg.ek.pick ⟨bf _, bf _, Rg.ae _, Rg.ae _, bf _, bf _, trivial⟩) (az.start (aa HO))
    (ah (jc Pt Ib aF [] [.k (eK (F k)), .q (X k)] [])
    (ah (jc Pt me0 aF [] [.k (eK u), .q y] [])
    (ah (apr (b := aoc) (off := 0) rfl aF rfl rfl)
    (ah (Qv Hg wz (aT 2) [.v (.string nm)] [] rfl)
    (ah (sc2 Tryz.func104 (aT 1) (aT 3) (fun W v0 v1 hG h0 h1 => by cases h1; exact (aa HS).pow W _ ((aa HT).below hG.bel) h0))
    (ah (sc2 Tryz.func119 (aT 0) (aT 4) (fun W v0 v1 hG h0 h1 => (aa HS).tim W _ _ ((aa HT).below hG.bel) h0 h1))
    Rg.bg)))))) ?_
   intro v8 V8 Fy Km Mo
   simp only [Rg.puts, Act.put, tA]
   have hO := Fy.1
   replace Ac := hide ((aa Ac).below Fy.2)
   refine Ta hO 2 [] [.k (eK (F k)), .q (X k)] [.k (eK (F (k + 1))), .q (X (k + 1))] [] rfl Au rfl (show ax [.k (eK (F (k + 1))), .q (X (k + 1))] V8 (v8 5) from Km 5 de) rfl rfl rfl ?_
   intro bvg jb hk0 hm0
   replace Ac := hide (hm0 _ _ (aa Ac))
   clear hm0
   replace hO := jb
   clear jb
   clear HO
   have HO := hide hO
   clear hO Fy Km Mo hk0
   go_wp2_with fail
   go_roundw
   case rel =>
    exact ⟨k + 1, by have := aa rq; omega, Ql (aa rq) (aa HN), hide ⟨(aa HO).tl.tl, aa Ac⟩⟩
   case measure =>
    have h1 := aa rq
    have h2 := aa HN
    clear HO Ac
    rw [Gd h1 h2]
    exact measS h1
  ·
   have d1 : decide ((k : Int) < (n : Int)) = false := decide_eq_false g1
   obtain rfl : k = n := by have := aa HK; omega
   go_upto_region 4 with fail
   refine Rg.di 1 37 (Rg.pick [Rg.au (.bool false)]) (az w _ wr) dz [] kr rfl (Rg.ek.pick ⟨Rg.ae _, trivial⟩) (az.begin (aa HO))
    (ah (xq rfl aF aF rfl d1)
    Rg.bg) ?_
   intro v4 V4 hG4 hv4 tu
   simp only [Rg.puts, Act.put, tA]
   have e0 : v4 0 = .bool false := hv4 0 de
   simp only [e0]
   have hO := hG4.1
   replace Ac := hide ((aa Ac).below hG4.2)
   clear HO
   have HO := hide hO
   clear hO hG4 hv4 tu
   try clear e0
   clear d1 g1
   go_upto_region 11 with fail
   refine Rg.di 1 37 (Rg.pick [ax [.k (eK (F k)), .q (X k)]]) (az w _ V4) dz [] kr rfl (Rg.ek.pick ⟨bf _, trivial⟩) (az.begin (aa HO))
    (ah (jc Pt me0 aF [] [.k (eK (F k)), .q (X k)] [])
    Rg.bg) ?_
   intro v5 V5 zz hv5 hne5
   simp only [Rg.puts, Act.put, tA]
   have hO := zz.1
   replace Ac := hide ((aa Ac).below zz.2)
   refine Ta hO 1 [] zM [.k (eK (F k)), .q (X k)] [] rfl Au rfl (show ax [.k (eK (F k)), .q (X k)] V5 (v5 0) from hv5 0 de) rfl rfl rfl ?_
   intro Rx jb hk0 hm0
   replace Ac := hide (hm0 _ _ (aa Ac))
   clear hm0
   replace hO := jb
   clear jb
   clear HO
   have HO := hide hO
   clear hO zz hv5 hne5 hk0
   go_wp2_with fail
   exact Im Tryz.results117 Hf rfl rfl (aa HO) wz rfl rfl
end Sb

end Go.Proofs.YtfgeaakhlcaibaaGreatDoor
