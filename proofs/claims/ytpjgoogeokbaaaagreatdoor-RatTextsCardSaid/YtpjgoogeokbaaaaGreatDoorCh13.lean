/- Part 13 of the texts beneath a law of layer 1: TrM, TrD, TxC, TxW, TxQ, TrN, TrP, JnW. -/
import Derived.Test.YtpjgoogeokbaaaaGreatDoorCh12
import Derived.Lib.IndexLaws
import Derived.Lib.CutLaws
import Derived.Laws.Concat
/- The number of a text, byte by byte. -/
namespace Go.Proofs.YtpjgoogeokbaaaaGreatDoor
namespace Wd

/-- A text parted behind its first digits. -/
structure Spl (l a r : List UInt8) : Prop where
  eq : l = a ++ r
  dig : a.all isDg = true
  stop : ∀ c, r.head? = some c → isDg c = false
theorem numOk_dig {l : List UInt8} (h : numOk l = true) : l.all isDg = true := (digsOk_iff.1 (numOk_iff.1 h).1).2.2
theorem span_cut : ∀ (a r p : List UInt8) (x : UInt8) (b : List UInt8), a ++ r = p ++ x :: b → a.all isDg = true → (∀ c, r.head? = some c → isDg c = false) → p.all isDg = true → isDg x = false → p = a ∧ r = x :: b
  | [], r, [], x, b, h, _, _, _, _ => ⟨rfl, h⟩
  | [], r, y :: p, x, b, h, _, hr, hp, _ => by
    rw [List.nil_append] at h
    have h1 := hr y (by rw [h]; rfl)
    rw [List.all_cons, h1] at hp; cases hp
  | z :: a, r, [], x, b, h, ha, _, _, hx => by
    have h1 : z = x := (List.cons.inj h).1
    rw [List.all_cons, h1, hx] at ha; cases ha
  | z :: a, r, y :: p, x, b, h, ha, hr, hp, hx => by
    obtain ⟨h1, h2⟩ := List.cons.inj h
    rw [List.all_cons, Bool.and_eq_true] at ha hp
    obtain ⟨e1, e2⟩ := span_cut a r p x b h2 ha.2 hr hp.2 hx
    exact ⟨by rw [e1, h1], e2⟩
theorem span_all : ∀ (a r : List UInt8), (a ++ r).all isDg = true → (∀ c, r.head? = some c → isDg c = false) → r = []
  | a, [], _, _ => rfl
  | a, c :: r, h, hr => by
    have h1 := hr c rfl
    rw [List.all_append, List.all_cons, h1, Bool.false_and, Bool.and_false] at h; cases h
theorem dg47 : isDg 47 = false := by decide
theorem dg46 : isDg 46 = false := by decide
theorem not_mem_dig {a : List UInt8} (h : a.all isDg = true) {c : UInt8} (hc : isDg c = false) : c ∉ a := fun hm => by
  have := List.all_eq_true.1 h c hm
  rw [hc] at this; cases this
theorem cut_ex (c : UInt8) : ∀ l : List UInt8, c ∈ l → ∃ a b, l = a ++ c :: b ∧ c ∉ a
  | [], h => by cases h
  | x :: l, h => by
    by_cases hx : x = c
    · exact ⟨[], l, by rw [hx]; rfl, by simp⟩
    · have h2 : c ∈ l := by
        rcases List.mem_cons.1 h with h | h
        · exact absurd h.symm hx
        · exact h
      obtain ⟨a, b, e, hn⟩ := cut_ex c l h2
      refine ⟨x :: a, b, by rw [e]; rfl, fun hm => ?_⟩
      rcases List.mem_cons.1 hm with hm | hm
      · exact hx hm.symm
      · exact hn hm
/-- Where a text has a number, its first digits are a numeral, and what follows starts as it must. -/
theorem posT_num {l a r : List UInt8} (h : Spl l a r) {q : Rat} (hq : posT l = some q) : numOk a = true ∧ (r = [] ∨ (∃ t, r = 47 :: t) ∨ (∃ t, r = 46 :: t ∧ 47 ∉ l)) := by
  obtain ⟨e, ha, hr⟩ := h
  by_cases h47 : 47 ∈ l
  · obtain ⟨p, b, e1, hn⟩ := cut_ex 47 l h47
    rw [posT_slash e1 hn] at hq
    split at hq
    · rename_i hc
      rw [Bool.and_eq_true, Bool.and_eq_true] at hc
      obtain ⟨e2, e3⟩ := span_cut a r p 47 b (by rw [← e, e1]) ha hr (numOk_dig hc.1.1) dg47
      exact ⟨by rw [← e2]; exact hc.1.1, .inr (.inl ⟨b, e3⟩)⟩
    · cases hq
  · by_cases h46 : 46 ∈ l
    · obtain ⟨p, b, e1, hn⟩ := cut_ex 46 l h46
      rw [posT_dot h47 e1 hn] at hq
      split at hq
      · rename_i hc
        rw [Bool.and_eq_true] at hc
        obtain ⟨e2, e3⟩ := span_cut a r p 46 b (by rw [← e, e1]) ha hr (numOk_dig hc.1) dg46
        exact ⟨by rw [← e2]; exact hc.1, .inr (.inr ⟨b, e3, h47⟩)⟩
      · cases hq
    · rw [posT_plain h47 h46] at hq
      split at hq
      · rename_i hc
        have e2 := span_all a r (by rw [← e]; exact numOk_dig hc) hr
        rw [e2, List.append_nil] at e
        exact ⟨by rw [← e]; exact hc, .inl e2⟩
      · cases hq
theorem none_of {α : Type} {o : Option α} (h : ∀ q, o ≠ some q) : o = none := by
  cases o with
  | none => rfl
  | some q => exact absurd rfl (h q)
theorem posT_bad {l a r : List UInt8} (h : Spl l a r) (hn : numOk a = false) : posT l = none :=
  none_of fun q hq => by rw [(posT_num h hq).1] at hn; cases hn
theorem posT_end {l a : List UInt8} (h : Spl l a []) : posT l = if numOk a = true then some (Rat.divInt (valD a : Nat) 1) else none := by
  obtain ⟨e, ha, _⟩ := h
  rw [List.append_nil] at e
  rw [e]
  exact posT_plain (not_mem_dig ha dg47) (not_mem_dig ha dg46)
theorem posT_sl {l a t : List UInt8} (h : Spl l a (47 :: t)) : posT l = if (numOk a && numOk t && !(t == [48])) = true then some (Rat.divInt (valD a : Nat) (valD t : Nat)) else none :=
  posT_slash h.eq (not_mem_dig h.dig dg47)
theorem posT_pt {l a t : List UInt8} (h : Spl l a (46 :: t)) : posT l = if (numOk a && digsOk t 12) = true then some (Rat.divInt (valD (a ++ t) : Nat) ((10 ^ t.length : Nat) : Int)) else none := by
  by_cases h47 : 47 ∈ l
  · have h1 : digsOk t 12 = false := by
      cases hd : digsOk t 12 with
      | false => rfl
      | true =>
        exfalso
        rw [h.eq] at h47
        rcases List.mem_append.1 h47 with hm | hm
        · exact not_mem_dig h.dig dg47 hm
        · rcases List.mem_cons.1 hm with hm | hm
          · exact absurd hm (by decide)
          · exact not_mem_dig (digsOk_iff.1 hd).2.2 dg47 hm
    rw [h1, Bool.and_false]
    refine none_of fun q hq => ?_
    rcases (posT_num h hq).2 with e | ⟨t', e⟩ | ⟨t', e, hn⟩
    · cases e
    · exact absurd (List.cons.inj e).1 (by decide)
    · exact hn h47
  · exact posT_dot h47 h.eq (not_mem_dig h.dig dg46)
theorem posT_other {l a t : List UInt8} {c : UInt8} (h : Spl l a (c :: t)) (h1 : c ≠ 47) (h2 : c ≠ 46) : posT l = none :=
  none_of fun q hq => by
    rcases (posT_num h hq).2 with e | ⟨t', e⟩ | ⟨t', e, hn⟩
    · cases e
    · exact h1 (List.cons.inj e).1
    · exact h2 (List.cons.inj e).1
theorem valD_append (a b : List UInt8) : valD (a ++ b) = valD a * 10 ^ b.length + valD b := by
  show List.foldl _ 0 (a ++ b) = _
  rw [List.foldl_append]
  exact valD_from b (valD a)
/-- A numeral of digits alone. -/
theorem numOk_of_dig {a : List UInt8} (h : a.all isDg = true) : numOk a = (decide (1 ≤ a.length) && decide (a.length ≤ 20) && !(decide (a.head? = some 48) && decide (1 < a.length))) := by
  rw [Bool.eq_iff_iff, numOk_iff, digsOk_iff]
  simp only [Bool.and_eq_true, Bool.not_eq_true', Bool.and_eq_false_imp, decide_eq_true_eq, decide_eq_false_iff_not]
  constructor
  · rintro ⟨⟨h1, h2, _⟩, h3⟩
    refine ⟨⟨h1, by omega⟩, fun h4 => ?_⟩
    rcases h3 with h3 | h3
    · rw [h3]; simp
    · exact absurd h4 h3
  · rintro ⟨⟨h1, h2⟩, h3⟩
    refine ⟨⟨h1, by omega, h⟩, ?_⟩
    by_cases h4 : a.head? = some 48
    · left
      have h5 := h3 h4
      match a, h1, h4, h5 with
      | [c], _, h4, _ => rw [Option.some.inj h4]
      | c :: d :: l, _, _, h5 => exact absurd (show 1 < (c :: d :: l).length by simp) h5
    · exact .inr h4
theorem valD_zero_iff {t : List UInt8} (h : numOk t = true) : valD t = 0 ↔ t = [48] := by
  constructor
  · intro e
    by_cases hz : t = [48]
    · exact hz
    · have := numOk_pos h hz; omega
  · intro e; rw [e]; rfl
end Wd
end Go.Proofs.YtpjgoogeokbaaaaGreatDoor
/- Digits of a text: the reference. -/
namespace Go.Proofs.YtpjgoogeokbaaaaGreatDoor
open Go.RowKit

theorem wraps_at {z : Int} (h : -9223372036854775808 ≤ z ∧ z ≤ 9223372036854775807) : wrap64 z = z ∧ IntKind.i64.wrap z = z := ⟨IntWalk.wrap64_in _ h, IntWalk.i64_in _ h⟩
/-- What digits answers. -/
def DigR (w : World) (l : List UInt8) (e : Ending) (w' : World) : Prop :=
  (l.all Wd.isDg = true ∧ ∃ A1 c1 l1 m1 A2 c2 l2 m2, e = .returned (.tuple #[(Value.agg #[.slice A1 (List.length l1) c1, .bool m1, .slice A2 (List.length l2) c2, .bool m2]), .bool (decide (0 < l.length))]) ∧ QV w' A1 c1 l1 m1 A2 c2 l2 m2 (Rat.divInt ((Wd.valD l : Nat)) 1) ∧ Below w.heap.size w w') ∨
  (l.all Wd.isDg = false ∧ e = .returned (.tuple #[(Value.agg #[.slice none 0 0, .bool false, .slice none 0 0, .bool false]), .bool false]) ∧ Below w.heap.size w w')

set_option maxRecDepth 100000 in
set_option maxHeartbeats 16000000 in
theorem tdigits_any (s : ByteArray) (w : World) (hs : s.size ≤ 140737488351232) :
    Calls Tryz.prog 137 #[.string s] w fun e w' => DigR w s.data.toList e w' := by
  have HT10 := hide (fun W => tint_any 10 W (by omega) (by omega))
  have HSZ := hide hs
  clear hs
  go_enter Tryz.func137, Tryz.ntmps137
  go_upto_region 2 with fail
  obtain ⟨nr, no, hsz, hw0⟩ := two_new w (.cells #[.slice none 0 0, .bool false, .slice none 0 0, .bool false] 52) (.cells #[.slice none 0 0, .bool false, .slice none 0 0, .bool false] 52)
  generalize ((w.alloc (.cells #[.slice none 0 0, .bool false, .slice none 0 0, .bool false] 52)).alloc (.cells #[.slice none 0 0, .bool false, .slice none 0 0, .bool false] 52)) = W0 at *
  have HW0 := hide hw0; have NR := hide nr
  have hbx := boxq_zero no
  clear hsz nr no
  go_wp2_with fail
  go_loopw [5] (fun iv wr => ∃ k : Nat, k ≤ s.size ∧ iv = .int .i64 (k : Int) ∧ BoxQ wr (w.heap.size + 1) (Rat.divInt ((Wd.valD (s.data.toList.take k) : Nat)) 1) ∧ Hid ((s.data.toList.take k).all Wd.isDg = true) ∧ Hid (Below (w.heap.size + 1) W0 wr)) (fun iv _ => s.size - (intOf iv).toNat)
  case atStart => exact ⟨0, Nat.zero_le _, by first | rfl | go_num, by first | exact hbx | exact hbx.below (Below.refl _ _).drew, rfl, by first | exact hide (Below.refl _ _) | exact hide (Below.refl _ _).drew⟩
  case round =>
    obtain ⟨k, hk, rfl, hbq, hall, hgr⟩ := hrel
    have hwr : Below w.heap.size w wr := (unhide HW0).trans ((unhide hgr).mono (by omega))
    have hgs := (unhide hgr).size
    have hq1 : w.heap.size + 1 < wr.heap.size := by obtain ⟨A1, c1, l1, m1, A2, c2, l2, m2, j1, _⟩ := hbq; exact lt_of_block j1
    by_cases hlt : k < s.size
    · have d1 : decide ((k : Int) < (s.size : Int)) = true := decide_eq_true (by omega)
      have d2 : decide (k < s.size) = true := decide_eq_true hlt
      cases hdg : Wd.isDg s[k] with
      | false =>
        have HN := Lib.hid (all_fails s k hlt hdg)
        have HID := hide (fun W => tisDigit_any s[k].toNat false W (by rw [← hdg]; rfl))
        have jr := ((unhide hgr).block w.heap.size (by omega)).trans (unhide NR)
        have r0 : wr.cell? ⟨w.heap.size, 0, none⟩ = some (.slice none 0 0) := cells_of jr 0
        have fr0 := unfrozen_of jr 0
        have r1 : wr.cell? ⟨w.heap.size, 1, none⟩ = some (.bool false) := cells_of jr 1
        have fr1 := unfrozen_of jr 1
        have r2 : wr.cell? ⟨w.heap.size, 2, none⟩ = some (.slice none 0 0) := cells_of jr 2
        have fr2 := unfrozen_of jr 2
        have r3 : wr.cell? ⟨w.heap.size, 3, none⟩ = some (.bool false) := cells_of jr 3
        have fr3 := unfrozen_of jr 3
        have HBLK := Lib.hid jr
        have qr := lt_of_block jr
        clear hdg hbq hall jr
        go_wp2_with (go_at_call 135; refine ((unhide HID) _).mono ?_; rintro e w' ⟨rfl, hww⟩; replace hww := hww.symm; subst hww)
        exact bodyPost_ret (v := .tuple #[(Value.agg #[.slice none 0 0, .bool false, .slice none 0 0, .bool false]), .bool false]) (by simp [results, Tryz.results137, go_sem, r0, r1, r2, r3, qr]) rfl
          (.inr ⟨HN.out, rfl, hwr.grown (set4_grown _ _ _ _ _ _) hwr.size (fun k hk => by injection hk with hk; omega)⟩)
      | true =>
        have HID := hide (fun W => tisDigit_any s[k].toNat true W (by rw [← hdg]; rfl))
        have hdk : 48 ≤ s[k].toNat ∧ s[k].toNat ≤ 57 := by
          have h1 := hdg
          unfold Wd.isDg at h1
          rw [Bool.and_eq_true, decide_eq_true_eq, decide_eq_true_eq] at h1
          omega
        have HALL := Lib.hid (show (s.data.toList.take (k + 1)).all Wd.isDg = true by
          rw [take_snocB s k hlt, List.all_append, unhide hall, List.all_cons, hdg]; rfl)
        have hts := Wd.valD_snoc (s.data.toList.take k) s[k]
        rw [← take_snocB s k hlt] at hts
        have hlt2 := Wd.valD_lt (s.data.toList.take k) (unhide hall)
        rw [List.length_take, Nat.min_eq_left (by rw [sizeB]; omega)] at hlt2
        have zs1 := sz_dec hlt2
        have hkk : k / 9 + 1 ≤ 15637498705693 := by have := unhide HSZ; omega
        have hk9 : -9223372036854775808 ≤ (k : Int) + 1 ∧ (k : Int) + 1 ≤ 9223372036854775807 := by have := unhide HSZ; omega
        have HE9 := hide (wraps_at hk9)
        clear hk9
        obtain ⟨dv, hdv⟩ : ∃ dv : Int, dv = (s[k].toNat : Int) - 48 := ⟨_, rfl⟩
        have hdb : 0 ≤ dv ∧ dv ≤ 9 := by omega
        have HTD := hide (fun W => tint_any dv W (by omega) (by omega))
        have zd : Wd.Sz B32 1 dv := sz_small (by omega)
        have z10 : Wd.Sz B32 1 10 := sz_small (by decide)
        obtain ⟨v, hv⟩ : ∃ v : Int, v = (Wd.valD (s.data.toList.take k) : Nat) := ⟨_, rfl⟩
        have hnext : ((Wd.valD (s.data.toList.take (k + 1)) : Nat) : Int) = v * 10 + dv := by rw [hts, hv, hdv]; omega
        rw [← hv] at hbq zs1
        have zs2 := zs1.mul z10
        have HM : Hid (∀ (A1 : Option Addr) (c1 : Nat) (l1 : List Nat) (m1 : Bool) (A2 : Option Addr) (c2 : Nat) (l2 : List Nat) (m2 : Bool) (A3 : Option Addr) (c3 : Nat) (l3 : List Nat) (m3 : Bool) (A4 : Option Addr) (c4 : Nat) (l4 : List Nat) (m4 : Bool) W, QV W A1 c1 l1 m1 A2 c2 l2 m2 (Rat.divInt (v) 1) → QV W A3 c3 l3 m3 A4 c4 l4 m4 (Rat.divInt (10) 1) → Calls Tryz.prog 45 #[(Value.agg #[.slice A1 l1.length c1, .bool m1, .slice A2 l2.length c2, .bool m2]), (Value.agg #[.slice A3 l3.length c3, .bool m3, .slice A4 l4.length c4, .bool m4])] W fun e w' => QR W (Rat.divInt (v * 10) 1) e w') := fun A1 c1 l1 m1 A2 c2 l2 m2 A3 c3 l3 m3 A4 c4 l4 m4 W g1 g3 => tqmul_int A1 c1 l1 m1 A2 c2 l2 m2 A3 c3 l3 m3 A4 c4 l4 m4 v 10 (k / 9 + 1) 1 W g1 g3 zs1 z10 (by omega)
        have HA : Hid (∀ (A1 : Option Addr) (c1 : Nat) (l1 : List Nat) (m1 : Bool) (A2 : Option Addr) (c2 : Nat) (l2 : List Nat) (m2 : Bool) (A3 : Option Addr) (c3 : Nat) (l3 : List Nat) (m3 : Bool) (A4 : Option Addr) (c4 : Nat) (l4 : List Nat) (m4 : Bool) W, QV W A1 c1 l1 m1 A2 c2 l2 m2 (Rat.divInt (v * 10) 1) → QV W A3 c3 l3 m3 A4 c4 l4 m4 (Rat.divInt (dv) 1) → Calls Tryz.prog 43 #[(Value.agg #[.slice A1 l1.length c1, .bool m1, .slice A2 l2.length c2, .bool m2]), (Value.agg #[.slice A3 l3.length c3, .bool m3, .slice A4 l4.length c4, .bool m4])] W fun e w' => QR W (Rat.divInt (v * 10 + dv) 1) e w') := fun A1 c1 l1 m1 A2 c2 l2 m2 A3 c3 l3 m3 A4 c4 l4 m4 W g1 g3 => tqadd_int A1 c1 l1 m1 A2 c2 l2 m2 A3 c3 l3 m3 A4 c4 l4 m4 (v * 10) dv (k / 9 + 1 + 1) 1 W g1 g3 zs2 zd (by omega)
        obtain ⟨A1, c1, l1, m1, A2, c2, l2, m2, j1, f1⟩ := hbq
        have kx_0 : wr.cell? ⟨w.heap.size + 1, 0, none⟩ = some (.slice A1 l1.length c1) := cells_of j1 0
        have ux_0 := unfrozen_of j1 0
        have kx_1 : wr.cell? ⟨w.heap.size + 1, 1, none⟩ = some (.bool m1) := cells_of j1 1
        have ux_1 := unfrozen_of j1 1
        have kx_2 : wr.cell? ⟨w.heap.size + 1, 2, none⟩ = some (.slice A2 l2.length c2) := cells_of j1 2
        have ux_2 := unfrozen_of j1 2
        have kx_3 : wr.cell? ⟨w.heap.size + 1, 3, none⟩ = some (.bool m2) := cells_of j1 3
        have ux_3 := unfrozen_of j1 3
        have qx := lt_of_block j1
        have HN := Lib.hid hnext
        have w1 : IntKind.u8.wrap ((s[k].toNat : Int) - 48) = dv := by rw [← hdv]; exact wrap_u8 hdb.1 (by omega)
        have w2 : IntKind.i64.wrap dv = dv := IntWalk.i64_in _ (by omega)
        have w3 : wrap64 dv = dv := IntWalk.wrap64_in _ (by omega)
        have w4 : ((s[k].toNat : Int) - 48) % 256 = dv := by rw [← hdv]; omega
        have J1 := hide j1; have F1 := hide f1
        clear hdg hdk hts hlt2 zs1 zs2 zd z10 hdv hdb hv hnext hall j1 f1 hkk
        go_wp2_with (go_at_call 135; refine ((unhide HID) _).mono ?_; rintro e w' ⟨rfl, hww⟩; replace hww := hww.symm; subst hww)
        go_region_with (first | (go_at_call_of 72 (Value.int .i64 10); refine ((unhide HT10) _).mono ?_; rintro e w' ⟨A3, c3, l3, m3, A4, c4, l4, m4, rfl, g1, g2, hb3⟩; (try (first | replace iq5 := QV.below iq5 hb3 | replace iq5 := (QV.below iq5 (Below.drew (Below.refl _ _))).below hb3)); (try (first | replace iq7 := QV.below iq7 hb3 | replace iq7 := (QV.below iq7 (Below.drew (Below.refl _ _))).below hb3)); have iq3 := QV.of g1 g2; clear g1 g2; have hbw := below_step (w := wr) (by (first | with_reducible assumption | (repeat (first | with_reducible exact Below.refl _ _ | with_reducible assumption | refine Below.drew ?_ | (refine Below.alloc ?_ (by simp <;> omega) _) | refine belowN ?_ _)))) hb3; obtain ⟨hc, hfz⟩ := bcell hbw) | (go_at_call_of 45 (Value.agg #[.slice A1 l1.length c1, .bool m1, .slice A2 l2.length c2, .bool m2]); refine ((unhide HM) A1 c1 l1 m1 A2 c2 l2 m2 A3 c3 l3 m3 A4 c4 l4 m4 _ (QV.below (unhide F1) (by (first | with_reducible assumption | (repeat (first | with_reducible exact Below.refl _ _ | with_reducible assumption | refine Below.drew ?_ | (refine Below.alloc ?_ (by simp <;> omega) _) | refine belowN ?_ _))))) (by first | exact iq3 | exact QV.below iq3 (by (first | with_reducible assumption | (repeat (first | with_reducible exact Below.refl _ _ | with_reducible assumption | refine Below.drew ?_ | (refine Below.alloc ?_ (by simp <;> omega) _) | refine belowN ?_ _)))))).mono ?_; rintro e w' ⟨A5, c5, l5, m5, A6, c6, l6, m6, rfl, g1, g2, hb5⟩; (try (first | replace iq7 := QV.below iq7 hb5 | replace iq7 := (QV.below iq7 (Below.drew (Below.refl _ _))).below hb5)); have iq5 := QV.of g1 g2; clear g1 g2; have hbw := below_step (w := wr) (by (first | with_reducible assumption | (repeat (first | with_reducible exact Below.refl _ _ | with_reducible assumption | refine Below.drew ?_ | (refine Below.alloc ?_ (by simp <;> omega) _) | refine belowN ?_ _)))) hb5; obtain ⟨hc, hfz⟩ := bcell hbw) | (go_at_call_of 72 (Value.int .i64 dv); refine ((unhide HTD) _).mono ?_; rintro e w' ⟨A7, c7, l7, m7, A8, c8, l8, m8, rfl, g1, g2, hb7⟩; (try (first | replace iq3 := QV.below iq3 hb7 | replace iq3 := (QV.below iq3 (Below.drew (Below.refl _ _))).below hb7)); (try (first | replace iq5 := QV.below iq5 hb7 | replace iq5 := (QV.below iq5 (Below.drew (Below.refl _ _))).below hb7)); have iq7 := QV.of g1 g2; clear g1 g2; have hbw := below_step (w := wr) (by (first | with_reducible assumption | (repeat (first | with_reducible exact Below.refl _ _ | with_reducible assumption | refine Below.drew ?_ | (refine Below.alloc ?_ (by simp <;> omega) _) | refine belowN ?_ _)))) hb7; obtain ⟨hc, hfz⟩ := bcell hbw) | (go_at_call_of 43 (Value.agg #[.slice A5 l5.length c5, .bool m5, .slice A6 l6.length c6, .bool m6]); refine ((unhide HA) A5 c5 l5 m5 A6 c6 l6 m6 A7 c7 l7 m7 A8 c8 l8 m8 _ (by first | exact iq5 | exact QV.below iq5 (by (first | with_reducible assumption | (repeat (first | with_reducible exact Below.refl _ _ | with_reducible assumption | refine Below.drew ?_ | (refine Below.alloc ?_ (by simp <;> omega) _) | refine belowN ?_ _))))) (by first | exact iq7 | exact QV.below iq7 (by (first | with_reducible assumption | (repeat (first | with_reducible exact Below.refl _ _ | with_reducible assumption | refine Below.drew ?_ | (refine Below.alloc ?_ (by simp <;> omega) _) | refine belowN ?_ _)))))).mono ?_; rintro e w' ⟨A9, c9, l9, m9, A10, c10, l10, m10, rfl, g1, g2, hb9⟩; have iq9 := QV.of g1 g2; clear g1 g2; have hbw := below_step (w := wr) (by (first | with_reducible assumption | (repeat (first | with_reducible exact Below.refl _ _ | with_reducible assumption | refine Below.drew ?_ | (refine Below.alloc ?_ (by simp <;> omega) _) | refine belowN ?_ _)))) hb9; obtain ⟨hc, hfz⟩ := bcell hbw))
        all_goals
          have hst := boxq_st (boxq_below ⟨_, _, _, _, _, _, _, _, unhide J1, unhide F1⟩ hbw) iq9 ((unhide hgr).trans (hbw.mono (by omega))) (by omega) (by have := hbw.size; omega)
          obtain ⟨e9, e9'⟩ := unhide HE9
          go_wp2_with fail
          clear e9 e9'
          go_roundw
          case rel => exact ⟨k + 1, by omega, by first | rfl | (have hss := unhide HSZ; go_num), HN.out ▸ hst.1, hide HALL.out, hide hst.2⟩
          case measure => (have hss := unhide HSZ; simp [intOf] <;> omega)
    · have hke : s.data.toList.take k = s.data.toList := List.take_of_length_le (by rw [sizeB]; omega)
      rw [hke] at hbq hall
      have HALL := Lib.hid (unhide hall)
      obtain ⟨A1, c1, l1, m1, A2, c2, l2, m2, j1, f1⟩ := hbq
      have jr := ((unhide hgr).block w.heap.size (by omega)).trans (unhide NR)
      have kx_0 : wr.cell? ⟨w.heap.size + 1, 0, none⟩ = some (.slice A1 l1.length c1) := cells_of j1 0
      have ux_0 := unfrozen_of j1 0
      have kx_1 : wr.cell? ⟨w.heap.size + 1, 1, none⟩ = some (.bool m1) := cells_of j1 1
      have ux_1 := unfrozen_of j1 1
      have kx_2 : wr.cell? ⟨w.heap.size + 1, 2, none⟩ = some (.slice A2 l2.length c2) := cells_of j1 2
      have ux_2 := unfrozen_of j1 2
      have kx_3 : wr.cell? ⟨w.heap.size + 1, 3, none⟩ = some (.bool m2) := cells_of j1 3
      have ux_3 := unfrozen_of j1 3
      have qx := lt_of_block j1
      have r0 : wr.cell? ⟨w.heap.size, 0, none⟩ = some (.slice none 0 0) := cells_of jr 0
      have fr0 := unfrozen_of jr 0
      have r1 : wr.cell? ⟨w.heap.size, 1, none⟩ = some (.bool false) := cells_of jr 1
      have fr1 := unfrozen_of jr 1
      have r2 : wr.cell? ⟨w.heap.size, 2, none⟩ = some (.slice none 0 0) := cells_of jr 2
      have fr2 := unfrozen_of jr 2
      have r3 : wr.cell? ⟨w.heap.size, 3, none⟩ = some (.bool false) := cells_of jr 3
      have fr3 := unfrozen_of jr 3
      have HBLK := Lib.hid jr
      have qr := lt_of_block jr
      have F1 := hide f1
      have d1 : decide ((k : Int) < (s.size : Int)) = false := decide_eq_false (by omega)
      have d2 : decide (k < s.size) = false := decide_eq_false hlt
      have HLEN := Lib.hid (show decide (0 < s.data.toList.length) = decide (0 < s.size) by rw [sizeB])
      have HLEN2 := Lib.hid (show decide (0 < s.size) = decide (0 < (s.size : Int)) by
        by_cases h : 0 < s.size
        · rw [decide_eq_true h, decide_eq_true (show 0 < (s.size : Int) by omega)]
        · rw [decide_eq_false h, decide_eq_false (show ¬ 0 < (s.size : Int) by omega)])
      clear hke hall j1 f1 jr
      go_wp2_with fail
      first
        | exact bodyPost_ret (v := .tuple #[(Value.agg #[.slice A1 l1.length c1, .bool m1, .slice A2 l2.length c2, .bool m2]), .bool (decide (0 < s.size))]) (by simp [results, Tryz.results137, go_sem, r0, r1, r2, r3, qr]) rfl
            (.inl ⟨HALL.out, A1, c1, l1, m1, A2, c2, l2, m2, by rw [HLEN.out], (unhide F1).upto HBLK.out (noW2_4 _ _ _ _ _ _ _ _) (set4_grown _ _ _ _ _ _), hwr.grown (set4_grown _ _ _ _ _ _) hwr.size (fun k hk => by injection hk with hk; omega)⟩)
        | exact bodyPost_ret (v := .tuple #[(Value.agg #[.slice A1 l1.length c1, .bool m1, .slice A2 l2.length c2, .bool m2]), .bool (decide (0 < (s.size : Int)))]) (by simp [results, Tryz.results137, go_sem, r0, r1, r2, r3, qr]) rfl
            (.inl ⟨HALL.out, A1, c1, l1, m1, A2, c2, l2, m2, by rw [HLEN.out, HLEN2.out], (unhide F1).upto HBLK.out (noW2_4 _ _ _ _ _ _ _ _) (set4_grown _ _ _ _ _ _), hwr.grown (set4_grown _ _ _ _ _ _) hwr.size (fun k hk => by injection hk with hk; omega)⟩)

end Go.Proofs.YtpjgoogeokbaaaaGreatDoor
/- A text cut at a byte: the program's library. -/
namespace Go.Proofs.YtpjgoogeokbaaaaGreatDoor
open Go.RowKit

set_option maxRecDepth 100000 in
set_option maxHeartbeats 4000000 in
theorem index1_any (s sub : ByteArray) (c : UInt8) (hc : sub.data.toList = [c]) (w : World) :
    Calls Tryz.prog 188 #[.string s, .string sub] w fun e w' => e = .returned (.int .i64 (Lib.indexByte s.data.toList c)) ∧ w' = w := by
  have h1 : sub.size = 1 := by rw [← sizeB, hc]; rfl
  have hg : sub[0] = c := by
    have h2 : sub[0] = sub.data.toList[0]'(by rw [hc]; exact Nat.zero_lt_one) := rfl
    rw [h2]; simp only [hc, List.getElem_cons_zero]
  have hs0 : s.toList = s.data.toList := Lib.toList_data s
  have hs1 : sub.toList = [c] := (Lib.toList_data sub).trans hc
  obtain ⟨i, hi⟩ : ∃ i, i = Lib.indexByte s.data.toList c := ⟨_, rfl⟩
  have HB := hide (fun W => Tryz.stringslite_IndexByte s (sub[0].toNat : Int) W)
  have hcc : ((sub[0].toNat : Int)).toNat.toUInt8 = c := by rw [hg, Int.toNat_natCast]; exact UInt8.ofNat_toNat
  rw [hcc] at HB
  rw [← hi] at HB ⊢
  have e1 : ((sub.size : Int) == 0) = false := by rw [h1]; rfl
  have e2 : ((sub.size : Int) == 1) = true := by rw [h1]; rfl
  by_cases h0 : s.data.toList = [c]
  · have HI := Lib.hid (show i = 0 by rw [hi, h0]; simp [Lib.indexByte])
    have e3 : (sub.toList == s.toList) = true := by rw [hs1, hs0, h0]; exact beq_self_eq_true _
    clear hc hg hs0 hs1 hi hcc h0
    go_enter Tryz.func188, Tryz.ntmps188
    go_wp2
    all_goals first | go_ret | skip
    all_goals exact ⟨by rw [HI.out]; rfl, rfl⟩
  · have e3 : (sub.toList == s.toList) = false := by rw [hs1, hs0]; exact beq_eq_false_iff_ne.2 (fun h => h0 h.symm)
    have h2 : (0 : Int) < sub.size := by omega
    clear hc hg hs0 hs1 hi hcc h0
    go_enter Tryz.func188, Tryz.ntmps188
    go_wp2_with (go_at_call 197; refine ((unhide HB) _).mono ?_; rintro e w' ⟨rfl, rfl⟩)
    all_goals first | go_ret | skip
    all_goals exact ⟨rfl, rfl⟩
/-- What a cut at a byte hands back. -/
def CutR (w : World) (s : ByteArray) (c : UInt8) (e : Ending) (w' : World) : Prop := ∃ (a b : ByteArray) (f : Bool), e = .returned (.tuple #[.string a, .string b, .bool f]) ∧ Below w.heap.size w w' ∧
  ((f = true ∧ s.data.toList = a.data.toList ++ c :: b.data.toList ∧ c ∉ a.data.toList) ∨ (f = false ∧ a = s ∧ b.data.toList = [] ∧ c ∉ s.data.toList))
set_option maxRecDepth 100000 in
set_option maxHeartbeats 4000000 in
theorem cut1_any (s sub : ByteArray) (c : UInt8) (hc : sub.data.toList = [c]) (w : World) (hs : s.size ≤ 9223372036854775806) :
    Calls Tryz.prog 167 #[.string s, .string sub] w fun e w' => CutR w s c e w' := by
  have HI := hide (fun W => index1_any s sub c hc W)
  have h1 : sub.size = 1 := by rw [← sizeB, hc]; rfl
  rcases Int.lt_or_le (Lib.indexByte s.data.toList c) 0 with hn | hn
  · have e0 : Lib.indexByte s.data.toList c = -1 := by have := Lib.indexByte_ge s.data.toList c; omega
    have hno : c ∉ s.data.toList := fun h => by
      obtain ⟨k, hk⟩ := List.getElem?_of_mem h
      exact Lib.indexByte_none e0 k hk
    rw [e0] at HI
    clear hn e0 hs
    go_enter Tryz.func167, Tryz.ntmps167
    go_wp2_with (go_at_call 188; refine ((unhide HI) _).mono ?_; rintro e w' ⟨rfl, rfl⟩)
    all_goals first | go_ret3 | skip
    exact ⟨s, ⟨#[]⟩, false, rfl, Below.refl _ _, .inr ⟨rfl, rfl, rfl, hno⟩⟩
  · obtain ⟨o, ho⟩ : ∃ o : Nat, Lib.indexByte s.data.toList c = o := ⟨_, (Int.toNat_of_nonneg hn).symm⟩
    obtain ⟨g1, g2⟩ := Lib.indexByte_some ho
    have hlt : o < s.data.toList.length := by
      rcases Nat.lt_or_ge o s.data.toList.length with h | h
      · exact h
      · rw [List.getElem?_eq_none h] at g1; cases g1
    have hlt2 : o < s.size := by rw [← sizeB]; exact hlt
    rw [ho] at HI
    have k1 : (s.extract 0 o).data.toList = s.data.toList.take o := by rw [Lib.extract_eq]; simp
    have k2 : (s.extract (o + sub.size) s.size).data.toList = s.data.toList.drop (o + 1) := by
      rw [Lib.extract_eq, h1]
      show List.take (s.size - (o + 1)) (List.drop (o + 1) s.data.toList) = _
      exact List.take_of_length_le (by rw [List.length_drop, sizeB]; exact Nat.le_refl _)
    have k3 : s.data.toList = (s.extract 0 o).data.toList ++ c :: (s.extract (o + sub.size) s.size).data.toList := by
      rw [k1, k2]
      have h2 : s.data.toList[o] = c := by rw [List.getElem?_eq_getElem hlt] at g1; exact Option.some.inj g1
      rw [← h2, ← List.drop_eq_getElem_cons hlt, List.take_append_drop]
    have k4 : c ∉ (s.extract 0 o).data.toList := fun h => by
      rw [k1] at h
      obtain ⟨k, hk⟩ := List.getElem?_of_mem h
      have hko : k < o := by
        rcases Nat.lt_or_ge k o with h | h
        · exact h
        · rw [List.getElem?_eq_none (by rw [List.length_take]; omega)] at hk; cases hk
      rw [List.getElem?_take_of_lt hko] at hk
      exact g2 k hko hk
    have c1 : (0 : Int) ≤ ↑o := by omega
    have c2 : (↑o : Int) ≤ ↑s.size := by omega
    have c3 : (0 : Int) ≤ ↑o + ↑sub.size := by omega
    have c4 : (↑o + ↑sub.size : Int) ≤ ↑s.size := by omega
    have K3 := Lib.hid k3
    have K4 := Lib.hid k4
    have H1 := Lib.hid h1
    clear k1 k2 k3 k4 g1 g2 hlt hlt2 hn ho hc h1
    go_enter Tryz.func167, Tryz.ntmps167
    go_wp2_with (go_at_call 188; refine ((unhide HI) _).mono ?_; rintro e w' ⟨rfl, rfl⟩)
    go_region
    all_goals go_wp2
    all_goals first | go_ret3 | skip
    all_goals exact ⟨_, _, true, rfl, by first | exact Below.refl _ _ | exact (Below.refl _ _).drew, .inl ⟨rfl, K3.out, K4.out⟩⟩
set_option maxRecDepth 100000 in
set_option maxHeartbeats 4000000 in
theorem scut1_any (s sub : ByteArray) (c : UInt8) (hc : sub.data.toList = [c]) (w : World) (hs : s.size ≤ 9223372036854775806) :
    Calls Tryz.prog 131 #[.string s, .string sub] w fun e w' => CutR w s c e w' := by
  have HI := hide (fun W => cut1_any s sub c hc W hs)
  clear hc hs
  go_enter Tryz.func131, Tryz.ntmps131
  go_wp2_with (go_at_call 167; refine ((unhide HI) _).mono ?_; rintro e w' ⟨a, b, f, rfl, hb, hf⟩)
  all_goals first | go_ret3 | skip
  exact ⟨a, b, f, rfl, hb, hf⟩
end Go.Proofs.YtpjgoogeokbaaaaGreatDoor
/- Whole numbers of the program: powers. -/
namespace Go.Proofs.YtpjgoogeokbaaaaGreatDoor
open Go.RowKit

set_option maxRecDepth 100000 in
set_option maxHeartbeats 16000000 in
theorem ipow_any (s1 : Int) (neg1 : Bool) (A1 : Option Addr) (c1 : Nat) (l1 : List Nat) (z : Int) (n K : Nat) (w : World) (h1 : IntF w s1 neg1 A1 c1 l1 z) (sz : Wd.Sz B64 K z) (hK : K * n + 1 ≤ lim) (hK2 : K ≤ lim) (hn : n ≤ 9223372036854775806) :
    Calls Tryz.prog 104 #[(Value.agg #[.int .i64 s1, .bool neg1, .slice A1 l1.length c1]), .int .i64 n] w fun e w' => IntR w (z ^ n) e w' := by
  have HX := hide h1; have HSZ := hide sz; have HK := hide hK; have HK2 := hide hK2
  have HO := hide (fun W => newInt_any 1 (by omega) (by omega) W)
  clear h1 sz hK hK2
  go_enter Tryz.func104, Tryz.ntmps104
  go_upto_region 1 with fail
  obtain ⟨nx, nr, hsz, hw0⟩ := two_new w (.cells #[.int .i64 s1, .bool neg1, .slice A1 l1.length c1] 61) (.cells #[.int .i64 0, .bool false, .slice none 0 0] 61)
  generalize ((w.alloc (.cells #[.int .i64 s1, .bool neg1, .slice A1 l1.length c1] 61)).alloc (.cells #[.int .i64 0, .bool false, .slice none 0 0] 61)) = W0 at *
  have hq := lt_of_block nr
  clear hsz
  go_wp2_with fail
  refine ((unhide HO) _).mono ?_
  rintro e W1 ⟨s5, neg5, A5, c5, l5, rfl, g1, hb⟩
  replace nx := (hb.block _ (lt_of_block nx)).trans nx
  replace nr := (hb.block _ (lt_of_block nr)).trans nr
  replace hq := Nat.lt_of_lt_of_le hq hb.size
  replace hw0 := below_step' hw0 hb
  clear hb
  go_upto_region 2 with fail
  have hbx := BoxI.new g1 rfl
  have hb := below_alloc (Below.refl W1.heap.size W1) (.cells #[.int .i64 s5, .bool neg5, .slice A5 l5.length c5] 61)
  clear g1
  obtain ⟨bx, hbxe⟩ : ∃ b, b = W1.heap.size := ⟨_, rfl⟩
  rw [← hbxe] at hbx ⊢
  have hbB : w.heap.size + 1 < bx := by rw [hbxe]; exact hq
  generalize W1.alloc (.cells #[.int .i64 s5, .bool neg5, .slice A5 l5.length c5] 61) = W2 at *
  replace nx := (hb.block _ (lt_of_block nx)).trans nx
  replace nr := (hb.block _ (lt_of_block nr)).trans nr
  replace hq := Nat.lt_of_lt_of_le hq hb.size
  replace hw0 := below_step' hw0 hb
  clear hb hbxe
  have HW0 := hide hw0; have NX := hide nx; have NR := hide nr; have HQ := hide hq
  clear hw0 nx nr hq
  go_wp2_with fail
  go_loopw [8] (fun iv wr => ∃ k : Nat, k ≤ n ∧ iv = .int .i64 (k : Int) ∧ BoxI wr bx (z ^ k) ∧ Hid (Below (w.heap.size + 2) W2 wr)) (fun iv _ => n - (intOf iv).toNat)
  case atStart => exact ⟨0, Nat.zero_le _, by first | rfl | go_num, by rw [Int.pow_zero]; exact hbx, hide (Below.refl _ _)⟩
  case round =>
    obtain ⟨k, hk, rfl, hbq, hgr⟩ := hrel
    have hwr : Below w.heap.size w wr := (unhide HW0).trans ((unhide hgr).mono (by omega))
    have hq0 := unhide HQ
    have hgs := (unhide hgr).size
    by_cases hlt : k < n
    · obtain ⟨s6, neg6, A6, c6, l6, j1, f1'⟩ := hbq
      have jx := ((unhide hgr).block w.heap.size (by omega)).trans (unhide NX)
      have kx_0 : wr.cell? ⟨bx, 0, none⟩ = some (.int .i64 s6) := cells_of j1 0
      have ux_0 := unfrozen_of j1 0
      have kx_1 : wr.cell? ⟨bx, 1, none⟩ = some (.bool neg6) := cells_of j1 1
      have ux_1 := unfrozen_of j1 1
      have kx_2 : wr.cell? ⟨bx, 2, none⟩ = some (.slice A6 l6.length c6) := cells_of j1 2
      have ux_2 := unfrozen_of j1 2
      have qx := lt_of_block j1
      have kw_0 : wr.cell? ⟨w.heap.size, 0, none⟩ = some (.int .i64 s1) := cells_of jx 0
      have kw_1 : wr.cell? ⟨w.heap.size, 1, none⟩ = some (.bool neg1) := cells_of jx 1
      have kw_2 : wr.cell? ⟨w.heap.size, 2, none⟩ = some (.slice A1 l1.length c1) := cells_of jx 2
      have hX := (unhide HX).below hwr
      have zk : Wd.Sz B64 (K * k + 1) (z ^ k) := Wd.sz_pow (unhide HSZ) sz_one k
      have hk2 : K * k ≤ K * n := Nat.mul_le_mul_left K (by omega)
      have HM := hide (imul_any s6 neg6 A6 c6 l6 (z ^ k) s1 neg1 A1 c1 l1 z wr f1' hX (f1'.fit zk (by have := unhide HK; omega)) (hX.fit (unhide HSZ) (unhide HK2)))
      have hps : z ^ (k + 1) = z ^ k * z := Int.pow_succ z k
      have HPS := Lib.hid hps
      have d1 : decide ((k : Int) < (n : Int)) = true := decide_eq_true (by omega)
      have d2 : decide (k < n) = true := decide_eq_true hlt
      have J1 := hide j1; have F1 := hide f1'
      clear hps zk hk2 hX j1 f1' jx
      go_wp2_with fail
      refine (unhide HM).mono ?_
      rintro e w' ⟨s7, neg7, A7, c7, l7, rfl, g7, hb⟩
      have hst := boxi_store (BoxI.below ⟨_, _, _, _, _, unhide J1, unhide F1⟩ hb) g7 ((unhide hgr).trans (hb.mono (by omega))) (by omega) (by have := hb.size; omega)
      obtain ⟨hc, hfz⟩ := bcell hb
      replace kx_0 := (hc _ _ qx).trans kx_0
      replace kx_1 := (hc _ _ qx).trans kx_1
      replace kx_2 := (hc _ _ qx).trans kx_2
      replace ux_0 := (hfz _ _ qx).trans ux_0
      replace ux_1 := (hfz _ _ qx).trans ux_1
      replace ux_2 := (hfz _ _ qx).trans ux_2
      clear g7 hb hc hfz HM
      go_wp2_with fail
      go_roundw
      case rel => exact ⟨k + 1, by omega, by first | rfl | go_num, HPS.out ▸ hst.1, hide hst.2⟩
      case measure => simp [intOf] <;> omega
    · obtain rfl : k = n := by omega
      obtain ⟨s6, neg6, A6, c6, l6, j1, f1'⟩ := hbq
      have jr := ((unhide hgr).block (w.heap.size + 1) (by omega)).trans (unhide NR)
      have kx_0 : wr.cell? ⟨bx, 0, none⟩ = some (.int .i64 s6) := cells_of j1 0
      have ux_0 := unfrozen_of j1 0
      have kx_1 : wr.cell? ⟨bx, 1, none⟩ = some (.bool neg6) := cells_of j1 1
      have ux_1 := unfrozen_of j1 1
      have kx_2 : wr.cell? ⟨bx, 2, none⟩ = some (.slice A6 l6.length c6) := cells_of j1 2
      have ux_2 := unfrozen_of j1 2
      have qx := lt_of_block j1
      have r0 : wr.cell? ⟨w.heap.size + 1, 0, none⟩ = some (.int .i64 0) := cells_of jr 0
      have fr0 := unfrozen_of jr 0
      have r1 : wr.cell? ⟨w.heap.size + 1, 1, none⟩ = some (.bool false) := cells_of jr 1
      have fr1 := unfrozen_of jr 1
      have r2 : wr.cell? ⟨w.heap.size + 1, 2, none⟩ = some (.slice none 0 0) := cells_of jr 2
      have fr2 := unfrozen_of jr 2
      have qr : w.heap.size + 1 < wr.heap.size := by omega
      have HBLK := Lib.hid jr
      have F1 := hide f1'
      have d1 : decide ((k : Int) < (k : Int)) = false := decide_eq_false (by omega)
      have d2 : decide (k < k) = false := decide_eq_false (by omega)
      clear j1 f1' jr hlt hk
      go_wp2_with fail
      exact bodyPost_ret (v := (Value.agg #[.int .i64 s6, .bool neg6, .slice A6 l6.length c6])) (by simp [results, Tryz.results104, go_sem, r0, r1, r2, qr]) rfl
        ⟨s6, neg6, A6, c6, l6, rfl, (unhide F1).upto HBLK.out (noWord3 _ _ _ _ _) (set3_grown _ _ _ _ _), hwr.grown (set3_grown _ _ _ _ _) hwr.size (fun k hk => by injection hk with hk; omega)⟩

end Go.Proofs.YtpjgoogeokbaaaaGreatDoor
/- Texts without a sign: the program. -/
namespace Go.Proofs.YtpjgoogeokbaaaaGreatDoor
open Go.RowKit

/-- What is told of a text without a sign. -/
def PosR (w : World) (l : List UInt8) (e : Ending) (w' : World) : Prop :=
  (Wd.posT l = none ∧ e = .returned (.tuple #[(Value.agg #[.int .i64 0, .bool false, .slice none 0 0, .int .i64 0, .bool false, .slice none 0 0]), .bool false]) ∧ Below w.heap.size w w') ∨
  ∃ q s1 neg1 A1 c1 l1 s2 neg2 A2 c2 l2, Wd.posT l = some q ∧ e = .returned (.tuple #[(Value.agg #[.int .i64 s1, .bool neg1, .slice A1 (List.length l1) c1, .int .i64 s2, .bool neg2, .slice A2 (List.length l2) c2]), .bool true]) ∧ IntF w' s1 neg1 A1 c1 l1 q.num ∧ IntF w' s2 neg2 A2 c2 l2 (q.den : Int) ∧ Below w.heap.size w w'
theorem catB (a b : ByteArray) : (a ++ b).data.toList = a.data.toList ++ b.data.toList := by
  rw [ByteArray.data_append, Array.toList_append]
theorem size_cat (a b : ByteArray) : (a ++ b).size = a.size + b.size := by
  rw [← sizeB, catB, List.length_append, sizeB, sizeB]
theorem bnot {b : Bool} (h : ¬ b = true) : b = false := by cases b with
  | true => exact absurd rfl h
  | false => rfl
theorem sz3 {l : List UInt8} (h : l.all Wd.isDg = true) (hl : l.length ≤ 40) : Wd.Sz B64 3 ((Wd.valD l : Nat) : Int) :=
  sz_val (Nat.lt_of_lt_of_le (Wd.valD_lt l h) (Nat.pow_le_pow_right (by omega) hl))
theorem sz_pow10 {n : Nat} (h : n ≤ 12) : Wd.Sz B64 3 ((10 ^ n : Nat) : Int) :=
  sz_val (Nat.lt_of_le_of_lt (Nat.pow_le_pow_right (by omega) h) (by decide))
theorem all_cat {a b : List UInt8} (h1 : a.all Wd.isDg = true) (h2 : b.all Wd.isDg = true) : (a ++ b).all Wd.isDg = true := by
  rw [List.all_append, h1, h2]; rfl

set_option maxRecDepth 100000 in
set_option maxHeartbeats 16000000 in
theorem ppos_any (s : ByteArray) (w : World) (hT : Tab w) (hs : s.size ≤ 9223372036854775806) :
    Calls Tryz.prog 85 #[.string s] w fun e w' => PosR w s.data.toList e w' := by
  have HT := hide hT
  have HC1 := hide (fun W => scut1_any s ⟨#[47]⟩ 47 rfl W hs)
  have HC2 := hide (fun W => scut1_any s ⟨#[46]⟩ 46 rfl W hs)
  have HSZ := hide hs
  clear hT hs
  go_enter Tryz.func85, Tryz.ntmps85
  go_upto_region 1 with fail
  obtain ⟨nr, hsz, hw0⟩ := one_new w (.cells #[.int .i64 0, .bool false, .slice none 0 0, .int .i64 0, .bool false, .slice none 0 0] 63)
  generalize w.alloc (.cells #[.int .i64 0, .bool false, .slice none 0 0, .int .i64 0, .bool false, .slice none 0 0] 63) = W0 at *
  have NR := hide nr
  have HB := Lib.hid hw0
  clear hsz hw0 nr
  go_wp2_with fail
  refine ((unhide HC1) _).mono ?_
  rintro e W1 ⟨a, b, f, rfl, hb, hcase⟩
  replace NR := hide ((hb.block _ (lt_of_block (unhide NR))).trans (unhide NR))
  replace HB := Lib.hid (below_step' HB.out hb)
  clear hb
  rcases hcase with ⟨rfl, hl, hn⟩ | ⟨rfl, _, _, hn⟩
  · have hlen : s.size = a.size + 1 + b.size := by rw [← sizeB, hl, List.length_append, List.length_cons, sizeB, sizeB]; omega
    have HNA := hide (fun W => isNumeral_any a W (by have := unhide HSZ; omega))
    have HNB := hide (fun W => isNumeral_any b W (by have := unhide HSZ; omega))
    clear hlen HC2
    by_cases na : Wd.numOk a.data.toList = true
    · by_cases nb : Wd.numOk b.data.toList = true
      · by_cases hz : b.data.toList = [48]
        · have HN := Lib.hid (show Wd.posT s.data.toList = none by rw [Wd.posT_slash hl hn, na, nb, hz]; rfl)
          rw [na] at HNA
          rw [nb] at HNB
          have e1 : (b.toList == [48]) = true := by rw [Lib.toList_data, hz]; rfl
          clear na nb hz hl hn HC1
          have r0 : W1.cell? ⟨w.heap.size, 0, none⟩ = some (.int .i64 0) := cells_of (unhide NR) 0
          have fr0 := unfrozen_of (unhide NR) 0
          have r1 : W1.cell? ⟨w.heap.size, 1, none⟩ = some (.bool false) := cells_of (unhide NR) 1
          have fr1 := unfrozen_of (unhide NR) 1
          have r2 : W1.cell? ⟨w.heap.size, 2, none⟩ = some (.slice none 0 0) := cells_of (unhide NR) 2
          have fr2 := unfrozen_of (unhide NR) 2
          have r3 : W1.cell? ⟨w.heap.size, 3, none⟩ = some (.int .i64 0) := cells_of (unhide NR) 3
          have fr3 := unfrozen_of (unhide NR) 3
          have r4 : W1.cell? ⟨w.heap.size, 4, none⟩ = some (.bool false) := cells_of (unhide NR) 4
          have fr4 := unfrozen_of (unhide NR) 4
          have r5 : W1.cell? ⟨w.heap.size, 5, none⟩ = some (.slice none 0 0) := cells_of (unhide NR) 5
          have fr5 := unfrozen_of (unhide NR) 5
          have qr := lt_of_block (unhide NR)
          go_wp2_with (first | (go_at_call_of 132 (Value.string a); refine ((unhide HNA) _).mono ?_; rintro e w' ⟨rfl, rfl⟩) | (go_at_call_of 132 (Value.string b); refine ((unhide HNB) _).mono ?_; rintro e w' ⟨rfl, rfl⟩))
          exact bodyPost_ret (v := .tuple #[(Value.agg #[.int .i64 0, .bool false, .slice none 0 0, .int .i64 0, .bool false, .slice none 0 0]), .bool false]) (by simp [results, Tryz.results85, go_sem, r0, r1, r2, r3, r4, r5, qr]) rfl
            (.inl ⟨HN.out, rfl, HB.out.grown (set6_grown _ _ _ _ _ _ _ _) HB.out.size (fun k hk => by injection hk with hk; omega)⟩)
        · have HIA := hide (fun W => integer_any a W (Wd.digsOk_iff.1 (Wd.numOk_iff.1 na).1).2.2 (by have := (Wd.digsOk_iff.1 (Wd.numOk_iff.1 na).1).2.1; rw [sizeB] at this; omega))
          have HIB := hide (fun W => integer_any b W (Wd.digsOk_iff.1 (Wd.numOk_iff.1 nb).1).2.2 (by have := (Wd.digsOk_iff.1 (Wd.numOk_iff.1 nb).1).2.1; rw [sizeB] at this; omega))
          have zs1 := sz3 (Wd.digsOk_iff.1 (Wd.numOk_iff.1 na).1).2.2 (by have := (Wd.digsOk_iff.1 (Wd.numOk_iff.1 na).1).2.1; omega)
          have zs2 := sz3 (Wd.digsOk_iff.1 (Wd.numOk_iff.1 nb).1).2.2 (by have := (Wd.digsOk_iff.1 (Wd.numOk_iff.1 nb).1).2.1; omega)
          have hp := Wd.numOk_pos nb hz
          have HPOS := Lib.hid (show Wd.posT s.data.toList = some (Rat.divInt (Wd.valD a.data.toList : Nat) (Wd.valD b.data.toList : Nat)) by
            rw [Wd.posT_slash hl hn, na, nb, beq_eq_false_iff_ne.2 hz]; rfl)
          obtain ⟨z1, hz1⟩ : ∃ z : Int, z = (Wd.valD a.data.toList : Nat) := ⟨_, rfl⟩
          obtain ⟨z2, hz2⟩ : ∃ z : Int, z = (Wd.valD b.data.toList : Nat) := ⟨_, rfl⟩
          have hz0 : z2 ≠ 0 := by omega
          rw [← hz1] at HIA HPOS zs1
          rw [← hz2] at HIB HPOS zs2
          have HNR := hide (fun s2 neg2 A2 c2 l2 s3 neg3 A3 c3 l3 W (hW : Tab W) (g2 : IntF W s2 neg2 A2 c2 l2 z1) (g3 : IntF W s3 neg3 A3 c3 l3 z2) => newr_any (K := 3) s2 neg2 A2 c2 l2 s3 neg3 A3 c3 l3 z1 z2 W hW g2 g3 hz0 zs1 zs2 (by rw [lim_eq]; omega))
          rw [na] at HNA
          rw [nb] at HNB
          have e1 : (b.toList == [48]) = false := by rw [Lib.toList_data]; exact beq_eq_false_iff_ne.2 hz
          clear na nb hz hl hn hp zs1 zs2 hz1 hz2 hz0 HC1
          go_wp2_with (first | (go_at_call_of 132 (Value.string a); refine ((unhide HNA) _).mono ?_; rintro e w' ⟨rfl, rfl⟩) | (go_at_call_of 132 (Value.string b); refine ((unhide HNB) _).mono ?_; rintro e w' ⟨rfl, rfl⟩))
          refine ((unhide HIA) _).mono ?_
          rintro e V1 ⟨s2, neg2, A2, c2, l2, rfl, f2, hb⟩
          have F2 := hide f2
          clear f2
          replace NR := hide ((hb.block _ (lt_of_block (unhide NR))).trans (unhide NR))
          replace HB := Lib.hid (below_step' HB.out hb)
          clear hb
          go_wp2_with fail
          refine ((unhide HIB) _).mono ?_
          rintro e V2 ⟨s3, neg3, A3, c3, l3, rfl, f3, hb⟩
          have F3 := hide f3
          clear f3
          replace NR := hide ((hb.block _ (lt_of_block (unhide NR))).trans (unhide NR))
          replace HB := Lib.hid (below_step' HB.out hb)
          replace F2 := hide ((unhide F2).below hb)
          clear hb
          go_wp2_with fail
          refine ((unhide HNR) s2 neg2 A2 c2 l2 s3 neg3 A3 c3 l3 _ ((unhide HT).below HB.out) (unhide F2) (unhide F3)).mono ?_
          rintro e V3 ⟨s4, neg4, A4, c4, l4, s5, neg5, A5, c5, l5, rfl, f4, f5, hb⟩
          have F4 := hide f4; have F5 := hide f5
          clear f4 f5 F2 F3
          replace NR := hide ((hb.block _ (lt_of_block (unhide NR))).trans (unhide NR))
          replace HB := Lib.hid (below_step' HB.out hb)
          clear hb
          have r0 : V3.cell? ⟨w.heap.size, 0, none⟩ = some (.int .i64 0) := cells_of (unhide NR) 0
          have fr0 := unfrozen_of (unhide NR) 0
          have r1 : V3.cell? ⟨w.heap.size, 1, none⟩ = some (.bool false) := cells_of (unhide NR) 1
          have fr1 := unfrozen_of (unhide NR) 1
          have r2 : V3.cell? ⟨w.heap.size, 2, none⟩ = some (.slice none 0 0) := cells_of (unhide NR) 2
          have fr2 := unfrozen_of (unhide NR) 2
          have r3 : V3.cell? ⟨w.heap.size, 3, none⟩ = some (.int .i64 0) := cells_of (unhide NR) 3
          have fr3 := unfrozen_of (unhide NR) 3
          have r4 : V3.cell? ⟨w.heap.size, 4, none⟩ = some (.bool false) := cells_of (unhide NR) 4
          have fr4 := unfrozen_of (unhide NR) 4
          have r5 : V3.cell? ⟨w.heap.size, 5, none⟩ = some (.slice none 0 0) := cells_of (unhide NR) 5
          have fr5 := unfrozen_of (unhide NR) 5
          have qr := lt_of_block (unhide NR)
          go_wp2_with fail
          have HBLK := Lib.hid (unhide NR)
          exact bodyPost_ret (v := .tuple #[(Value.agg #[.int .i64 s4, .bool neg4, .slice A4 l4.length c4, .int .i64 s5, .bool neg5, .slice A5 l5.length c5]), .bool true]) (by simp [results, Tryz.results85, go_sem, r0, r1, r2, r3, r4, r5, qr]) rfl
            (.inr ⟨_, s4, neg4, A4, c4, l4, s5, neg5, A5, c5, l5, HPOS.out, rfl, (unhide F4).upto HBLK.out (noWord6 _ _ _ _ _ _ _ _ _ _) (set6_grown _ _ _ _ _ _ _ _), (unhide F5).upto HBLK.out (noWord6 _ _ _ _ _ _ _ _ _ _) (set6_grown _ _ _ _ _ _ _ _), HB.out.grown (set6_grown _ _ _ _ _ _ _ _) HB.out.size (fun k hk => by injection hk with hk; omega)⟩)
      · have HN := Lib.hid (show Wd.posT s.data.toList = none by rw [Wd.posT_slash hl hn, na, bnot nb]; rfl)
        rw [na] at HNA
        rw [bnot nb] at HNB
        clear na nb hl hn HC1
        have r0 : W1.cell? ⟨w.heap.size, 0, none⟩ = some (.int .i64 0) := cells_of (unhide NR) 0
        have fr0 := unfrozen_of (unhide NR) 0
        have r1 : W1.cell? ⟨w.heap.size, 1, none⟩ = some (.bool false) := cells_of (unhide NR) 1
        have fr1 := unfrozen_of (unhide NR) 1
        have r2 : W1.cell? ⟨w.heap.size, 2, none⟩ = some (.slice none 0 0) := cells_of (unhide NR) 2
        have fr2 := unfrozen_of (unhide NR) 2
        have r3 : W1.cell? ⟨w.heap.size, 3, none⟩ = some (.int .i64 0) := cells_of (unhide NR) 3
        have fr3 := unfrozen_of (unhide NR) 3
        have r4 : W1.cell? ⟨w.heap.size, 4, none⟩ = some (.bool false) := cells_of (unhide NR) 4
        have fr4 := unfrozen_of (unhide NR) 4
        have r5 : W1.cell? ⟨w.heap.size, 5, none⟩ = some (.slice none 0 0) := cells_of (unhide NR) 5
        have fr5 := unfrozen_of (unhide NR) 5
        have qr := lt_of_block (unhide NR)
        go_wp2_with (first | (go_at_call_of 132 (Value.string a); refine ((unhide HNA) _).mono ?_; rintro e w' ⟨rfl, rfl⟩) | (go_at_call_of 132 (Value.string b); refine ((unhide HNB) _).mono ?_; rintro e w' ⟨rfl, rfl⟩))
        exact bodyPost_ret (v := .tuple #[(Value.agg #[.int .i64 0, .bool false, .slice none 0 0, .int .i64 0, .bool false, .slice none 0 0]), .bool false]) (by simp [results, Tryz.results85, go_sem, r0, r1, r2, r3, r4, r5, qr]) rfl
          (.inl ⟨HN.out, rfl, HB.out.grown (set6_grown _ _ _ _ _ _ _ _) HB.out.size (fun k hk => by injection hk with hk; omega)⟩)
    · have HN := Lib.hid (show Wd.posT s.data.toList = none by rw [Wd.posT_slash hl hn, bnot na]; rfl)
      rw [bnot na] at HNA
      clear na hl hn HC1 HNB
      have r0 : W1.cell? ⟨w.heap.size, 0, none⟩ = some (.int .i64 0) := cells_of (unhide NR) 0
      have fr0 := unfrozen_of (unhide NR) 0
      have r1 : W1.cell? ⟨w.heap.size, 1, none⟩ = some (.bool false) := cells_of (unhide NR) 1
      have fr1 := unfrozen_of (unhide NR) 1
      have r2 : W1.cell? ⟨w.heap.size, 2, none⟩ = some (.slice none 0 0) := cells_of (unhide NR) 2
      have fr2 := unfrozen_of (unhide NR) 2
      have r3 : W1.cell? ⟨w.heap.size, 3, none⟩ = some (.int .i64 0) := cells_of (unhide NR) 3
      have fr3 := unfrozen_of (unhide NR) 3
      have r4 : W1.cell? ⟨w.heap.size, 4, none⟩ = some (.bool false) := cells_of (unhide NR) 4
      have fr4 := unfrozen_of (unhide NR) 4
      have r5 : W1.cell? ⟨w.heap.size, 5, none⟩ = some (.slice none 0 0) := cells_of (unhide NR) 5
      have fr5 := unfrozen_of (unhide NR) 5
      have qr := lt_of_block (unhide NR)
      go_wp2_with (first | (go_at_call_of 132 (Value.string a); refine ((unhide HNA) _).mono ?_; rintro e w' ⟨rfl, rfl⟩))
      exact bodyPost_ret (v := .tuple #[(Value.agg #[.int .i64 0, .bool false, .slice none 0 0, .int .i64 0, .bool false, .slice none 0 0]), .bool false]) (by simp [results, Tryz.results85, go_sem, r0, r1, r2, r3, r4, r5, qr]) rfl
        (.inl ⟨HN.out, rfl, HB.out.grown (set6_grown _ _ _ _ _ _ _ _) HB.out.size (fun k hk => by injection hk with hk; omega)⟩)
  · go_wp2_with fail
    refine ((unhide HC2) _).mono ?_
    rintro e W2 ⟨a, b, f, rfl, hb, hcase⟩
    replace NR := hide ((hb.block _ (lt_of_block (unhide NR))).trans (unhide NR))
    replace HB := Lib.hid (below_step' HB.out hb)
    clear hb
    rcases hcase with ⟨rfl, hl, hn2⟩ | ⟨rfl, ha, hbn, hn2⟩
    · have hlen : s.size = a.size + 1 + b.size := by rw [← sizeB, hl, List.length_append, List.length_cons, sizeB, sizeB]; omega
      have HNA := hide (fun W => isNumeral_any a W (by have := unhide HSZ; omega))
      have HNB := hide (fun W => isDigits_any b 12 W (by have := unhide HSZ; omega))
      clear hlen
      by_cases na : Wd.numOk a.data.toList = true
      · by_cases nb : Wd.digsOk b.data.toList 12 = true
        · obtain ⟨g1, g2, g3⟩ := Wd.digsOk_iff.1 nb
          obtain ⟨g4, g5, g6⟩ := Wd.digsOk_iff.1 (Wd.numOk_iff.1 na).1
          rw [sizeB] at g2 g5
          have hcat := all_cat g6 g3
          have hb12 : b.size ≤ 12 := by omega
          have hl40 : a.size ≤ 20 := by omega
          have HPOS := Lib.hid (show Wd.posT s.data.toList = some (Rat.divInt (Wd.valD (a.data.toList ++ b.data.toList) : Nat) ((10 ^ b.size : Nat) : Int)) by
            rw [Wd.posT_dot hn hl hn2, na, nb, sizeB]; rfl)
          rw [na] at HNA
          rw [nb] at HNB
          clear na nb g1 g2 g3 g4 g5 g6 hl hn hn2
          have HIA := hide (fun W => integer_any (a ++ b) W (by rw [catB]; exact hcat) (by rw [size_cat]; omega))
          rw [catB] at HIA
          have hadd : ∀ W, (Op.stringOp .add a b).run Tryz.prog W = .ok (.string (a ++ b)) W := fun W => run_string_add_sum W a b (by omega)
          have hno : ¬ (a.size + b.size > 9223372036854775807) := by omega
          obtain ⟨y, hy⟩ : ∃ y, a ++ b = y := ⟨_, rfl⟩
          rw [hy] at HIA hadd
          clear hy
          have zs1 := sz3 hcat (by rw [List.length_append, sizeB, sizeB]; omega)
          have zs2 := sz_pow10 (n := b.size) hb12
          obtain ⟨z1, hz1⟩ : ∃ z : Int, z = (Wd.valD (a.data.toList ++ b.data.toList) : Nat) := ⟨_, rfl⟩
          obtain ⟨z2, hz2⟩ : ∃ z : Int, z = ((10 ^ b.size : Nat) : Int) := ⟨_, rfl⟩
          have hz0 : z2 ≠ 0 := by have := Nat.pow_pos (n := b.size) (show 0 < 10 by decide); omega
          have hz3 : (10 : Int) ^ b.size = z2 := by rw [hz2, Int.natCast_pow]; rfl
          rw [← hz1] at HIA HPOS zs1
          rw [← hz2] at HPOS zs2
          have HNR := hide (fun s2 neg2 A2 c2 l2 s3 neg3 A3 c3 l3 W (hW : Tab W) (g2 : IntF W s2 neg2 A2 c2 l2 z1) (g3 : IntF W s3 neg3 A3 c3 l3 z2) => newr_any (K := 3) s2 neg2 A2 c2 l2 s3 neg3 A3 c3 l3 z1 z2 W hW g2 g3 hz0 zs1 zs2 (by rw [lim_eq]; omega))
          have HN10 := hide (fun W => newInt_any 10 (by omega) (by omega) W)
          have HPW := hide (fun s2 neg2 A2 c2 l2 W (g2 : IntF W s2 neg2 A2 c2 l2 10) => ipow_any s2 neg2 A2 c2 l2 10 b.size 1 W g2 sz_ten (by rw [lim_eq]; omega) (by rw [lim_eq]; omega) (by omega))
          rw [hz3] at HPW
          clear hcat hb12 hl40 zs1 zs2 hz1 hz2 hz0 hz3 HC1 HC2
          go_wp2_with (first | (go_at_call_of 132 (Value.string a); refine ((unhide HNA) _).mono ?_; rintro e w' ⟨rfl, rfl⟩) | (go_at_call 134; refine ((unhide HNB) _).mono ?_; rintro e w' ⟨rfl, rfl⟩))
          refine ((unhide HN10) _).mono ?_
          rintro e V2 ⟨s2, neg2, A2, c2, l2, rfl, f2, hb⟩
          have F2 := hide f2
          clear f2
          replace NR := hide ((hb.block _ (lt_of_block (unhide NR))).trans (unhide NR))
          replace HB := Lib.hid (below_step' HB.out hb)
          clear hb
          go_wp2_with fail
          refine ((unhide HPW) s2 neg2 A2 c2 l2 _ (unhide F2)).mono ?_
          rintro e V3 ⟨s3, neg3, A3, c3, l3, rfl, f3, hb⟩
          have F3 := hide f3
          clear f3 F2
          replace NR := hide ((hb.block _ (lt_of_block (unhide NR))).trans (unhide NR))
          replace HB := Lib.hid (below_step' HB.out hb)
          clear hb
          go_upto_region 10 with fail
          have nu := heap_alloc_new V3 (.cells #[.int .i64 s3, .bool neg3, .slice A3 l3.length c3] 61)
          have hb := below_alloc (Below.refl V3.heap.size V3) (.cells #[.int .i64 s3, .bool neg3, .slice A3 l3.length c3] 61)
          generalize V3.alloc (.cells #[.int .i64 s3, .bool neg3, .slice A3 l3.length c3] 61) = V4 at *
          obtain ⟨bu, hbu⟩ : ∃ b, b = V3.heap.size := ⟨_, rfl⟩
          rw [← hbu] at nu ⊢
          have obu : w.heap.size < bu := by rw [hbu]; exact lt_of_block (unhide NR)
          clear hbu
          replace NR := hide ((hb.block _ (lt_of_block (unhide NR))).trans (unhide NR))
          replace HB := Lib.hid (below_step' HB.out hb)
          replace F3 := hide ((unhide F3).below hb)
          clear hb
          have ku_0 : V4.cell? ⟨bu, 0, none⟩ = some (.int .i64 s3) := cells_of nu 0
          have ku_1 : V4.cell? ⟨bu, 1, none⟩ = some (.bool neg3) := cells_of nu 1
          have ku_2 : V4.cell? ⟨bu, 2, none⟩ = some (.slice A3 l3.length c3) := cells_of nu 2
          have qu := lt_of_block nu
          have r0 : V4.cell? ⟨w.heap.size, 0, none⟩ = some (.int .i64 0) := cells_of (unhide NR) 0
          have fr0 := unfrozen_of (unhide NR) 0
          have r1 : V4.cell? ⟨w.heap.size, 1, none⟩ = some (.bool false) := cells_of (unhide NR) 1
          have fr1 := unfrozen_of (unhide NR) 1
          have r2 : V4.cell? ⟨w.heap.size, 2, none⟩ = some (.slice none 0 0) := cells_of (unhide NR) 2
          have fr2 := unfrozen_of (unhide NR) 2
          have r3 : V4.cell? ⟨w.heap.size, 3, none⟩ = some (.int .i64 0) := cells_of (unhide NR) 3
          have fr3 := unfrozen_of (unhide NR) 3
          have r4 : V4.cell? ⟨w.heap.size, 4, none⟩ = some (.bool false) := cells_of (unhide NR) 4
          have fr4 := unfrozen_of (unhide NR) 4
          have r5 : V4.cell? ⟨w.heap.size, 5, none⟩ = some (.slice none 0 0) := cells_of (unhide NR) 5
          have fr5 := unfrozen_of (unhide NR) 5
          have qr := lt_of_block (unhide NR)
          clear nu
          go_region_with (first | (go_at_call 133; refine ((unhide HIA) _).mono ?_; rintro e w' ⟨s4, neg4, A4, c4, l4, rfl, f4, hb4⟩; have hbw := below_step (w := V4) (by (first | with_reducible assumption | (repeat (first | with_reducible exact Below.refl _ _ | with_reducible assumption | refine Below.drew ?_ | (refine Below.alloc ?_ (by simp <;> omega) _) | refine belowN ?_ _)))) hb4; obtain ⟨hc, hfz⟩ := bcell hbw) | (go_at_call 101; refine ((unhide HNR) s4 neg4 A4 c4 l4 s3 neg3 A3 c3 l3 _ ((unhide HT).below (below_step' HB.out (by (first | with_reducible assumption | (repeat (first | with_reducible exact Below.refl _ _ | with_reducible assumption | refine Below.drew ?_ | (refine Below.alloc ?_ (by simp <;> omega) _) | refine belowN ?_ _)))))) (by first | exact f4 | exact IntF.below f4 (by (first | with_reducible assumption | (repeat (first | with_reducible exact Below.refl _ _ | with_reducible assumption | refine Below.drew ?_ | (refine Below.alloc ?_ (by simp <;> omega) _) | refine belowN ?_ _))))) (IntF.below (unhide F3) (by (first | with_reducible assumption | (repeat (first | with_reducible exact Below.refl _ _ | with_reducible assumption | refine Below.drew ?_ | (refine Below.alloc ?_ (by simp <;> omega) _) | refine belowN ?_ _)))))).mono ?_; rintro e w' ⟨s5, neg5, A5, c5, l5, s6, neg6, A6, c6, l6, rfl, f5, f6, hb5⟩; have hbw := below_step (w := V4) (by (first | with_reducible assumption | (repeat (first | with_reducible exact Below.refl _ _ | with_reducible assumption | refine Below.drew ?_ | (refine Below.alloc ?_ (by simp <;> omega) _) | refine belowN ?_ _)))) hb5; obtain ⟨hc, hfz⟩ := bcell hbw))
          all_goals
            replace NR := hide ((hbw.block _ (lt_of_block (unhide NR))).trans (unhide NR))
            replace HB := Lib.hid (below_step' HB.out hbw)
            have HBLK := Lib.hid (unhide NR)
            have F5 := hide f5; have F6 := hide f6
            go_wp2_with fail
            exact bodyPost_ret (v := .tuple #[(Value.agg #[.int .i64 s5, .bool neg5, .slice A5 l5.length c5, .int .i64 s6, .bool neg6, .slice A6 l6.length c6]), .bool true]) (by simp [results, Tryz.results85, go_sem, hc, r0, r1, r2, r3, r4, r5, qr]) rfl
              (.inr ⟨_, s5, neg5, A5, c5, l5, s6, neg6, A6, c6, l6, HPOS.out, rfl, (unhide F5).upto HBLK.out (noWord6 _ _ _ _ _ _ _ _ _ _) (set6_grown _ _ _ _ _ _ _ _), (unhide F6).upto HBLK.out (noWord6 _ _ _ _ _ _ _ _ _ _) (set6_grown _ _ _ _ _ _ _ _), HB.out.grown (set6_grown _ _ _ _ _ _ _ _) HB.out.size (fun k hk => by injection hk with hk; omega)⟩)
        · have HN := Lib.hid (show Wd.posT s.data.toList = none by rw [Wd.posT_dot hn hl hn2, na, bnot nb]; rfl)
          rw [na] at HNA
          rw [bnot nb] at HNB
          clear na nb hl hn hn2 HC1 HC2
          have r0 : W2.cell? ⟨w.heap.size, 0, none⟩ = some (.int .i64 0) := cells_of (unhide NR) 0
          have fr0 := unfrozen_of (unhide NR) 0
          have r1 : W2.cell? ⟨w.heap.size, 1, none⟩ = some (.bool false) := cells_of (unhide NR) 1
          have fr1 := unfrozen_of (unhide NR) 1
          have r2 : W2.cell? ⟨w.heap.size, 2, none⟩ = some (.slice none 0 0) := cells_of (unhide NR) 2
          have fr2 := unfrozen_of (unhide NR) 2
          have r3 : W2.cell? ⟨w.heap.size, 3, none⟩ = some (.int .i64 0) := cells_of (unhide NR) 3
          have fr3 := unfrozen_of (unhide NR) 3
          have r4 : W2.cell? ⟨w.heap.size, 4, none⟩ = some (.bool false) := cells_of (unhide NR) 4
          have fr4 := unfrozen_of (unhide NR) 4
          have r5 : W2.cell? ⟨w.heap.size, 5, none⟩ = some (.slice none 0 0) := cells_of (unhide NR) 5
          have fr5 := unfrozen_of (unhide NR) 5
          have qr := lt_of_block (unhide NR)
          go_wp2_with (first | (go_at_call_of 132 (Value.string a); refine ((unhide HNA) _).mono ?_; rintro e w' ⟨rfl, rfl⟩) | (go_at_call 134; refine ((unhide HNB) _).mono ?_; rintro e w' ⟨rfl, rfl⟩))
          exact bodyPost_ret (v := .tuple #[(Value.agg #[.int .i64 0, .bool false, .slice none 0 0, .int .i64 0, .bool false, .slice none 0 0]), .bool false]) (by simp [results, Tryz.results85, go_sem, r0, r1, r2, r3, r4, r5, qr]) rfl
            (.inl ⟨HN.out, rfl, HB.out.grown (set6_grown _ _ _ _ _ _ _ _) HB.out.size (fun k hk => by injection hk with hk; omega)⟩)
      · have HN := Lib.hid (show Wd.posT s.data.toList = none by rw [Wd.posT_dot hn hl hn2, bnot na]; rfl)
        rw [bnot na] at HNA
        clear na hl hn hn2 HC1 HC2 HNB
        have r0 : W2.cell? ⟨w.heap.size, 0, none⟩ = some (.int .i64 0) := cells_of (unhide NR) 0
        have fr0 := unfrozen_of (unhide NR) 0
        have r1 : W2.cell? ⟨w.heap.size, 1, none⟩ = some (.bool false) := cells_of (unhide NR) 1
        have fr1 := unfrozen_of (unhide NR) 1
        have r2 : W2.cell? ⟨w.heap.size, 2, none⟩ = some (.slice none 0 0) := cells_of (unhide NR) 2
        have fr2 := unfrozen_of (unhide NR) 2
        have r3 : W2.cell? ⟨w.heap.size, 3, none⟩ = some (.int .i64 0) := cells_of (unhide NR) 3
        have fr3 := unfrozen_of (unhide NR) 3
        have r4 : W2.cell? ⟨w.heap.size, 4, none⟩ = some (.bool false) := cells_of (unhide NR) 4
        have fr4 := unfrozen_of (unhide NR) 4
        have r5 : W2.cell? ⟨w.heap.size, 5, none⟩ = some (.slice none 0 0) := cells_of (unhide NR) 5
        have fr5 := unfrozen_of (unhide NR) 5
        have qr := lt_of_block (unhide NR)
        go_wp2_with (first | (go_at_call_of 132 (Value.string a); refine ((unhide HNA) _).mono ?_; rintro e w' ⟨rfl, rfl⟩))
        exact bodyPost_ret (v := .tuple #[(Value.agg #[.int .i64 0, .bool false, .slice none 0 0, .int .i64 0, .bool false, .slice none 0 0]), .bool false]) (by simp [results, Tryz.results85, go_sem, r0, r1, r2, r3, r4, r5, qr]) rfl
          (.inl ⟨HN.out, rfl, HB.out.grown (set6_grown _ _ _ _ _ _ _ _) HB.out.size (fun k hk => by injection hk with hk; omega)⟩)
    · have HNA := hide (fun W => isNumeral_any a W (by have := unhide HSZ; rw [ha]; omega))
      by_cases na : Wd.numOk a.data.toList = true
      · obtain ⟨g4, g5, g6⟩ := Wd.digsOk_iff.1 (Wd.numOk_iff.1 na).1
        rw [sizeB] at g5
        have hb0 : b.size = 0 := by rw [← sizeB, hbn]; rfl
        have hcat : (a.data.toList ++ b.data.toList).all Wd.isDg = true := by rw [hbn, List.append_nil]; exact g6
        have hb12 : b.size ≤ 12 := by omega
        have hl40 : a.size ≤ 20 := by omega
        have HPOS := Lib.hid (show Wd.posT s.data.toList = some (Rat.divInt (Wd.valD (a.data.toList ++ b.data.toList) : Nat) ((10 ^ b.size : Nat) : Int)) by
          rw [Wd.posT_plain hn hn2, ← ha, na, hbn, List.append_nil, hb0]; rfl)
        rw [na] at HNA
        clear na g4 g5 g6 ha hbn hn hn2 hb0
        have HIA := hide (fun W => integer_any (a ++ b) W (by rw [catB]; exact hcat) (by rw [size_cat]; omega))
        rw [catB] at HIA
        have hadd : ∀ W, (Op.stringOp .add a b).run Tryz.prog W = .ok (.string (a ++ b)) W := fun W => run_string_add_sum W a b (by omega)
        have hno : ¬ (a.size + b.size > 9223372036854775807) := by omega
        obtain ⟨y, hy⟩ : ∃ y, a ++ b = y := ⟨_, rfl⟩
        rw [hy] at HIA hadd
        clear hy
        have zs1 := sz3 hcat (by rw [List.length_append, sizeB, sizeB]; omega)
        have zs2 := sz_pow10 (n := b.size) hb12
        obtain ⟨z1, hz1⟩ : ∃ z : Int, z = (Wd.valD (a.data.toList ++ b.data.toList) : Nat) := ⟨_, rfl⟩
        obtain ⟨z2, hz2⟩ : ∃ z : Int, z = ((10 ^ b.size : Nat) : Int) := ⟨_, rfl⟩
        have hz0 : z2 ≠ 0 := by have := Nat.pow_pos (n := b.size) (show 0 < 10 by decide); omega
        have hz3 : (10 : Int) ^ b.size = z2 := by rw [hz2, Int.natCast_pow]; rfl
        rw [← hz1] at HIA HPOS zs1
        rw [← hz2] at HPOS zs2
        have HNR := hide (fun s2 neg2 A2 c2 l2 s3 neg3 A3 c3 l3 W (hW : Tab W) (g2 : IntF W s2 neg2 A2 c2 l2 z1) (g3 : IntF W s3 neg3 A3 c3 l3 z2) => newr_any (K := 3) s2 neg2 A2 c2 l2 s3 neg3 A3 c3 l3 z1 z2 W hW g2 g3 hz0 zs1 zs2 (by rw [lim_eq]; omega))
        have HN10 := hide (fun W => newInt_any 10 (by omega) (by omega) W)
        have HPW := hide (fun s2 neg2 A2 c2 l2 W (g2 : IntF W s2 neg2 A2 c2 l2 10) => ipow_any s2 neg2 A2 c2 l2 10 b.size 1 W g2 sz_ten (by rw [lim_eq]; omega) (by rw [lim_eq]; omega) (by omega))
        rw [hz3] at HPW
        clear hcat hb12 hl40 zs1 zs2 hz1 hz2 hz0 hz3 HC1 HC2
        go_wp2_with (first | (go_at_call_of 132 (Value.string a); refine ((unhide HNA) _).mono ?_; rintro e w' ⟨rfl, rfl⟩))
        refine ((unhide HN10) _).mono ?_
        rintro e V2 ⟨s2, neg2, A2, c2, l2, rfl, f2, hb⟩
        have F2 := hide f2
        clear f2
        replace NR := hide ((hb.block _ (lt_of_block (unhide NR))).trans (unhide NR))
        replace HB := Lib.hid (below_step' HB.out hb)
        clear hb
        go_wp2_with fail
        refine ((unhide HPW) s2 neg2 A2 c2 l2 _ (unhide F2)).mono ?_
        rintro e V3 ⟨s3, neg3, A3, c3, l3, rfl, f3, hb⟩
        have F3 := hide f3
        clear f3 F2
        replace NR := hide ((hb.block _ (lt_of_block (unhide NR))).trans (unhide NR))
        replace HB := Lib.hid (below_step' HB.out hb)
        clear hb
        go_upto_region 10 with fail
        have nu := heap_alloc_new V3 (.cells #[.int .i64 s3, .bool neg3, .slice A3 l3.length c3] 61)
        have hb := below_alloc (Below.refl V3.heap.size V3) (.cells #[.int .i64 s3, .bool neg3, .slice A3 l3.length c3] 61)
        generalize V3.alloc (.cells #[.int .i64 s3, .bool neg3, .slice A3 l3.length c3] 61) = V4 at *
        obtain ⟨bu, hbu⟩ : ∃ b, b = V3.heap.size := ⟨_, rfl⟩
        rw [← hbu] at nu ⊢
        have obu : w.heap.size < bu := by rw [hbu]; exact lt_of_block (unhide NR)
        clear hbu
        replace NR := hide ((hb.block _ (lt_of_block (unhide NR))).trans (unhide NR))
        replace HB := Lib.hid (below_step' HB.out hb)
        replace F3 := hide ((unhide F3).below hb)
        clear hb
        have ku_0 : V4.cell? ⟨bu, 0, none⟩ = some (.int .i64 s3) := cells_of nu 0
        have ku_1 : V4.cell? ⟨bu, 1, none⟩ = some (.bool neg3) := cells_of nu 1
        have ku_2 : V4.cell? ⟨bu, 2, none⟩ = some (.slice A3 l3.length c3) := cells_of nu 2
        have qu := lt_of_block nu
        have r0 : V4.cell? ⟨w.heap.size, 0, none⟩ = some (.int .i64 0) := cells_of (unhide NR) 0
        have fr0 := unfrozen_of (unhide NR) 0
        have r1 : V4.cell? ⟨w.heap.size, 1, none⟩ = some (.bool false) := cells_of (unhide NR) 1
        have fr1 := unfrozen_of (unhide NR) 1
        have r2 : V4.cell? ⟨w.heap.size, 2, none⟩ = some (.slice none 0 0) := cells_of (unhide NR) 2
        have fr2 := unfrozen_of (unhide NR) 2
        have r3 : V4.cell? ⟨w.heap.size, 3, none⟩ = some (.int .i64 0) := cells_of (unhide NR) 3
        have fr3 := unfrozen_of (unhide NR) 3
        have r4 : V4.cell? ⟨w.heap.size, 4, none⟩ = some (.bool false) := cells_of (unhide NR) 4
        have fr4 := unfrozen_of (unhide NR) 4
        have r5 : V4.cell? ⟨w.heap.size, 5, none⟩ = some (.slice none 0 0) := cells_of (unhide NR) 5
        have fr5 := unfrozen_of (unhide NR) 5
        have qr := lt_of_block (unhide NR)
        clear nu
        go_region_with (first | (go_at_call 133; refine ((unhide HIA) _).mono ?_; rintro e w' ⟨s4, neg4, A4, c4, l4, rfl, f4, hb4⟩; have hbw := below_step (w := V4) (by (first | with_reducible assumption | (repeat (first | with_reducible exact Below.refl _ _ | with_reducible assumption | refine Below.drew ?_ | (refine Below.alloc ?_ (by simp <;> omega) _) | refine belowN ?_ _)))) hb4; obtain ⟨hc, hfz⟩ := bcell hbw) | (go_at_call 101; refine ((unhide HNR) s4 neg4 A4 c4 l4 s3 neg3 A3 c3 l3 _ ((unhide HT).below (below_step' HB.out (by (first | with_reducible assumption | (repeat (first | with_reducible exact Below.refl _ _ | with_reducible assumption | refine Below.drew ?_ | (refine Below.alloc ?_ (by simp <;> omega) _) | refine belowN ?_ _)))))) (by first | exact f4 | exact IntF.below f4 (by (first | with_reducible assumption | (repeat (first | with_reducible exact Below.refl _ _ | with_reducible assumption | refine Below.drew ?_ | (refine Below.alloc ?_ (by simp <;> omega) _) | refine belowN ?_ _))))) (IntF.below (unhide F3) (by (first | with_reducible assumption | (repeat (first | with_reducible exact Below.refl _ _ | with_reducible assumption | refine Below.drew ?_ | (refine Below.alloc ?_ (by simp <;> omega) _) | refine belowN ?_ _)))))).mono ?_; rintro e w' ⟨s5, neg5, A5, c5, l5, s6, neg6, A6, c6, l6, rfl, f5, f6, hb5⟩; have hbw := below_step (w := V4) (by (first | with_reducible assumption | (repeat (first | with_reducible exact Below.refl _ _ | with_reducible assumption | refine Below.drew ?_ | (refine Below.alloc ?_ (by simp <;> omega) _) | refine belowN ?_ _)))) hb5; obtain ⟨hc, hfz⟩ := bcell hbw))
        all_goals
          replace NR := hide ((hbw.block _ (lt_of_block (unhide NR))).trans (unhide NR))
          replace HB := Lib.hid (below_step' HB.out hbw)
          have HBLK := Lib.hid (unhide NR)
          have F5 := hide f5; have F6 := hide f6
          go_wp2_with fail
          exact bodyPost_ret (v := .tuple #[(Value.agg #[.int .i64 s5, .bool neg5, .slice A5 l5.length c5, .int .i64 s6, .bool neg6, .slice A6 l6.length c6]), .bool true]) (by simp [results, Tryz.results85, go_sem, hc, r0, r1, r2, r3, r4, r5, qr]) rfl
            (.inr ⟨_, s5, neg5, A5, c5, l5, s6, neg6, A6, c6, l6, HPOS.out, rfl, (unhide F5).upto HBLK.out (noWord6 _ _ _ _ _ _ _ _ _ _) (set6_grown _ _ _ _ _ _ _ _), (unhide F6).upto HBLK.out (noWord6 _ _ _ _ _ _ _ _ _ _) (set6_grown _ _ _ _ _ _ _ _), HB.out.grown (set6_grown _ _ _ _ _ _ _ _) HB.out.size (fun k hk => by injection hk with hk; omega)⟩)
      · have HN := Lib.hid (show Wd.posT s.data.toList = none by rw [Wd.posT_plain hn hn2, ← ha, bnot na]; rfl)
        rw [bnot na] at HNA
        clear na ha hbn hn hn2 HC1 HC2
        have r0 : W2.cell? ⟨w.heap.size, 0, none⟩ = some (.int .i64 0) := cells_of (unhide NR) 0
        have fr0 := unfrozen_of (unhide NR) 0
        have r1 : W2.cell? ⟨w.heap.size, 1, none⟩ = some (.bool false) := cells_of (unhide NR) 1
        have fr1 := unfrozen_of (unhide NR) 1
        have r2 : W2.cell? ⟨w.heap.size, 2, none⟩ = some (.slice none 0 0) := cells_of (unhide NR) 2
        have fr2 := unfrozen_of (unhide NR) 2
        have r3 : W2.cell? ⟨w.heap.size, 3, none⟩ = some (.int .i64 0) := cells_of (unhide NR) 3
        have fr3 := unfrozen_of (unhide NR) 3
        have r4 : W2.cell? ⟨w.heap.size, 4, none⟩ = some (.bool false) := cells_of (unhide NR) 4
        have fr4 := unfrozen_of (unhide NR) 4
        have r5 : W2.cell? ⟨w.heap.size, 5, none⟩ = some (.slice none 0 0) := cells_of (unhide NR) 5
        have fr5 := unfrozen_of (unhide NR) 5
        have qr := lt_of_block (unhide NR)
        go_wp2_with (first | (go_at_call_of 132 (Value.string a); refine ((unhide HNA) _).mono ?_; rintro e w' ⟨rfl, rfl⟩))
        exact bodyPost_ret (v := .tuple #[(Value.agg #[.int .i64 0, .bool false, .slice none 0 0, .int .i64 0, .bool false, .slice none 0 0]), .bool false]) (by simp [results, Tryz.results85, go_sem, r0, r1, r2, r3, r4, r5, qr]) rfl
          (.inl ⟨HN.out, rfl, HB.out.grown (set6_grown _ _ _ _ _ _ _ _) HB.out.size (fun k hk => by injection hk with hk; omega)⟩)

end Go.Proofs.YtpjgoogeokbaaaaGreatDoor
/- Numerals: the reference. -/
namespace Go.Proofs.YtpjgoogeokbaaaaGreatDoor
open Go.RowKit

/-- What Numeral answers. -/
def NumR (w : World) (l : List UInt8) (e : Ending) (w' : World) : Prop :=
  (Wd.numOk l = true ∧ ∃ A1 c1 l1 m1 A2 c2 l2 m2, e = .returned (.tuple #[(Value.agg #[.slice A1 (List.length l1) c1, .bool m1, .slice A2 (List.length l2) c2, .bool m2]), .bool true]) ∧ QV w' A1 c1 l1 m1 A2 c2 l2 m2 (Rat.divInt ((Wd.valD l : Nat)) 1) ∧ Below w.heap.size w w') ∨
  (Wd.numOk l = false ∧ e = .returned (.tuple #[(Value.agg #[.slice none 0 0, .bool false, .slice none 0 0, .bool false]), .bool false]) ∧ Below w.heap.size w w')
theorem num_facts {l : List UInt8} (h : Wd.numOk l = true) : 1 ≤ l.length ∧ l.length ≤ 20 ∧ ¬ (l.head? = some 48 ∧ 1 < l.length) := by
  have hd := Wd.numOk_dig h
  rw [Wd.numOk_of_dig hd, Bool.and_eq_true, Bool.and_eq_true, decide_eq_true_eq, decide_eq_true_eq, Bool.not_eq_true', Bool.and_eq_false_imp, decide_eq_true_eq, decide_eq_false_iff_not] at h
  exact ⟨h.1.1, h.1.2, fun h4 => h.2 h4.1 h4.2⟩
theorem num_of {l : List UInt8} (hd : l.all Wd.isDg = true) (h1 : 1 ≤ l.length) (h2 : l.length ≤ 20) (h3 : ¬ (l.head? = some 48 ∧ 1 < l.length)) : Wd.numOk l = true := by
  rw [Wd.numOk_of_dig hd, Bool.and_eq_true, Bool.and_eq_true, decide_eq_true_eq, decide_eq_true_eq, Bool.not_eq_true', Bool.and_eq_false_imp, decide_eq_true_eq, decide_eq_false_iff_not]
  exact ⟨⟨h1, h2⟩, fun h4 h5 => h3 ⟨h4, h5⟩⟩

set_option maxRecDepth 100000 in
set_option maxHeartbeats 16000000 in
theorem tnumeral_any (s : ByteArray) (w : World) (hs : s.size ≤ 140737488351232) :
    Calls Tryz.prog 136 #[.string s] w fun e w' => NumR w s.data.toList e w' := by
  by_cases h1 : (s.size : Int) < 1
  · have HN := Lib.hid (bnot (fun h => by have := (num_facts h).1; rw [sizeB] at this; omega) : Wd.numOk s.data.toList = false)
    have d1 : decide ((s.size : Int) < 1) = true := decide_eq_true h1
    clear h1 hs
    go_enter Tryz.func136, Tryz.ntmps136
    go_upto_region 1 with fail
    obtain ⟨nr, hsz, hw0⟩ := one_new w (.cells #[.slice none 0 0, .bool false, .slice none 0 0, .bool false] 52)
    generalize w.alloc (.cells #[.slice none 0 0, .bool false, .slice none 0 0, .bool false] 52) = W0 at *
    have r0 : W0.cell? ⟨w.heap.size, 0, none⟩ = some (.slice none 0 0) := cells_of nr 0
    have fr0 := unfrozen_of nr 0
    have r1 : W0.cell? ⟨w.heap.size, 1, none⟩ = some (.bool false) := cells_of nr 1
    have fr1 := unfrozen_of nr 1
    have r2 : W0.cell? ⟨w.heap.size, 2, none⟩ = some (.slice none 0 0) := cells_of nr 2
    have fr2 := unfrozen_of nr 2
    have r3 : W0.cell? ⟨w.heap.size, 3, none⟩ = some (.bool false) := cells_of nr 3
    have fr3 := unfrozen_of nr 3
    have qr := lt_of_block nr
    clear nr hsz
    go_wp2_with fail
    exact bodyPost_ret (v := .tuple #[(Value.agg #[.slice none 0 0, .bool false, .slice none 0 0, .bool false]), .bool false]) (by simp [results, Tryz.results136, go_sem, r0, r1, r2, r3, qr]) rfl
      (.inr ⟨HN.out, rfl, hw0.grown (set4_grown _ _ _ _ _ _) hw0.size (fun k hk => by injection hk with hk; omega)⟩)
  · have d1 : decide ((s.size : Int) < 1) = false := decide_eq_false h1
    by_cases h2 : 20 < (s.size : Int)
    · have HN := Lib.hid (bnot (fun h => by have := (num_facts h).2.1; rw [sizeB] at this; omega) : Wd.numOk s.data.toList = false)
      have d2 : decide (20 < (s.size : Int)) = true := decide_eq_true h2
      clear h1 h2 hs
      go_enter Tryz.func136, Tryz.ntmps136
      go_upto_region 1 with fail
      obtain ⟨nr, hsz, hw0⟩ := one_new w (.cells #[.slice none 0 0, .bool false, .slice none 0 0, .bool false] 52)
      generalize w.alloc (.cells #[.slice none 0 0, .bool false, .slice none 0 0, .bool false] 52) = W0 at *
      have r0 : W0.cell? ⟨w.heap.size, 0, none⟩ = some (.slice none 0 0) := cells_of nr 0
      have fr0 := unfrozen_of nr 0
      have r1 : W0.cell? ⟨w.heap.size, 1, none⟩ = some (.bool false) := cells_of nr 1
      have fr1 := unfrozen_of nr 1
      have r2 : W0.cell? ⟨w.heap.size, 2, none⟩ = some (.slice none 0 0) := cells_of nr 2
      have fr2 := unfrozen_of nr 2
      have r3 : W0.cell? ⟨w.heap.size, 3, none⟩ = some (.bool false) := cells_of nr 3
      have fr3 := unfrozen_of nr 3
      have qr := lt_of_block nr
      clear nr hsz
      go_wp2_with fail
      exact bodyPost_ret (v := .tuple #[(Value.agg #[.slice none 0 0, .bool false, .slice none 0 0, .bool false]), .bool false]) (by simp [results, Tryz.results136, go_sem, r0, r1, r2, r3, qr]) rfl
        (.inr ⟨HN.out, rfl, hw0.grown (set4_grown _ _ _ _ _ _) hw0.size (fun k hk => by injection hk with hk; omega)⟩)
    · have d2 : decide (20 < (s.size : Int)) = false := decide_eq_false h2
      have h0 : 0 < s.size := by omega
      have hh : s.data.toList.head? = some s[0] := by
        have h1 : 0 < s.data.toList.length := by rw [sizeB]; exact h0
        rw [List.head?_eq_getElem?, List.getElem?_eq_getElem h1]; rfl
      have hhn : s.data.toList.head? = some 48 ↔ (s[0].toNat : Int) = 48 := by
        rw [hh]
        constructor
        · intro h; rw [Option.some.inj h]; rfl
        · intro h; rw [show s[0] = 48 from UInt8.toNat_inj.1 (by show s[0].toNat = 48; omega)]
      have HD := hide (fun W => tdigits_any s W hs)
      by_cases h3 : (s[0].toNat : Int) = 48
      · have d3 : ((s[0].toNat : Int) == 48) = true := by rw [h3]; rfl
        by_cases h4 : 1 < (s.size : Int)
        · have HN := Lib.hid (bnot (fun h => (num_facts h).2.2 ⟨hhn.2 h3, by rw [sizeB]; omega⟩) : Wd.numOk s.data.toList = false)
          have d4 : decide (1 < (s.size : Int)) = true := decide_eq_true h4
          clear h1 h2 h3 h4 hs hh hhn HD
          go_enter Tryz.func136, Tryz.ntmps136
          go_upto_region 1 with fail
          obtain ⟨nr, hsz, hw0⟩ := one_new w (.cells #[.slice none 0 0, .bool false, .slice none 0 0, .bool false] 52)
          generalize w.alloc (.cells #[.slice none 0 0, .bool false, .slice none 0 0, .bool false] 52) = W0 at *
          have r0 : W0.cell? ⟨w.heap.size, 0, none⟩ = some (.slice none 0 0) := cells_of nr 0
          have fr0 := unfrozen_of nr 0
          have r1 : W0.cell? ⟨w.heap.size, 1, none⟩ = some (.bool false) := cells_of nr 1
          have fr1 := unfrozen_of nr 1
          have r2 : W0.cell? ⟨w.heap.size, 2, none⟩ = some (.slice none 0 0) := cells_of nr 2
          have fr2 := unfrozen_of nr 2
          have r3 : W0.cell? ⟨w.heap.size, 3, none⟩ = some (.bool false) := cells_of nr 3
          have fr3 := unfrozen_of nr 3
          have qr := lt_of_block nr
          clear nr hsz
          go_wp2_with fail
          exact bodyPost_ret (v := .tuple #[(Value.agg #[.slice none 0 0, .bool false, .slice none 0 0, .bool false]), .bool false]) (by simp [results, Tryz.results136, go_sem, r0, r1, r2, r3, qr]) rfl
            (.inr ⟨HN.out, rfl, hw0.grown (set4_grown _ _ _ _ _ _) hw0.size (fun k hk => by injection hk with hk; omega)⟩)
        · have d4 : decide (1 < (s.size : Int)) = false := decide_eq_false h4
          have HYES := hide (fun (hall : s.data.toList.all Wd.isDg = true) => num_of hall (by rw [sizeB]; omega) (by rw [sizeB]; omega) (fun h => by have := h.2; rw [sizeB] at this; omega))
          have HNO := hide (fun (hall : s.data.toList.all Wd.isDg = false) => (bnot (fun h => by rw [Wd.numOk_dig h] at hall; cases hall) : Wd.numOk s.data.toList = false))
          clear h1 h2 h3 h4 hs hh hhn
          go_enter Tryz.func136, Tryz.ntmps136
          go_upto_region 1 with fail
          obtain ⟨nr, hsz, hw0⟩ := one_new w (.cells #[.slice none 0 0, .bool false, .slice none 0 0, .bool false] 52)
          generalize w.alloc (.cells #[.slice none 0 0, .bool false, .slice none 0 0, .bool false] 52) = W0 at *
          have NR := hide nr
          clear nr hsz
          go_wp2_with fail
          refine ((unhide HD) _).mono ?_
          rintro e W1 hdr
          rcases hdr with ⟨hall, A1, c1, l1, m1, A2, c2, l2, m2, rfl, f1, hb⟩ | ⟨hall, rfl, hb⟩
          · have HN := Lib.hid ((unhide HYES) hall)
            have hw1 := below_step' hw0 hb
            have jr := (hb.block _ (lt_of_block (unhide NR))).trans (unhide NR)
            have HBLK := Lib.hid jr
            have F1 := hide f1
            have r0 : W1.cell? ⟨w.heap.size, 0, none⟩ = some (.slice none 0 0) := cells_of jr 0
            have fr0 := unfrozen_of jr 0
            have r1 : W1.cell? ⟨w.heap.size, 1, none⟩ = some (.bool false) := cells_of jr 1
            have fr1 := unfrozen_of jr 1
            have r2 : W1.cell? ⟨w.heap.size, 2, none⟩ = some (.slice none 0 0) := cells_of jr 2
            have fr2 := unfrozen_of jr 2
            have r3 : W1.cell? ⟨w.heap.size, 3, none⟩ = some (.bool false) := cells_of jr 3
            have fr3 := unfrozen_of jr 3
            have qr := lt_of_block jr
            have hlen : decide (0 < s.data.toList.length) = true := decide_eq_true (by rw [sizeB]; omega)
            rw [hlen]
            clear hall jr hb f1 hlen HYES HNO HD
            go_wp2_with fail
            exact bodyPost_ret (v := .tuple #[(Value.agg #[.slice A1 l1.length c1, .bool m1, .slice A2 l2.length c2, .bool m2]), .bool true]) (by simp [results, Tryz.results136, go_sem, r0, r1, r2, r3, qr]) rfl
              (.inl ⟨HN.out, A1, c1, l1, m1, A2, c2, l2, m2, rfl, (unhide F1).upto HBLK.out (noW2_4 _ _ _ _ _ _ _ _) (set4_grown _ _ _ _ _ _), hw1.grown (set4_grown _ _ _ _ _ _) hw1.size (fun k hk => by injection hk with hk; omega)⟩)
          · have HN := Lib.hid ((unhide HNO) hall)
            have hw1 := below_step' hw0 hb
            have jr := (hb.block _ (lt_of_block (unhide NR))).trans (unhide NR)
            have r0 : W1.cell? ⟨w.heap.size, 0, none⟩ = some (.slice none 0 0) := cells_of jr 0
            have fr0 := unfrozen_of jr 0
            have r1 : W1.cell? ⟨w.heap.size, 1, none⟩ = some (.bool false) := cells_of jr 1
            have fr1 := unfrozen_of jr 1
            have r2 : W1.cell? ⟨w.heap.size, 2, none⟩ = some (.slice none 0 0) := cells_of jr 2
            have fr2 := unfrozen_of jr 2
            have r3 : W1.cell? ⟨w.heap.size, 3, none⟩ = some (.bool false) := cells_of jr 3
            have fr3 := unfrozen_of jr 3
            have qr := lt_of_block jr
            clear hall jr hb HYES HNO HD
            go_wp2_with fail
            exact bodyPost_ret (v := .tuple #[(Value.agg #[.slice none 0 0, .bool false, .slice none 0 0, .bool false]), .bool false]) (by simp [results, Tryz.results136, go_sem, r0, r1, r2, r3, qr]) rfl
              (.inr ⟨HN.out, rfl, hw1.grown (set4_grown _ _ _ _ _ _) hw1.size (fun k hk => by injection hk with hk; omega)⟩)
      · have d3 : ((s[0].toNat : Int) == 48) = false := beq_eq_false_iff_ne.2 h3
        have HYES := hide (fun (hall : s.data.toList.all Wd.isDg = true) => num_of hall (by rw [sizeB]; omega) (by rw [sizeB]; omega) (fun h => h3 (hhn.1 h.1)))
        have HNO := hide (fun (hall : s.data.toList.all Wd.isDg = false) => (bnot (fun h => by rw [Wd.numOk_dig h] at hall; cases hall) : Wd.numOk s.data.toList = false))
        clear h1 h2 hs hh hhn h3
        go_enter Tryz.func136, Tryz.ntmps136
        go_upto_region 1 with fail
        obtain ⟨nr, hsz, hw0⟩ := one_new w (.cells #[.slice none 0 0, .bool false, .slice none 0 0, .bool false] 52)
        generalize w.alloc (.cells #[.slice none 0 0, .bool false, .slice none 0 0, .bool false] 52) = W0 at *
        have NR := hide nr
        clear nr hsz
        go_wp2_with fail
        refine ((unhide HD) _).mono ?_
        rintro e W1 hdr
        rcases hdr with ⟨hall, A1, c1, l1, m1, A2, c2, l2, m2, rfl, f1, hb⟩ | ⟨hall, rfl, hb⟩
        · have HN := Lib.hid ((unhide HYES) hall)
          have hw1 := below_step' hw0 hb
          have jr := (hb.block _ (lt_of_block (unhide NR))).trans (unhide NR)
          have HBLK := Lib.hid jr
          have F1 := hide f1
          have r0 : W1.cell? ⟨w.heap.size, 0, none⟩ = some (.slice none 0 0) := cells_of jr 0
          have fr0 := unfrozen_of jr 0
          have r1 : W1.cell? ⟨w.heap.size, 1, none⟩ = some (.bool false) := cells_of jr 1
          have fr1 := unfrozen_of jr 1
          have r2 : W1.cell? ⟨w.heap.size, 2, none⟩ = some (.slice none 0 0) := cells_of jr 2
          have fr2 := unfrozen_of jr 2
          have r3 : W1.cell? ⟨w.heap.size, 3, none⟩ = some (.bool false) := cells_of jr 3
          have fr3 := unfrozen_of jr 3
          have qr := lt_of_block jr
          have hlen : decide (0 < s.data.toList.length) = true := decide_eq_true (by rw [sizeB]; omega)
          rw [hlen]
          clear hall jr hb f1 hlen HYES HNO HD
          go_wp2_with fail
          exact bodyPost_ret (v := .tuple #[(Value.agg #[.slice A1 l1.length c1, .bool m1, .slice A2 l2.length c2, .bool m2]), .bool true]) (by simp [results, Tryz.results136, go_sem, r0, r1, r2, r3, qr]) rfl
            (.inl ⟨HN.out, A1, c1, l1, m1, A2, c2, l2, m2, rfl, (unhide F1).upto HBLK.out (noW2_4 _ _ _ _ _ _ _ _) (set4_grown _ _ _ _ _ _), hw1.grown (set4_grown _ _ _ _ _ _) hw1.size (fun k hk => by injection hk with hk; omega)⟩)
        · have HN := Lib.hid ((unhide HNO) hall)
          have hw1 := below_step' hw0 hb
          have jr := (hb.block _ (lt_of_block (unhide NR))).trans (unhide NR)
          have r0 : W1.cell? ⟨w.heap.size, 0, none⟩ = some (.slice none 0 0) := cells_of jr 0
          have fr0 := unfrozen_of jr 0
          have r1 : W1.cell? ⟨w.heap.size, 1, none⟩ = some (.bool false) := cells_of jr 1
          have fr1 := unfrozen_of jr 1
          have r2 : W1.cell? ⟨w.heap.size, 2, none⟩ = some (.slice none 0 0) := cells_of jr 2
          have fr2 := unfrozen_of jr 2
          have r3 : W1.cell? ⟨w.heap.size, 3, none⟩ = some (.bool false) := cells_of jr 3
          have fr3 := unfrozen_of jr 3
          have qr := lt_of_block jr
          clear hall jr hb HYES HNO HD
          go_wp2_with fail
          exact bodyPost_ret (v := .tuple #[(Value.agg #[.slice none 0 0, .bool false, .slice none 0 0, .bool false]), .bool false]) (by simp [results, Tryz.results136, go_sem, r0, r1, r2, r3, qr]) rfl
            (.inr ⟨HN.out, rfl, hw1.grown (set4_grown _ _ _ _ _ _) hw1.size (fun k hk => by injection hk with hk; omega)⟩)

end Go.Proofs.YtpjgoogeokbaaaaGreatDoor
/- Powers: the reference. -/
namespace Go.Proofs.YtpjgoogeokbaaaaGreatDoor
open Go.RowKit

namespace Wd
/-- A power of a number. -/
def qpow (x : Rat) : Nat → Rat
  | 0 => Rat.divInt 1 1
  | n + 1 => qpow x n * x
theorem qpow_ten (n : Nat) : qpow (Rat.divInt 10 1) n = Rat.divInt ((10 ^ n : Nat) : Int) 1 := by
  induction n with
  | zero => rfl
  | succ n ih =>
    rw [qpow, ih, Rat.divInt_mul_divInt, Int.one_mul, Nat.pow_succ, Int.natCast_mul]; rfl
theorem szq_div {B K : Nat} {n d : Int} (hd : d ≠ 0) (hn : Sz B K n) (hdd : Sz B K d) : SzQ B K (Rat.divInt n d) := by
  obtain ⟨h1, h2⟩ := divInt_parts n d hd
  exact ⟨by rw [h1]; exact hn.tdiv _, by rw [h2]; exact hdd.tdiv _⟩
theorem SzQ.mono' {B K L : Nat} {x : Rat} (hB : 1 < B) (h : SzQ B K x) (hk : K ≤ L) : SzQ B L x := ⟨h.1.mono hB hk, h.2.mono hB hk⟩
theorem szq_pow {K : Nat} {x : Rat} (h : SzQ B32 K x) : ∀ n : Nat, SzQ B32 (K * n + 1) (qpow x n)
  | 0 => by
    have h1 : Sz B32 1 1 := by unfold Sz; rw [Nat.pow_one, B32_eq]; decide
    rw [Nat.mul_zero, Nat.zero_add]
    exact szq_div (by omega) h1 h1
  | n + 1 => by
    have ih := szq_pow h n
    rw [qpow, mul_q, Nat.mul_succ, Nat.add_right_comm]
    have d1 := (qpow x n).den_nz; have d2 := x.den_nz
    exact szq_div (Int.mul_ne_zero (by omega) (by omega)) (ih.1.mul h.1) (ih.2.mul h.2)
end Wd

set_option maxRecDepth 100000 in
set_option maxHeartbeats 16000000 in
theorem tpow_any (A1 : Option Addr) (c1 : Nat) (l1 : List Nat) (m1 : Bool) (A2 : Option Addr) (c2 : Nat) (l2 : List Nat) (m2 : Bool) (x : Rat) (n K : Nat) (w : World) (h1 : QV w A1 c1 l1 m1 A2 c2 l2 m2 (x)) (sx : Wd.SzQ B32 K x) (hK : 4 * (K * n + 1 + K) + 4 ≤ 35184372088832) (hn : n ≤ 9223372036854775806) :
    Calls Tryz.prog 54 #[(Value.agg #[.slice A1 l1.length c1, .bool m1, .slice A2 l2.length c2, .bool m2]), .int .i64 n] w fun e w' => QVR w (Wd.qpow x n) e w' := by
  have HX := hide h1; have HSZ := hide sx; have HK := hide hK
  have HO := hide (fun W => tint_any 1 W (by omega) (by omega))
  have d0 : decide ((n : Int) < 0) = false := decide_eq_false (by omega)
  clear h1 sx hK
  go_enter Tryz.func54, Tryz.ntmps54
  go_upto_region 1 with fail
  obtain ⟨nx, nr, hsz, hw0⟩ := two_new w (.cells #[.slice A1 l1.length c1, .bool m1, .slice A2 l2.length c2, .bool m2] 52) (.cells #[.slice none 0 0, .bool false, .slice none 0 0, .bool false] 52)
  generalize ((w.alloc (.cells #[.slice A1 l1.length c1, .bool m1, .slice A2 l2.length c2, .bool m2] 52)).alloc (.cells #[.slice none 0 0, .bool false, .slice none 0 0, .bool false] 52)) = W0 at *
  have hq := lt_of_block nr
  clear hsz
  go_wp2_with fail
  refine ((unhide HO) _).mono ?_
  rintro e W1 ⟨A5, c5, l5, m5, A6, c6, l6, m6, rfl, g1, g2, hb⟩
  replace nx := (hb.block _ (lt_of_block nx)).trans nx
  replace nr := (hb.block _ (lt_of_block nr)).trans nr
  replace hq := Nat.lt_of_lt_of_le hq hb.size
  replace hw0 := below_step' hw0 hb
  clear hb
  go_upto_region 4 with fail
  have hbx := BoxQ.new (QV.of g1 g2) rfl
  have hb := below_alloc (Below.refl W1.heap.size W1) (.cells #[.slice A5 l5.length c5, .bool m5, .slice A6 l6.length c6, .bool m6] 52)
  clear g1 g2
  obtain ⟨bx, hbxe⟩ : ∃ b, b = W1.heap.size := ⟨_, rfl⟩
  rw [← hbxe] at hbx ⊢
  have hbB : w.heap.size + 1 < bx := by rw [hbxe]; exact hq
  generalize W1.alloc (.cells #[.slice A5 l5.length c5, .bool m5, .slice A6 l6.length c6, .bool m6] 52) = W2 at *
  replace nx := (hb.block _ (lt_of_block nx)).trans nx
  replace nr := (hb.block _ (lt_of_block nr)).trans nr
  replace hq := Nat.lt_of_lt_of_le hq hb.size
  replace hw0 := below_step' hw0 hb
  clear hb hbxe
  have HW0 := hide hw0; have NX := hide nx; have NR := hide nr; have HQ := hide hq
  clear hw0 nx nr hq
  go_wp2_with fail
  go_loopw [6] (fun iv wr => ∃ k : Nat, k ≤ n ∧ iv = .int .i64 (k : Int) ∧ BoxQ wr bx (Wd.qpow x k) ∧ Hid (Below (w.heap.size + 2) W2 wr)) (fun iv _ => n - (intOf iv).toNat)
  case atStart => exact ⟨0, Nat.zero_le _, by first | rfl | go_num, by first | exact hbx | exact hbx.below (Below.refl _ _).drew, by first | exact hide (Below.refl _ _) | exact hide (Below.refl _ _).drew⟩
  case round =>
    obtain ⟨k, hk, rfl, hbq, hgr⟩ := hrel
    have hwr : Below w.heap.size w wr := (unhide HW0).trans ((unhide hgr).mono (by omega))
    have hq0 := unhide HQ
    have hgs := (unhide hgr).size
    by_cases hlt : k < n
    · have hs1 := Wd.szq_pow (unhide HSZ) k
      have hm1 : K * k + 1 ≤ K * n + 1 + K := by have := Nat.mul_le_mul_left K (show k ≤ n by omega); omega
      have zs1 := hs1.mono' B32_pos hm1
      have zs2 := (unhide HSZ).mono' B32_pos (show K ≤ K * n + 1 + K by omega)
      obtain ⟨y, hy⟩ : ∃ y, y = Wd.qpow x k := ⟨_, rfl⟩
      have hnext : Wd.qpow x (k + 1) = y * x := by rw [hy]; rfl
      have HNX := Lib.hid hnext
      rw [← hy] at hbq zs1
      have hk4 := unhide HK
      have HM : Hid (∀ (A3 : Option Addr) (c3 : Nat) (l3 : List Nat) (m3 : Bool) (A4 : Option Addr) (c4 : Nat) (l4 : List Nat) (m4 : Bool) (A1 : Option Addr) (c1 : Nat) (l1 : List Nat) (m1 : Bool) (A2 : Option Addr) (c2 : Nat) (l2 : List Nat) (m2 : Bool) W, QV W A3 c3 l3 m3 A4 c4 l4 m4 (y) → QV W A1 c1 l1 m1 A2 c2 l2 m2 (x) → Calls Tryz.prog 45 #[(Value.agg #[.slice A3 l3.length c3, .bool m3, .slice A4 l4.length c4, .bool m4]), (Value.agg #[.slice A1 l1.length c1, .bool m1, .slice A2 l2.length c2, .bool m2])] W fun e w' => QR W (y * x) e w') := fun A3 c3 l3 m3 A4 c4 l4 m4 A1 c1 l1 m1 A2 c2 l2 m2 W g3 g1 => tqmul_any (K * n + 1 + K) A3 c3 l3 m3 A4 c4 l4 m4 A1 c1 l1 m1 A2 c2 l2 m2 y x W g3 g1 zs1 zs2 hk4
      obtain ⟨A3, c3, l3, m3, A4, c4, l4, m4, j1, f1⟩ := hbq
      have jx := ((unhide hgr).block w.heap.size (by omega)).trans (unhide NX)
      have kx_0 : wr.cell? ⟨bx, 0, none⟩ = some (.slice A3 l3.length c3) := cells_of j1 0
      have ux_0 := unfrozen_of j1 0
      have kx_1 : wr.cell? ⟨bx, 1, none⟩ = some (.bool m3) := cells_of j1 1
      have ux_1 := unfrozen_of j1 1
      have kx_2 : wr.cell? ⟨bx, 2, none⟩ = some (.slice A4 l4.length c4) := cells_of j1 2
      have ux_2 := unfrozen_of j1 2
      have kx_3 : wr.cell? ⟨bx, 3, none⟩ = some (.bool m4) := cells_of j1 3
      have ux_3 := unfrozen_of j1 3
      have qx := lt_of_block j1
      have kw_0 : wr.cell? ⟨w.heap.size, 0, none⟩ = some (.slice A1 l1.length c1) := cells_of jx 0
      have kw_1 : wr.cell? ⟨w.heap.size, 1, none⟩ = some (.bool m1) := cells_of jx 1
      have kw_2 : wr.cell? ⟨w.heap.size, 2, none⟩ = some (.slice A2 l2.length c2) := cells_of jx 2
      have kw_3 : wr.cell? ⟨w.heap.size, 3, none⟩ = some (.bool m2) := cells_of jx 3
      have HXW := hide ((unhide HX).below hwr)
      have d1 : decide ((k : Int) < (n : Int)) = true := decide_eq_true (by omega)
      have d2 : decide (k < n) = true := decide_eq_true hlt
      have J1 := hide j1; have F1 := hide f1
      clear hs1 hm1 zs1 zs2 hy hnext hk4 j1 f1 jx
      go_wp2_with fail
      refine ((unhide HM) A3 c3 l3 m3 A4 c4 l4 m4 A1 c1 l1 m1 A2 c2 l2 m2 _ (unhide F1) (unhide HXW)).mono ?_
      rintro e w' ⟨A7, c7, l7, m7, A8, c8, l8, m8, rfl, g7, g8, hb⟩
      have hst := boxq_st (boxq_below ⟨_, _, _, _, _, _, _, _, unhide J1, unhide F1⟩ hb) (QV.of g7 g8) ((unhide hgr).trans (hb.mono (by omega))) (by omega) (by have := hb.size; omega)
      obtain ⟨hc, hfz⟩ := bcell hb
      replace kx_0 := (hc _ _ qx).trans kx_0
      replace ux_0 := (hfz _ _ qx).trans ux_0
      replace kx_1 := (hc _ _ qx).trans kx_1
      replace ux_1 := (hfz _ _ qx).trans ux_1
      replace kx_2 := (hc _ _ qx).trans kx_2
      replace ux_2 := (hfz _ _ qx).trans ux_2
      replace kx_3 := (hc _ _ qx).trans kx_3
      replace ux_3 := (hfz _ _ qx).trans ux_3
      clear g7 g8 hb hc hfz HM
      go_wp2_with fail
      go_roundw
      case rel => exact ⟨k + 1, by omega, by first | rfl | go_num, HNX.out ▸ hst.1, hide hst.2⟩
      case measure => simp [intOf] <;> omega
    · obtain rfl : k = n := by omega
      obtain ⟨A3, c3, l3, m3, A4, c4, l4, m4, j1, f1⟩ := hbq
      have jr := ((unhide hgr).block (w.heap.size + 1) (by omega)).trans (unhide NR)
      have kx_0 : wr.cell? ⟨bx, 0, none⟩ = some (.slice A3 l3.length c3) := cells_of j1 0
      have ux_0 := unfrozen_of j1 0
      have kx_1 : wr.cell? ⟨bx, 1, none⟩ = some (.bool m3) := cells_of j1 1
      have ux_1 := unfrozen_of j1 1
      have kx_2 : wr.cell? ⟨bx, 2, none⟩ = some (.slice A4 l4.length c4) := cells_of j1 2
      have ux_2 := unfrozen_of j1 2
      have kx_3 : wr.cell? ⟨bx, 3, none⟩ = some (.bool m4) := cells_of j1 3
      have ux_3 := unfrozen_of j1 3
      have qx := lt_of_block j1
      have r0 : wr.cell? ⟨w.heap.size + 1, 0, none⟩ = some (.slice none 0 0) := cells_of jr 0
      have fr0 := unfrozen_of jr 0
      have r1 : wr.cell? ⟨w.heap.size + 1, 1, none⟩ = some (.bool false) := cells_of jr 1
      have fr1 := unfrozen_of jr 1
      have r2 : wr.cell? ⟨w.heap.size + 1, 2, none⟩ = some (.slice none 0 0) := cells_of jr 2
      have fr2 := unfrozen_of jr 2
      have r3 : wr.cell? ⟨w.heap.size + 1, 3, none⟩ = some (.bool false) := cells_of jr 3
      have fr3 := unfrozen_of jr 3
      have HBLK := Lib.hid jr
      have qr := lt_of_block jr
      have F1 := hide f1
      have d1 : decide ((k : Int) < (k : Int)) = false := decide_eq_false (by omega)
      have d2 : decide (k < k) = false := decide_eq_false (by omega)
      clear j1 f1 jr hlt hk
      go_wp2_with fail
      exact bodyPost_ret (v := (Value.agg #[.slice A3 l3.length c3, .bool m3, .slice A4 l4.length c4, .bool m4])) (by simp [results, Tryz.results54, go_sem, r0, r1, r2, r3, qr]) rfl
        ⟨A3, c3, l3, m3, A4, c4, l4, m4, rfl, (unhide F1).upto HBLK.out (noW2_4 _ _ _ _ _ _ _ _) (set4_grown _ _ _ _ _ _), hwr.grown (set4_grown _ _ _ _ _ _) hwr.size (fun k hk => by injection hk with hk; omega)⟩

end Go.Proofs.YtpjgoogeokbaaaaGreatDoor
/- The program: quotients in memory, an int as a quotient. -/
namespace Go.Proofs.YtpjgoogeokbaaaaGreatDoor
open Go.RowKit

/-- A quotient of the program in memory. -/
structure IQ (w : World) (s1a : Int) (neg1a : Bool) (A1a : Option Addr) (c1a : Nat) (l1a : List Nat) (s1b : Int) (neg1b : Bool) (A1b : Option Addr) (c1b : Nat) (l1b : List Nat) (q : Rat) : Prop where
  n : IntF w s1a neg1a A1a c1a l1a q.num
  d : IntF w s1b neg1b A1b c1b l1b (q.den : Int)
theorem IQ.below {w w' : World} {s1a : Int} {neg1a : Bool} {A1a : Option Addr} {c1a : Nat} {l1a : List Nat} {s1b : Int} {neg1b : Bool} {A1b : Option Addr} {c1b : Nat} {l1b : List Nat} {q : Rat} (h : IQ w s1a neg1a A1a c1a l1a s1b neg1b A1b c1b l1b q) (hb : Below w.heap.size w w') : IQ w' s1a neg1a A1a c1a l1a s1b neg1b A1b c1b l1b q := ⟨h.n.below hb, h.d.below hb⟩
theorem set6_block {W : World} {b : Nat} {a0 a1 a2 a3 a4 a5 u0 u1 u2 u3 u4 u5 : Value} {T : TypeId} (h : W.heap[b]? = some (.cells #[a0, a1, a2, a3, a4, a5] T (0, 0))) : ((((((W.setCell ⟨b, 0, none⟩ u0).setCell ⟨b, 1, none⟩ u1).setCell ⟨b, 2, none⟩ u2).setCell ⟨b, 3, none⟩ u3).setCell ⟨b, 4, none⟩ u4).setCell ⟨b, 5, none⟩ u5).heap[b]? = some (.cells #[u0, u1, u2, u3, u4, u5] T (0, 0)) := by
  simp [World.setCell, Array.getElem?_modify, h]
end Go.Proofs.YtpjgoogeokbaaaaGreatDoor
