/- Part 8 of the texts beneath a law of layer 1: RatM, Known, TxD, TxC, TxI, TxW, TxM, TxQ, Simp, Cf, Join, JnW. -/
import Derived.Test.YtadclbankpmebaaDoorCg7
import Derived.Lib.Strings
import Derived.Lib.IndexLaws
import Derived.Lib.CutLaws
import Derived.Laws.Concat
/- The number of two ints. -/
namespace Go.Proofs.YtadclbankpmebaaDoor
open Go.RowKit

/-- What Make tells. -/
def mkE (n d : Int) : Wd.Told := if d = 0 then ⟨0, 0, 1⟩ else Wd.told (Rat.divInt n d)
set_option maxRecDepth 100000 in
set_option maxHeartbeats 16000000 in
theorem make_zero (n : Int) (w : World) : Calls Tryd.prog 7 #[.int .i64 n, .int .i64 0] w fun e w' => TolR w ⟨0, 0, 1⟩ e w' := by
  go_enter Tryd.func7, Tryd.ntmps7
  go_wp2
  exact bodyPost_ret (v := .tuple #[.agg #[.int .i64 0, .int .i64 0], .int .i64 1]) (by simp [results, Tryd.results7, go_sem]) rfl
    ⟨rfl, (Below.refl _ _).alloc (Nat.le_refl _) _⟩
set_option maxRecDepth 100000 in
set_option maxHeartbeats 16000000 in
theorem make_any (n d : Int) (w : World) (hT : Tab w) (b1 : -9223372036854775808 ≤ n) (b2 : n ≤ 9223372036854775807) (b3 : -9223372036854775808 ≤ d) (b4 : d ≤ 9223372036854775807) :
    Calls Tryd.prog 7 #[.int .i64 n, .int .i64 d] w fun e w' => TolR w (mkE n d) e w' := by
  unfold mkE
  by_cases h0 : d = 0
  · subst h0; rw [if_pos rfl]; exact make_zero n w
  rw [if_neg h0]
  obtain ⟨q, hq⟩ : ∃ q, q = Rat.divInt n d := ⟨_, rfl⟩
  have B : (9223372036854775808 : Nat) < B64 := by rw [B64_eq]; omega
  have HN := hide (fun (s5 : Int) (neg5 : Bool) (A5 : Option Addr) (c5 : Nat) (l5 : List Nat) (s6 : Int) (neg6 : Bool) (A6 : Option Addr) (c6 : Nat) (l6 : List Nat) (W : World) (hW : Tab W) (f5 : IntF W s5 neg5 A5 c5 l5 n) (f6 : IntF W s6 neg6 A6 c6 l6 d) => newr_any (K := 1) s5 neg5 A5 c5 l5 s6 neg6 A6 c6 l6 n d W hW f5 f6 h0 (Wd.Sz.of_le (by omega) B64_pos (Nat.le_refl _)) (Wd.Sz.of_le (by omega) B64_pos (Nat.le_refl _)) (by unfold lim; omega))
  rw [← hq] at HN ⊢
  have HO1 := hide (fun W => newInt_any n b1 b2 W)
  have HO2 := hide (fun W => newInt_any d b3 b4 W)
  have hz : (d == 0) = false := beq_eq_false_iff_ne.2 h0
  have HT := hide hT
  have HRT := hide (fun (s9 : Int) (neg9 : Bool) (A9 : Option Addr) (c9 : Nat) (l9 : List Nat) (s10 : Int) (neg10 : Bool) (A10 : Option Addr) (c10 : Nat) (l10 : List Nat) (W : World) (f9 : IntF W s9 neg9 A9 c9 l9 q.num) (f10 : IntF W s10 neg10 A10 c10 l10 (q.den : Int)) => rrat_any s9 neg9 A9 c9 l9 q.num s10 neg10 A10 c10 l10 (q.den : Int) W f9 f10 q rfl rfl)
  obtain ⟨tn, htn⟩ : ∃ x, x = (Wd.told q).n := ⟨_, rfl⟩
  obtain ⟨td, htd⟩ : ∃ x, x = (Wd.told q).d := ⟨_, rfl⟩
  obtain ⟨te, hte⟩ : ∃ x, x = (Wd.told q).e := ⟨_, rfl⟩
  rw [← htn, ← htd, ← hte] at HRT
  have HTL := Lib.hid (show Wd.told q = ⟨tn, td, te⟩ by rw [htn, htd, hte])
  clear htn htd hte
  clear hT h0 b1 b2 b3 b4 hq
  go_enter Tryd.func7, Tryd.ntmps7
  go_wp2_with fail
  have nr := heap_alloc_new w (.cells #[.int .i64 0, .int .i64 0] 23)
  have hw0 : Below w.heap.size w (w.alloc (.cells #[.int .i64 0, .int .i64 0] 23)) := below_alloc (Below.refl _ _) _
  generalize w.alloc (.cells #[.int .i64 0, .int .i64 0] 23) = W0 at *
  have NR := Lib.hid nr
  clear nr
  refine ((unhide HO1) _).mono ?_
  rintro e W1 ⟨s5, neg5, A5, c5, l5, rfl, hf5, hb5⟩
  go_wp2_with fail
  refine ((unhide HO2) _).mono ?_
  rintro e W2 ⟨s6, neg6, A6, c6, l6, rfl, hf6, hb6⟩
  have hB := below_step' hb5 hb6
  go_wp2_with fail
  refine ((unhide HN) s5 neg5 A5 c5 l5 s6 neg6 A6 c6 l6 _ ((unhide HT).below (below_step' hw0 hB)) (hf5.below hb6) hf6).mono ?_
  rintro e W3 ⟨s9, neg9, A9, c9, l9, s10, neg10, A10, c10, l10, rfl, hf9, hf10, hb9⟩
  replace hB := below_step' hB hb9
  go_wp2_with fail
  refine ((unhide HRT) s9 neg9 A9 c9 l9 s10 neg10 A10 c10 l10 _ hf9 hf10).mono ?_
  rintro e W4 ⟨rfl, hb10⟩
  replace hB := below_step' hB hb10
  have nr4 := (hB.block _ (lt_of_block NR.out)).trans NR.out
  have k0 : W4.cell? ⟨w.heap.size, 0, none⟩ = some (.int .i64 0) := cells_of nr4 0
  have k1 : W4.cell? ⟨w.heap.size, 1, none⟩ = some (.int .i64 0) := cells_of nr4 1
  have u0 := unfrozen_of nr4 0
  have u1 := unfrozen_of nr4 1
  have hbn : Below w.heap.size w W4 := below_step' hw0 hB
  clear nr4
  go_wp2_with fail
  exact bodyPost_ret (v := .tuple #[.agg #[.int .i64 tn, .int .i64 td], .int .i64 te]) (by simp [results, Tryd.results7, go_sem, k0, k1]) rfl
    ⟨HTL.out ▸ rfl, hbn.grown (set2_grown _ _ _ _) hbn.size (fun k hk => by injection hk with hk; omega)⟩

end Go.Proofs.YtadclbankpmebaaDoor
/- The document's examples. -/
namespace Go.Proofs.YtadclbankpmebaaDoor
open Go.RowKit

theorem told_ext {t : Wd.Told} {a b c : Int} (h : t.n = a ∧ t.d = b ∧ t.e = c) : t = ⟨a, b, c⟩ := by
  cases t
  obtain ⟨rfl, rfl, rfl⟩ := h
  rfl
set_option maxRecDepth 100000 in
set_option maxHeartbeats 16000000 in
theorem known_any (w : World) (hT : Tab w) : Calls Tryd.prog 13 #[] w fun e w' => e = .returned (.bool true) ∧ Below w.heap.size w w' := by
  have HM := hide (fun W (hW : Tab W) => make_any (-6) 4 W hW (by omega) (by omega) (by omega) (by omega))
  rw [told_ext (t := mkE (-6) 4) (a := -3) (b := 2) (c := 0) (by decide +kernel)] at HM
  have HF := hide (floor_any (-3) 2)
  rw [show floorV (-3) 2 = -2 by decide, show valE (-3) 2 = 0 by decide] at HF
  have HN := hide near_known
  have HT := hide hT
  clear hT
  go_enter Tryd.func13, Tryd.ntmps13
  go_wp2_with fail
  refine ((unhide HM) _ (unhide HT)).mono ?_
  rintro e W1 ⟨rfl, hb1⟩
  go_wp2_with fail
  have nx := heap_alloc_new W1 (.cells #[.int .i64 (-3), .int .i64 2] 23)
  have hb2 := below_step' hb1 (below_alloc (Below.refl _ _) (.cells #[.int .i64 (-3), .int .i64 2] 23))
  generalize W1.alloc (.cells #[.int .i64 (-3), .int .i64 2] 23) = W2 at *
  obtain ⟨bx, hbx⟩ : ∃ b, b = W1.heap.size := ⟨_, rfl⟩
  rw [← hbx] at nx ⊢
  clear hb1 hbx
  refine ((unhide HF) _ ((unhide HT).below hb2)).mono ?_
  rintro e W3 ⟨rfl, hb⟩
  have nx3 := (hb.block _ (lt_of_block nx)).trans nx
  have hb3 := below_step' hb2 hb
  clear nx hb hb2
  go_wp2_with fail
  refine ((unhide HN) _ ((unhide HT).below hb3)).mono ?_
  rintro e W4 ⟨rfl, hb⟩
  have nx4 := (hb.block _ (lt_of_block nx3)).trans nx3
  have hb4 := below_step' hb3 hb
  have hlt := lt_of_block nx4
  have k0 : W4.cell? ⟨bx, 0, none⟩ = some (.int .i64 (-3)) := cells_of nx4 0
  have k1 : W4.cell? ⟨bx, 1, none⟩ = some (.int .i64 2) := cells_of nx4 1
  have hne : ¬ (bx = W4.heap.size) := by omega
  clear nx3 nx4 hb hb3
  go_wp2
  go_ret
  exact ⟨rfl, below_alloc hb4 _⟩

end Go.Proofs.YtadclbankpmebaaDoor
/- Digits and numerals of texts: what the program tells of them. -/
namespace Go.Proofs.YtadclbankpmebaaDoor
open Go.RowKit

namespace Wd
/-- A byte that is a digit; digits, from one to most of them; a numeral. -/
def isDg (c : UInt8) : Bool := decide (48 ≤ (c.toNat : Int)) && decide ((c.toNat : Int) ≤ 57)
def digsOk (l : List UInt8) (m : Int) : Bool := decide (1 ≤ (l.length : Int)) && decide ((l.length : Int) ≤ m) && l.all isDg
def numOk (l : List UInt8) : Bool := digsOk l 20 && (l == [48] || !(l.head? == some 48))
end Wd
theorem take_snocB (s : ByteArray) (k : Nat) (h : k < s.size) : s.data.toList.take (k + 1) = s.data.toList.take k ++ [s[k]] := by
  rw [List.take_succ_eq_append_getElem (by simpa using h)]; rfl
theorem sizeB (s : ByteArray) : s.data.toList.length = s.size := Array.length_toList
theorem all_fails (s : ByteArray) (k : Nat) (h : k < s.size) (hd : Wd.isDg s[k] = false) : s.data.toList.all Wd.isDg = false := by
  rw [List.all_eq_false]
  refine ⟨s[k], ?_, by rw [hd]; decide⟩
  have h1 : k < s.data.toList.length := by rw [sizeB]; exact h
  have h2 : s[k] = s.data.toList[k] := rfl
  rw [h2]
  exact List.getElem_mem h1
set_option maxRecDepth 100000 in
set_option maxHeartbeats 4000000 in
theorem isDigits_any (s : ByteArray) (m : Int) (w : World) (hs : s.size ≤ 9223372036854775807) :
    Calls Tryd.prog 95 #[.string s, .int .i64 m] w fun e w' => e = .returned (.bool (Wd.digsOk s.data.toList m)) ∧ w' = w := by
  unfold Wd.digsOk
  rw [sizeB]
  by_cases h1 : (s.size : Int) < 1
  · have e : (decide (1 ≤ (s.size : Int)) && decide ((s.size : Int) ≤ m) && s.data.toList.all Wd.isDg) = false := by rw [decide_eq_false (show ¬ 1 ≤ (s.size : Int) by omega)]; rfl
    rw [e]
    have d1 : decide ((s.size : Int) < 1) = true := decide_eq_true h1
    clear h1 hs e
    go_enter Tryd.func95, Tryd.ntmps95
    go_wp2
    go_ret
    exact ⟨rfl, rfl⟩
  · have d1 : decide ((s.size : Int) < 1) = false := decide_eq_false h1
    by_cases h2 : m < s.size
    · have e : (decide (1 ≤ (s.size : Int)) && decide ((s.size : Int) ≤ m) && s.data.toList.all Wd.isDg) = false := by rw [decide_eq_false (show ¬ (s.size : Int) ≤ m by omega), Bool.and_false]; rfl
      rw [e]
      have d2 : decide (m < (s.size : Int)) = true := decide_eq_true h2
      clear h1 h2 hs e
      go_enter Tryd.func95, Tryd.ntmps95
      go_wp2
      go_ret
      exact ⟨rfl, rfl⟩
    · have d2 : decide (m < (s.size : Int)) = false := decide_eq_false h2
      have e : (decide (1 ≤ (s.size : Int)) && decide ((s.size : Int) ≤ m)) = true := by rw [decide_eq_true (show 1 ≤ (s.size : Int) by omega), decide_eq_true (show (s.size : Int) ≤ m by omega)]; rfl
      rw [e, Bool.true_and]
      obtain ⟨r, hr⟩ : ∃ r, r = s.data.toList.all Wd.isDg := ⟨_, rfl⟩
      rw [← hr]
      have HR := Lib.hid hr
      clear h1 h2 e hr
      go_enter Tryd.func95, Tryd.ntmps95
      go_wp2
      go_loop [17] (fun i => ∃ k : Nat, k ≤ s.size ∧ i = .int .i64 k ∧ (s.data.toList.take k).all Wd.isDg = true) (fun i => s.size - (intOf i).toNat)
      case atStart => exact ⟨0, Nat.zero_le _, rfl, rfl⟩
      case round =>
        obtain ⟨k, hk, rfl, hall⟩ := hrel
        have HALL := Lib.hid hall
        clear hall
        by_cases hlt : k < s.size
        · have hts := take_snocB s k hlt
          have hf := all_fails s k hlt
          obtain ⟨c, hc⟩ : ∃ c, c = s[k] := ⟨_, rfl⟩
          by_cases c1 : (s[k].toNat : Int) < 48
          · have e1 : decide ((s[k].toNat : Int) < 48) = true := decide_eq_true c1
            have HF := Lib.hid (HR.out.trans (hf (by unfold Wd.isDg; rw [decide_eq_false (show ¬ 48 ≤ (s[k].toNat : Int) by omega)]; rfl)))
            clear hf hts hc
            go_wp2
            go_ret
            exact ⟨by rw [HF.out]; rfl, rfl⟩
          · have e1 : decide ((s[k].toNat : Int) < 48) = false := decide_eq_false c1
            by_cases c2 : 57 < (s[k].toNat : Int)
            · have e2 : decide (57 < (s[k].toNat : Int)) = true := decide_eq_true c2
              have HF := Lib.hid (HR.out.trans (hf (by unfold Wd.isDg; rw [decide_eq_false (show ¬ (s[k].toNat : Int) ≤ 57 by omega), Bool.and_false])))
              clear hf hts hc
              go_wp2
              go_ret
              exact ⟨by rw [HF.out]; rfl, rfl⟩
            · have e2 : decide (57 < (s[k].toNat : Int)) = false := decide_eq_false c2
              have HS := Lib.hid (show (s.data.toList.take (k + 1)).all Wd.isDg = true by
                rw [hts, List.all_append, HALL.out, List.all_cons, List.all_nil]
                unfold Wd.isDg
                rw [decide_eq_true (show 48 ≤ (s[k].toNat : Int) by omega), decide_eq_true (show (s[k].toNat : Int) ≤ 57 by omega)]; rfl)
              clear hf hts hc
              go_wp2
              go_round
              case rel => exact ⟨k + 1, by omega, by go_num, HS.out⟩
              case measure => simp [intOf]; omega
        · have HA := Lib.hid (show s.data.toList.all Wd.isDg = true by
            have h := HALL.out
            rwa [List.take_of_length_le (by rw [sizeB]; omega)] at h)
          have HA2 := Lib.hid (HR.out.trans HA.out)
          clear HA
          go_wp2
          go_ret
          exact ⟨by rw [HA2.out]; rfl, rfl⟩
set_option maxRecDepth 100000 in
set_option maxHeartbeats 4000000 in
theorem isNumeral_any (s : ByteArray) (w : World) (hs : s.size ≤ 9223372036854775807) :
    Calls Tryd.prog 93 #[.string s] w fun e w' => e = .returned (.bool (Wd.numOk s.data.toList)) ∧ w' = w := by
  have HD := hide (fun W => isDigits_any s 20 W hs)
  unfold Wd.numOk
  by_cases hd : Wd.digsOk s.data.toList 20 = true
  · have hl : 0 < s.size := by
      unfold Wd.digsOk at hd
      rw [sizeB] at hd
      rcases Nat.eq_zero_or_pos s.size with h | h
      · rw [h] at hd; simp at hd
      · exact h
    rw [hd] at HD ⊢
    rw [Bool.true_and]
    have hh : s.data.toList.head? = some s[0] := by
      have h1 : 0 < s.data.toList.length := by rw [sizeB]; exact hl
      rw [List.head?_eq_getElem?, List.getElem?_eq_getElem h1]; rfl
    have hs0 : s.toList = s.data.toList := Lib.toList_data s
    obtain ⟨r, hr⟩ : ∃ r, r = (s.data.toList == [48] || !(s.data.toList.head? == some 48)) := ⟨_, rfl⟩
    rw [← hr]
    by_cases h0 : s.data.toList = [48]
    · have HR := Lib.hid (show r = true by rw [hr, h0]; rfl)
      have e1 : (s.toList == [48]) = true := by rw [hs0, h0]; rfl
      clear hd hr hh hs0 h0
      go_enter Tryd.func93, Tryd.ntmps93
      go_wp2_with (go_at_call 95; refine ((unhide HD) _).mono ?_; rintro e w' ⟨rfl, rfl⟩)
      all_goals first | go_ret | skip
      all_goals exact ⟨by rw [HR.out]; rfl, rfl⟩
    · have e1 : (s.toList == [48]) = false := by rw [hs0]; exact beq_eq_false_iff_ne.2 h0
      by_cases h1 : (s[0].toNat : Int) = 48
      · have e2 : ((s[0].toNat : Int) != 48) = false := by rw [h1]; rfl
        have h2 : s[0] = 48 := UInt8.toNat_inj.1 (by show s[0].toNat = 48; omega)
        have HR := Lib.hid (show r = false by rw [hr, hh, h2, beq_eq_false_iff_ne.2 h0]; rfl)
        clear hd hr hh hs0 h0 h2
        go_enter Tryd.func93, Tryd.ntmps93
        go_wp2_with (go_at_call 95; refine ((unhide HD) _).mono ?_; rintro e w' ⟨rfl, rfl⟩)
        all_goals first | go_ret | skip
        all_goals exact ⟨by rw [HR.out]; rfl, rfl⟩
      · have e2 : ((s[0].toNat : Int) != 48) = true := by simp [h1]
        have h2 : ¬ s[0] = 48 := fun h => h1 (by rw [h]; rfl)
        have HR := Lib.hid (show r = true by
          have h3 : (some s[0] == some (48 : UInt8)) = false := beq_eq_false_iff_ne.2 (fun h => h2 (Option.some.inj h))
          rw [hr, hh, h3, beq_eq_false_iff_ne.2 h0]; rfl)
        clear hd hr hh hs0 h0 h2
        go_enter Tryd.func93, Tryd.ntmps93
        go_wp2_with (go_at_call 95; refine ((unhide HD) _).mono ?_; rintro e w' ⟨rfl, rfl⟩)
        all_goals first | go_ret | skip
        all_goals exact ⟨by rw [HR.out]; rfl, rfl⟩
  · have hd' : Wd.digsOk s.data.toList 20 = false := by cases h : Wd.digsOk s.data.toList 20 with
      | true => exact absurd h hd
      | false => rfl
    rw [hd'] at HD ⊢
    rw [Bool.false_and]
    clear hd hd'
    go_enter Tryd.func93, Tryd.ntmps93
    go_wp2_with (go_at_call 95; refine ((unhide HD) _).mono ?_; rintro e w' ⟨rfl, rfl⟩)
    all_goals first | go_ret | skip
    all_goals exact ⟨rfl, rfl⟩
end Go.Proofs.YtadclbankpmebaaDoor
/- A text cut at a byte: the program's library. -/
namespace Go.Proofs.YtadclbankpmebaaDoor
open Go.RowKit

set_option maxRecDepth 100000 in
set_option maxHeartbeats 4000000 in
theorem index1_any (s sub : ByteArray) (c : UInt8) (hc : sub.data.toList = [c]) (w : World) :
    Calls Tryd.prog 135 #[.string s, .string sub] w fun e w' => e = .returned (.int .i64 (Lib.indexByte s.data.toList c)) ∧ w' = w := by
  have h1 : sub.size = 1 := by rw [← sizeB, hc]; rfl
  have hg : sub[0] = c := by
    have h2 : sub[0] = sub.data.toList[0]'(by rw [hc]; exact Nat.zero_lt_one) := rfl
    rw [h2]; simp only [hc, List.getElem_cons_zero]
  have hs0 : s.toList = s.data.toList := Lib.toList_data s
  have hs1 : sub.toList = [c] := (Lib.toList_data sub).trans hc
  obtain ⟨i, hi⟩ : ∃ i, i = Lib.indexByte s.data.toList c := ⟨_, rfl⟩
  have HB := hide (fun W => Tryd.stringslite_IndexByte s (sub[0].toNat : Int) W)
  have hcc : ((sub[0].toNat : Int)).toNat.toUInt8 = c := by rw [hg, Int.toNat_natCast]; exact UInt8.ofNat_toNat
  rw [hcc] at HB
  rw [← hi] at HB ⊢
  have e1 : ((sub.size : Int) == 0) = false := by rw [h1]; rfl
  have e2 : ((sub.size : Int) == 1) = true := by rw [h1]; rfl
  by_cases h0 : s.data.toList = [c]
  · have HI := Lib.hid (show i = 0 by rw [hi, h0]; simp [Lib.indexByte])
    have e3 : (sub.toList == s.toList) = true := by rw [hs1, hs0, h0]; exact beq_self_eq_true _
    clear hc hg hs0 hs1 hi hcc h0
    go_enter Tryd.func135, Tryd.ntmps135
    go_wp2
    all_goals first | go_ret | skip
    all_goals exact ⟨by rw [HI.out]; rfl, rfl⟩
  · have e3 : (sub.toList == s.toList) = false := by rw [hs1, hs0]; exact beq_eq_false_iff_ne.2 (fun h => h0 h.symm)
    have h2 : (0 : Int) < sub.size := by omega
    clear hc hg hs0 hs1 hi hcc h0
    go_enter Tryd.func135, Tryd.ntmps135
    go_wp2_with (go_at_call 145; refine ((unhide HB) _).mono ?_; rintro e w' ⟨rfl, rfl⟩)
    all_goals first | go_ret | skip
    all_goals exact ⟨rfl, rfl⟩
/-- What a cut at a byte hands back. -/
def CutR (w : World) (s : ByteArray) (c : UInt8) (e : Ending) (w' : World) : Prop := ∃ (a b : ByteArray) (f : Bool), e = .returned (.tuple #[.string a, .string b, .bool f]) ∧ Below w.heap.size w w' ∧
  ((f = true ∧ s.data.toList = a.data.toList ++ c :: b.data.toList ∧ c ∉ a.data.toList) ∨ (f = false ∧ a = s ∧ b.data.toList = [] ∧ c ∉ s.data.toList))
set_option maxRecDepth 100000 in
set_option maxHeartbeats 4000000 in
theorem cut1_any (s sub : ByteArray) (c : UInt8) (hc : sub.data.toList = [c]) (w : World) (hs : s.size ≤ 9223372036854775806) :
    Calls Tryd.prog 116 #[.string s, .string sub] w fun e w' => CutR w s c e w' := by
  have HI := hide (fun W => index1_any s sub c hc W)
  have h1 : sub.size = 1 := by rw [← sizeB, hc]; rfl
  rcases Int.lt_or_le (Lib.indexByte s.data.toList c) 0 with hn | hn
  · have e0 : Lib.indexByte s.data.toList c = -1 := by have := Lib.indexByte_ge s.data.toList c; omega
    have hno : c ∉ s.data.toList := fun h => by
      obtain ⟨k, hk⟩ := List.getElem?_of_mem h
      exact Lib.indexByte_none e0 k hk
    rw [e0] at HI
    clear hn e0 hs
    go_enter Tryd.func116, Tryd.ntmps116
    go_wp2_with (go_at_call 135; refine ((unhide HI) _).mono ?_; rintro e w' ⟨rfl, rfl⟩)
    all_goals first | go_ret3 | skip
    exact ⟨s, ⟨#[]⟩, false, rfl, Below.refl _ _, .inr ⟨rfl, rfl, rfl, hno⟩⟩
  · obtain ⟨o, ho⟩ : ∃ o : Nat, Lib.indexByte s.data.toList c = o := ⟨_, (Int.toNat_of_nonneg hn).symm⟩
    obtain ⟨g1, g2⟩ := Lib.indexByte_some ho
    have hlt : o < s.data.toList.length := by
      rcases Nat.lt_or_ge o s.data.toList.length with h | h
      · exact h
      · rw [List.getElem?_eq_none h] at g1; cases g1
    have hlt2 : o < s.size := by rw [← sizeB]; exact hlt
    rw [ho] at HI
    have k1 : (s.extract 0 o).data.toList = s.data.toList.take o := by rw [Lib.extract_eq]; simp
    have k2 : (s.extract (o + sub.size) s.size).data.toList = s.data.toList.drop (o + 1) := by
      rw [Lib.extract_eq, h1]
      show List.take (s.size - (o + 1)) (List.drop (o + 1) s.data.toList) = _
      exact List.take_of_length_le (by rw [List.length_drop, sizeB]; exact Nat.le_refl _)
    have k3 : s.data.toList = (s.extract 0 o).data.toList ++ c :: (s.extract (o + sub.size) s.size).data.toList := by
      rw [k1, k2]
      have h2 : s.data.toList[o] = c := by rw [List.getElem?_eq_getElem hlt] at g1; exact Option.some.inj g1
      rw [← h2, ← List.drop_eq_getElem_cons hlt, List.take_append_drop]
    have k4 : c ∉ (s.extract 0 o).data.toList := fun h => by
      rw [k1] at h
      obtain ⟨k, hk⟩ := List.getElem?_of_mem h
      have hko : k < o := by
        rcases Nat.lt_or_ge k o with h | h
        · exact h
        · rw [List.getElem?_eq_none (by rw [List.length_take]; omega)] at hk; cases hk
      rw [List.getElem?_take_of_lt hko] at hk
      exact g2 k hko hk
    have c1 : (0 : Int) ≤ ↑o := by omega
    have c2 : (↑o : Int) ≤ ↑s.size := by omega
    have c3 : (0 : Int) ≤ ↑o + ↑sub.size := by omega
    have c4 : (↑o + ↑sub.size : Int) ≤ ↑s.size := by omega
    have K3 := Lib.hid k3
    have K4 := Lib.hid k4
    have H1 := Lib.hid h1
    clear k1 k2 k3 k4 g1 g2 hlt hlt2 hn ho hc h1
    go_enter Tryd.func116, Tryd.ntmps116
    go_wp2_with (go_at_call 135; refine ((unhide HI) _).mono ?_; rintro e w' ⟨rfl, rfl⟩)
    go_region
    all_goals go_wp2
    all_goals first | go_ret3 | skip
    all_goals exact ⟨_, _, true, rfl, by first | exact Below.refl _ _ | exact (Below.refl _ _).drew, .inl ⟨rfl, K3.out, K4.out⟩⟩
set_option maxRecDepth 100000 in
set_option maxHeartbeats 4000000 in
theorem scut1_any (s sub : ByteArray) (c : UInt8) (hc : sub.data.toList = [c]) (w : World) (hs : s.size ≤ 9223372036854775806) :
    Calls Tryd.prog 92 #[.string s, .string sub] w fun e w' => CutR w s c e w' := by
  have HI := hide (fun W => cut1_any s sub c hc W hs)
  clear hc hs
  go_enter Tryd.func92, Tryd.ntmps92
  go_wp2_with (go_at_call 116; refine ((unhide HI) _).mono ?_; rintro e w' ⟨a, b, f, rfl, hb, hf⟩)
  all_goals first | go_ret3 | skip
  exact ⟨a, b, f, rfl, hb, hf⟩
end Go.Proofs.YtadclbankpmebaaDoor
/- Whole numbers of the program: the number of digits. -/
namespace Go.Proofs.YtadclbankpmebaaDoor
open Go.RowKit

theorem boxi_store {w W : World} {B b : Nat} {z x : Int} {s2 : Int} {neg2 : Bool} {A2 : Option Addr} {c2 : Nat} {l2 : List Nat} (hq : BoxI W b z) (hv : IntF W s2 neg2 A2 c2 l2 x) (hb : Below B w W) (hB : B ≤ b) (hBW : B ≤ W.heap.size) :
    BoxI (((W.setCell ⟨b, 0, none⟩ (.int .i64 s2)).setCell ⟨b, 1, none⟩ (.bool neg2)).setCell ⟨b, 2, none⟩ (.slice A2 l2.length c2)) b x ∧ Below B w (((W.setCell ⟨b, 0, none⟩ (.int .i64 s2)).setCell ⟨b, 1, none⟩ (.bool neg2)).setCell ⟨b, 2, none⟩ (.slice A2 l2.length c2)) := by
  obtain ⟨s1, neg1, A1, c1, l1, h1, h2⟩ := hq
  have hg := set3_grown W b (.int .i64 s2) (.bool neg2) (.slice A2 l2.length c2)
  exact ⟨⟨_, _, _, _, _, set3_block h1, hv.upto h1 (noWord3 _ _ _ _ _) hg⟩, hb.grown hg hBW (fun k hk => by injection hk with hk; omega)⟩
theorem Wd.sz_pow {B K : Nat} {z : Int} (h : Wd.Sz B K z) (h1 : Wd.Sz B 1 1) : ∀ n : Nat, Wd.Sz B (K * n + 1) (z ^ n)
  | 0 => by rw [Int.pow_zero, Nat.mul_zero, Nat.zero_add]; exact h1
  | n + 1 => by
    have := (Wd.sz_pow h h1 n).mul h
    rw [Int.pow_succ, Nat.mul_succ, Nat.add_right_comm]
    exact this
theorem sz_one : Wd.Sz B64 1 1 := by unfold Wd.Sz; rw [Nat.pow_one, B64_eq]; omega
namespace Wd
/-- The number of digits. -/
def valD (l : List UInt8) : Nat := l.foldl (fun a c => a * 10 + (c.toNat - 48)) 0
theorem valD_snoc (l : List UInt8) (c : UInt8) : valD (l ++ [c]) = valD l * 10 + (c.toNat - 48) := by
  unfold valD; rw [List.foldl_append]; rfl
theorem dg_of {l : List UInt8} (h : l.all isDg = true) {c : UInt8} (hc : c ∈ l) : 48 ≤ c.toNat ∧ c.toNat ≤ 57 := by
  have h1 := List.all_eq_true.1 h c hc
  unfold isDg at h1
  rw [Bool.and_eq_true, decide_eq_true_eq, decide_eq_true_eq] at h1
  omega
theorem all_take {l : List UInt8} (h : l.all isDg = true) (k : Nat) : (l.take k).all isDg = true :=
  List.all_eq_true.2 (fun x hx => List.all_eq_true.1 h x (List.mem_of_mem_take hx))
theorem valD_lt_aux (n : Nat) : ∀ l : List UInt8, l.length = n → l.all isDg = true → valD l < 10 ^ l.length := by
  induction n with
  | zero => intro l hl _; rw [List.length_eq_zero_iff.1 hl]; exact Nat.zero_lt_one
  | succ n ih =>
    intro l hl h
    have hne : l ≠ [] := fun e => by rw [e] at hl; cases hl
    have e := List.dropLast_concat_getLast hne
    have hl' : l.dropLast.length = n := by rw [List.length_dropLast, hl]; rfl
    have h1 := ih l.dropLast hl' (List.all_eq_true.2 (fun x hx => List.all_eq_true.1 h x ((List.dropLast_sublist l).subset hx)))
    have h2 := dg_of h (List.getLast_mem hne)
    rw [← e, valD_snoc, e, hl, Nat.pow_succ]
    rw [hl'] at h1
    omega
theorem valD_lt (l : List UInt8) (h : l.all isDg = true) : valD l < 10 ^ l.length := valD_lt_aux _ l rfl h
end Wd
theorem sz_val {n : Nat} (h : n < 10 ^ 40) : Wd.Sz B64 3 (n : Int) := by
  have : (10 : Nat) ^ 40 < B64 ^ 3 := by rw [B64_eq]; decide
  unfold Wd.Sz; rw [Int.natAbs_natCast]; omega
theorem sz_ten : Wd.Sz B64 1 10 := by unfold Wd.Sz; rw [Nat.pow_one, B64_eq]; omega
theorem sz_dig {n : Int} (h1 : 0 ≤ n) (h2 : n ≤ 9) : Wd.Sz B64 1 n := by unfold Wd.Sz; rw [Nat.pow_one, B64_eq]; omega
theorem wrap_u8 {n : Int} (h1 : 0 ≤ n) (h2 : n < 256) : IntKind.u8.wrap n = n := by
  first
    | exact IntWalk.u8_in _ ⟨h1, by omega⟩
    | (simp [IntKind.wrap]; omega)

set_option maxRecDepth 100000 in
set_option maxHeartbeats 16000000 in
theorem integer_any (s : ByteArray) (w : World) (hd : s.data.toList.all Wd.isDg = true) (hl : s.size ≤ 40) :
    Calls Tryd.prog 94 #[.string s] w fun e w' => IntR w (Wd.valD s.data.toList : Nat) e w' := by
  have HO := hide (fun W => newInt_any 0 (by omega) (by omega) W)
  have HT10 := hide (fun W => newInt_any 10 (by omega) (by omega) W)
  have HD := hide hd
  clear hd
  go_enter Tryd.func94, Tryd.ntmps94
  go_upto_region 1 with fail
  obtain ⟨nr, hsz, hw0⟩ := one_new w (.cells #[.int .i64 0, .bool false, .slice none 0 0] 58)
  generalize w.alloc (.cells #[.int .i64 0, .bool false, .slice none 0 0] 58) = W0 at *
  have hq := lt_of_block nr
  clear hsz
  go_wp2_with fail
  refine ((unhide HO) _).mono ?_
  rintro e W1 ⟨s5, neg5, A5, c5, l5, rfl, g1, hb⟩
  replace nr := (hb.block _ (lt_of_block nr)).trans nr
  replace hq := Nat.lt_of_lt_of_le hq hb.size
  replace hw0 := below_step' hw0 hb
  clear hb
  go_upto_region 2 with fail
  have hbx := BoxI.new g1 rfl
  have hb := below_alloc (Below.refl W1.heap.size W1) (.cells #[.int .i64 s5, .bool neg5, .slice A5 l5.length c5] 58)
  clear g1
  obtain ⟨bx, hbxe⟩ : ∃ b, b = W1.heap.size := ⟨_, rfl⟩
  rw [← hbxe] at hbx ⊢
  have hbB : w.heap.size < bx := by rw [hbxe]; exact hq
  generalize W1.alloc (.cells #[.int .i64 s5, .bool neg5, .slice A5 l5.length c5] 58) = W2 at *
  replace nr := (hb.block _ (lt_of_block nr)).trans nr
  replace hq := Nat.lt_of_lt_of_le hq hb.size
  replace hw0 := below_step' hw0 hb
  clear hb hbxe
  have HW0 := hide hw0; have NR := hide nr; have HQ := hide hq
  clear hw0 nr hq
  go_wp2_with fail
  go_loopw [8] (fun iv wr => ∃ k : Nat, k ≤ s.size ∧ iv = .int .i64 (k : Int) ∧ BoxI wr bx (Wd.valD (s.data.toList.take k) : Nat) ∧ Hid (Below (w.heap.size + 1) W2 wr)) (fun iv _ => s.size - (intOf iv).toNat)
  case atStart => exact ⟨0, Nat.zero_le _, by first | rfl | go_num, by exact hbx, hide (Below.refl _ _)⟩
  case round =>
    obtain ⟨k, hk, rfl, hbq, hgr⟩ := hrel
    have hwr : Below w.heap.size w wr := (unhide HW0).trans ((unhide hgr).mono (by omega))
    have hq0 := unhide HQ
    have hgs := (unhide hgr).size
    by_cases hlt : k < s.size
    · obtain ⟨s6, neg6, A6, c6, l6, j1, f1'⟩ := hbq
      have hdk := Wd.dg_of (unhide HD) (show s[k] ∈ s.data.toList from List.getElem_mem (by rw [sizeB]; exact hlt))
      have hts := Wd.valD_snoc (s.data.toList.take k) s[k]
      rw [← take_snocB s k hlt] at hts
      have hlt2 := Wd.valD_lt (s.data.toList.take k) (Wd.all_take (unhide HD) k)
      rw [List.length_take, Nat.min_eq_left (by rw [sizeB]; omega)] at hlt2
      have h40 : 10 ^ k ≤ 10 ^ 40 := Nat.pow_le_pow_right (by omega) (by omega)
      have sz1 : Wd.Sz B64 3 ((Wd.valD (s.data.toList.take k) : Nat) : Int) := sz_val (by omega)
      have sz2 : Wd.Sz B64 4 (((Wd.valD (s.data.toList.take k) : Nat) : Int) * 10) := sz1.mul sz_ten
      obtain ⟨dv, hdv⟩ : ∃ dv : Int, dv = (s[k].toNat : Int) - 48 := ⟨_, rfl⟩
      have hdb : 0 ≤ dv ∧ dv ≤ 9 := by omega
      have HTD := hide (fun W => newInt_any dv (by omega) (by omega) W)
      have szd : Wd.Sz B64 1 dv := sz_dig hdb.1 hdb.2
      obtain ⟨v, hv⟩ : ∃ v : Int, v = (Wd.valD (s.data.toList.take k) : Nat) := ⟨_, rfl⟩
      have hnext : ((Wd.valD (s.data.toList.take (k + 1)) : Nat) : Int) = v * 10 + dv := by rw [hts, hv, hdv]; omega
      rw [← hv] at f1' sz1 sz2
      have HM := hide (fun s2 neg2 A2 c2 l2 W (g1 : IntF W s6 neg6 A6 c6 l6 v) (g2 : IntF W s2 neg2 A2 c2 l2 10) => imul_any s6 neg6 A6 c6 l6 v s2 neg2 A2 c2 l2 10 W g1 g2 (g1.fit sz1 (by rw [lim_eq]; omega)) (g2.fit sz_ten (by rw [lim_eq]; omega)))
      have HA := hide (fun s2 neg2 A2 c2 l2 s3 neg3 A3 c3 l3 W (g1 : IntF W s2 neg2 A2 c2 l2 (v * 10)) (g2 : IntF W s3 neg3 A3 c3 l3 dv) => iadd_any s2 neg2 A2 c2 l2 (v * 10) s3 neg3 A3 c3 l3 dv W g1 g2 (g1.fit sz2 (by rw [lim_eq]; omega)) (g2.fit szd (by rw [lim_eq]; omega)))
      have kx_0 : wr.cell? ⟨bx, 0, none⟩ = some (.int .i64 s6) := cells_of j1 0
      have ux_0 := unfrozen_of j1 0
      have kx_1 : wr.cell? ⟨bx, 1, none⟩ = some (.bool neg6) := cells_of j1 1
      have ux_1 := unfrozen_of j1 1
      have kx_2 : wr.cell? ⟨bx, 2, none⟩ = some (.slice A6 l6.length c6) := cells_of j1 2
      have ux_2 := unfrozen_of j1 2
      have qx := lt_of_block j1
      have HN := Lib.hid hnext
      have w1 : IntKind.u8.wrap ((s[k].toNat : Int) - 48) = dv := by rw [← hdv]; exact wrap_u8 hdb.1 (by omega)
      have w2 : IntKind.i64.wrap dv = dv := IntWalk.i64_in _ (by omega)
      have w3 : wrap64 dv = dv := IntWalk.wrap64_in _ (by omega)
      have w4 : ((s[k].toNat : Int) - 48) % 256 = dv := by rw [← hdv]; omega
      have d1 : decide ((k : Int) < (s.size : Int)) = true := decide_eq_true (by omega)
      have d2 : decide (k < s.size) = true := decide_eq_true hlt
      have J1 := hide j1; have F1 := hide f1'
      clear hdk hts hlt2 h40 sz1 sz2 hdv hdb szd hv hnext j1 f1'
      go_upto_region 5 with fail
      go_region_with (first | (go_at_call_of 31 (Value.int .i64 10); refine ((unhide HT10) _).mono ?_; rintro e w' ⟨s2, neg2, A2, c2, l2, rfl, f2, hb2⟩; (try (first | replace f3 := IntF.below f3 hb2 | replace f3 := (IntF.below f3 (Below.drew (Below.refl _ _))).below hb2)); (try (first | replace f4 := IntF.below f4 hb2 | replace f4 := (IntF.below f4 (Below.drew (Below.refl _ _))).below hb2)); have hbw := below_step (w := wr) (by (first | with_reducible assumption | (repeat (first | with_reducible exact Below.refl _ _ | with_reducible assumption | refine Below.drew ?_ | (refine Below.alloc ?_ (by simp <;> omega) _) | refine belowN ?_ _)))) hb2; obtain ⟨hc, hfz⟩ := bcell hbw) | (go_at_call_of 74 (Value.agg #[.int .i64 s6, .bool neg6, .slice A6 l6.length c6]); refine ((unhide HM) s2 neg2 A2 c2 l2 _ (by exact IntF.below (unhide F1) (by (first | with_reducible assumption | (repeat (first | with_reducible exact Below.refl _ _ | with_reducible assumption | refine Below.drew ?_ | (refine Below.alloc ?_ (by simp <;> omega) _) | refine belowN ?_ _))))) (by (first | exact f2 | exact IntF.below f2 (by (first | with_reducible assumption | (repeat (first | with_reducible exact Below.refl _ _ | with_reducible assumption | refine Below.drew ?_ | (refine Below.alloc ?_ (by simp <;> omega) _) | refine belowN ?_ _))))))).mono ?_; rintro e w' ⟨s3, neg3, A3, c3, l3, rfl, f3, hb3⟩; (try (first | replace f4 := IntF.below f4 hb3 | replace f4 := (IntF.below f4 (Below.drew (Below.refl _ _))).below hb3)); have hbw := below_step (w := wr) (by (first | with_reducible assumption | (repeat (first | with_reducible exact Below.refl _ _ | with_reducible assumption | refine Below.drew ?_ | (refine Below.alloc ?_ (by simp <;> omega) _) | refine belowN ?_ _)))) hb3; obtain ⟨hc, hfz⟩ := bcell hbw) | (go_at_call_of 31 (Value.int .i64 dv); refine ((unhide HTD) _).mono ?_; rintro e w' ⟨s4, neg4, A4, c4, l4, rfl, f4, hb4⟩; (try (first | replace f2 := IntF.below f2 hb4 | replace f2 := (IntF.below f2 (Below.drew (Below.refl _ _))).below hb4)); (try (first | replace f3 := IntF.below f3 hb4 | replace f3 := (IntF.below f3 (Below.drew (Below.refl _ _))).below hb4)); have hbw := below_step (w := wr) (by (first | with_reducible assumption | (repeat (first | with_reducible exact Below.refl _ _ | with_reducible assumption | refine Below.drew ?_ | (refine Below.alloc ?_ (by simp <;> omega) _) | refine belowN ?_ _)))) hb4; obtain ⟨hc, hfz⟩ := bcell hbw) | (go_at_call_of 97 (Value.agg #[.int .i64 s3, .bool neg3, .slice A3 l3.length c3]); refine ((unhide HA) s3 neg3 A3 c3 l3 s4 neg4 A4 c4 l4 _ (by (first | exact f3 | exact IntF.below f3 (by (first | with_reducible assumption | (repeat (first | with_reducible exact Below.refl _ _ | with_reducible assumption | refine Below.drew ?_ | (refine Below.alloc ?_ (by simp <;> omega) _) | refine belowN ?_ _)))))) (by (first | exact f4 | exact IntF.below f4 (by (first | with_reducible assumption | (repeat (first | with_reducible exact Below.refl _ _ | with_reducible assumption | refine Below.drew ?_ | (refine Below.alloc ?_ (by simp <;> omega) _) | refine belowN ?_ _))))))).mono ?_; rintro e w' ⟨s5, neg5, A5, c5, l5, rfl, f5, hb5⟩; have hbw := below_step (w := wr) (by (first | with_reducible assumption | (repeat (first | with_reducible exact Below.refl _ _ | with_reducible assumption | refine Below.drew ?_ | (refine Below.alloc ?_ (by simp <;> omega) _) | refine belowN ?_ _)))) hb5; obtain ⟨hc, hfz⟩ := bcell hbw))
      all_goals
        have hst := boxi_store (BoxI.below ⟨_, _, _, _, _, unhide J1, unhide F1⟩ hbw) f5 ((unhide hgr).trans (hbw.mono (by omega))) (by omega) (by have := hbw.size; omega)
        go_wp2_with fail
        go_roundw
        case rel => exact ⟨k + 1, by omega, by first | rfl | go_num, HN.out ▸ hst.1, hide hst.2⟩
        case measure => simp [intOf] <;> omega
    · have hke : s.data.toList.take k = s.data.toList := List.take_of_length_le (by rw [sizeB]; omega)
      rw [hke] at hbq
      obtain ⟨s6, neg6, A6, c6, l6, j1, f1'⟩ := hbq
      have jr := ((unhide hgr).block w.heap.size (by omega)).trans (unhide NR)
      have kx_0 : wr.cell? ⟨bx, 0, none⟩ = some (.int .i64 s6) := cells_of j1 0
      have ux_0 := unfrozen_of j1 0
      have kx_1 : wr.cell? ⟨bx, 1, none⟩ = some (.bool neg6) := cells_of j1 1
      have ux_1 := unfrozen_of j1 1
      have kx_2 : wr.cell? ⟨bx, 2, none⟩ = some (.slice A6 l6.length c6) := cells_of j1 2
      have ux_2 := unfrozen_of j1 2
      have qx := lt_of_block j1
      have r0 : wr.cell? ⟨w.heap.size, 0, none⟩ = some (.int .i64 0) := cells_of jr 0
      have fr0 := unfrozen_of jr 0
      have r1 : wr.cell? ⟨w.heap.size, 1, none⟩ = some (.bool false) := cells_of jr 1
      have fr1 := unfrozen_of jr 1
      have r2 : wr.cell? ⟨w.heap.size, 2, none⟩ = some (.slice none 0 0) := cells_of jr 2
      have fr2 := unfrozen_of jr 2
      have qr : w.heap.size < wr.heap.size := by omega
      have HBLK := Lib.hid jr
      have F1 := hide f1'
      have d1 : decide ((k : Int) < (s.size : Int)) = false := decide_eq_false (by omega)
      have d2 : decide (k < s.size) = false := decide_eq_false hlt
      clear j1 f1' jr hke hk hl
      go_wp2_with fail
      exact bodyPost_ret (v := (Value.agg #[.int .i64 s6, .bool neg6, .slice A6 l6.length c6])) (by simp [results, Tryd.results94, go_sem, r0, r1, r2, qr]) rfl
        ⟨s6, neg6, A6, c6, l6, rfl, (unhide F1).upto HBLK.out (noWord3 _ _ _ _ _) (set3_grown _ _ _ _ _), hwr.grown (set3_grown _ _ _ _ _) hwr.size (fun k hk => by injection hk with hk; omega)⟩

end Go.Proofs.YtadclbankpmebaaDoor
/- Whole numbers of the program: powers. -/
namespace Go.Proofs.YtadclbankpmebaaDoor
open Go.RowKit

set_option maxRecDepth 100000 in
set_option maxHeartbeats 16000000 in
theorem ipow_any (s1 : Int) (neg1 : Bool) (A1 : Option Addr) (c1 : Nat) (l1 : List Nat) (z : Int) (n K : Nat) (w : World) (h1 : IntF w s1 neg1 A1 c1 l1 z) (sz : Wd.Sz B64 K z) (hK : K * n + 1 ≤ lim) (hK2 : K ≤ lim) (hn : n ≤ 9223372036854775806) :
    Calls Tryd.prog 96 #[(Value.agg #[.int .i64 s1, .bool neg1, .slice A1 l1.length c1]), .int .i64 n] w fun e w' => IntR w (z ^ n) e w' := by
  have HX := hide h1; have HSZ := hide sz; have HK := hide hK; have HK2 := hide hK2
  have HO := hide (fun W => newInt_any 1 (by omega) (by omega) W)
  clear h1 sz hK hK2
  go_enter Tryd.func96, Tryd.ntmps96
  go_upto_region 1 with fail
  obtain ⟨nx, nr, hsz, hw0⟩ := two_new w (.cells #[.int .i64 s1, .bool neg1, .slice A1 l1.length c1] 58) (.cells #[.int .i64 0, .bool false, .slice none 0 0] 58)
  generalize ((w.alloc (.cells #[.int .i64 s1, .bool neg1, .slice A1 l1.length c1] 58)).alloc (.cells #[.int .i64 0, .bool false, .slice none 0 0] 58)) = W0 at *
  have hq := lt_of_block nr
  clear hsz
  go_wp2_with fail
  refine ((unhide HO) _).mono ?_
  rintro e W1 ⟨s5, neg5, A5, c5, l5, rfl, g1, hb⟩
  replace nx := (hb.block _ (lt_of_block nx)).trans nx
  replace nr := (hb.block _ (lt_of_block nr)).trans nr
  replace hq := Nat.lt_of_lt_of_le hq hb.size
  replace hw0 := below_step' hw0 hb
  clear hb
  go_upto_region 2 with fail
  have hbx := BoxI.new g1 rfl
  have hb := below_alloc (Below.refl W1.heap.size W1) (.cells #[.int .i64 s5, .bool neg5, .slice A5 l5.length c5] 58)
  clear g1
  obtain ⟨bx, hbxe⟩ : ∃ b, b = W1.heap.size := ⟨_, rfl⟩
  rw [← hbxe] at hbx ⊢
  have hbB : w.heap.size + 1 < bx := by rw [hbxe]; exact hq
  generalize W1.alloc (.cells #[.int .i64 s5, .bool neg5, .slice A5 l5.length c5] 58) = W2 at *
  replace nx := (hb.block _ (lt_of_block nx)).trans nx
  replace nr := (hb.block _ (lt_of_block nr)).trans nr
  replace hq := Nat.lt_of_lt_of_le hq hb.size
  replace hw0 := below_step' hw0 hb
  clear hb hbxe
  have HW0 := hide hw0; have NX := hide nx; have NR := hide nr; have HQ := hide hq
  clear hw0 nx nr hq
  go_wp2_with fail
  go_loopw [8] (fun iv wr => ∃ k : Nat, k ≤ n ∧ iv = .int .i64 (k : Int) ∧ BoxI wr bx (z ^ k) ∧ Hid (Below (w.heap.size + 2) W2 wr)) (fun iv _ => n - (intOf iv).toNat)
  case atStart => exact ⟨0, Nat.zero_le _, by first | rfl | go_num, by rw [Int.pow_zero]; exact hbx, hide (Below.refl _ _)⟩
  case round =>
    obtain ⟨k, hk, rfl, hbq, hgr⟩ := hrel
    have hwr : Below w.heap.size w wr := (unhide HW0).trans ((unhide hgr).mono (by omega))
    have hq0 := unhide HQ
    have hgs := (unhide hgr).size
    by_cases hlt : k < n
    · obtain ⟨s6, neg6, A6, c6, l6, j1, f1'⟩ := hbq
      have jx := ((unhide hgr).block w.heap.size (by omega)).trans (unhide NX)
      have kx_0 : wr.cell? ⟨bx, 0, none⟩ = some (.int .i64 s6) := cells_of j1 0
      have ux_0 := unfrozen_of j1 0
      have kx_1 : wr.cell? ⟨bx, 1, none⟩ = some (.bool neg6) := cells_of j1 1
      have ux_1 := unfrozen_of j1 1
      have kx_2 : wr.cell? ⟨bx, 2, none⟩ = some (.slice A6 l6.length c6) := cells_of j1 2
      have ux_2 := unfrozen_of j1 2
      have qx := lt_of_block j1
      have kw_0 : wr.cell? ⟨w.heap.size, 0, none⟩ = some (.int .i64 s1) := cells_of jx 0
      have kw_1 : wr.cell? ⟨w.heap.size, 1, none⟩ = some (.bool neg1) := cells_of jx 1
      have kw_2 : wr.cell? ⟨w.heap.size, 2, none⟩ = some (.slice A1 l1.length c1) := cells_of jx 2
      have hX := (unhide HX).below hwr
      have zk : Wd.Sz B64 (K * k + 1) (z ^ k) := Wd.sz_pow (unhide HSZ) sz_one k
      have hk2 : K * k ≤ K * n := Nat.mul_le_mul_left K (by omega)
      have HM := hide (imul_any s6 neg6 A6 c6 l6 (z ^ k) s1 neg1 A1 c1 l1 z wr f1' hX (f1'.fit zk (by have := unhide HK; omega)) (hX.fit (unhide HSZ) (unhide HK2)))
      have hps : z ^ (k + 1) = z ^ k * z := Int.pow_succ z k
      have HPS := Lib.hid hps
      have d1 : decide ((k : Int) < (n : Int)) = true := decide_eq_true (by omega)
      have d2 : decide (k < n) = true := decide_eq_true hlt
      have J1 := hide j1; have F1 := hide f1'
      clear hps zk hk2 hX j1 f1' jx
      go_wp2_with fail
      refine (unhide HM).mono ?_
      rintro e w' ⟨s7, neg7, A7, c7, l7, rfl, g7, hb⟩
      have hst := boxi_store (BoxI.below ⟨_, _, _, _, _, unhide J1, unhide F1⟩ hb) g7 ((unhide hgr).trans (hb.mono (by omega))) (by omega) (by have := hb.size; omega)
      obtain ⟨hc, hfz⟩ := bcell hb
      replace kx_0 := (hc _ _ qx).trans kx_0
      replace kx_1 := (hc _ _ qx).trans kx_1
      replace kx_2 := (hc _ _ qx).trans kx_2
      replace ux_0 := (hfz _ _ qx).trans ux_0
      replace ux_1 := (hfz _ _ qx).trans ux_1
      replace ux_2 := (hfz _ _ qx).trans ux_2
      clear g7 hb hc hfz HM
      go_wp2_with fail
      go_roundw
      case rel => exact ⟨k + 1, by omega, by first | rfl | go_num, HPS.out ▸ hst.1, hide hst.2⟩
      case measure => simp [intOf] <;> omega
    · obtain rfl : k = n := by omega
      obtain ⟨s6, neg6, A6, c6, l6, j1, f1'⟩ := hbq
      have jr := ((unhide hgr).block (w.heap.size + 1) (by omega)).trans (unhide NR)
      have kx_0 : wr.cell? ⟨bx, 0, none⟩ = some (.int .i64 s6) := cells_of j1 0
      have ux_0 := unfrozen_of j1 0
      have kx_1 : wr.cell? ⟨bx, 1, none⟩ = some (.bool neg6) := cells_of j1 1
      have ux_1 := unfrozen_of j1 1
      have kx_2 : wr.cell? ⟨bx, 2, none⟩ = some (.slice A6 l6.length c6) := cells_of j1 2
      have ux_2 := unfrozen_of j1 2
      have qx := lt_of_block j1
      have r0 : wr.cell? ⟨w.heap.size + 1, 0, none⟩ = some (.int .i64 0) := cells_of jr 0
      have fr0 := unfrozen_of jr 0
      have r1 : wr.cell? ⟨w.heap.size + 1, 1, none⟩ = some (.bool false) := cells_of jr 1
      have fr1 := unfrozen_of jr 1
      have r2 : wr.cell? ⟨w.heap.size + 1, 2, none⟩ = some (.slice none 0 0) := cells_of jr 2
      have fr2 := unfrozen_of jr 2
      have qr : w.heap.size + 1 < wr.heap.size := by omega
      have HBLK := Lib.hid jr
      have F1 := hide f1'
      have d1 : decide ((k : Int) < (k : Int)) = false := decide_eq_false (by omega)
      have d2 : decide (k < k) = false := decide_eq_false (by omega)
      clear j1 f1' jr hlt hk
      go_wp2_with fail
      exact bodyPost_ret (v := (Value.agg #[.int .i64 s6, .bool neg6, .slice A6 l6.length c6])) (by simp [results, Tryd.results96, go_sem, r0, r1, r2, qr]) rfl
        ⟨s6, neg6, A6, c6, l6, rfl, (unhide F1).upto HBLK.out (noWord3 _ _ _ _ _) (set3_grown _ _ _ _ _), hwr.grown (set3_grown _ _ _ _ _) hwr.size (fun k hk => by injection hk with hk; omega)⟩

end Go.Proofs.YtadclbankpmebaaDoor
/- The number of a text. -/
namespace Go.Proofs.YtadclbankpmebaaDoor
namespace Wd

/-- A text cut at the first byte c. -/
def cutAt (c : UInt8) : List UInt8 → Option (List UInt8 × List UInt8)
  | [] => none
  | x :: l => if x = c then some ([], l) else (cutAt c l).map fun p => (x :: p.1, p.2)
theorem cutAt_hit (c : UInt8) : ∀ (a b : List UInt8), c ∉ a → cutAt c (a ++ c :: b) = some (a, b)
  | [], b, _ => by simp [cutAt]
  | x :: a, b, h => by
    have h1 : ¬ x = c := fun e => h (by rw [e]; exact List.mem_cons_self)
    have h2 : c ∉ a := fun e => h (List.mem_cons_of_mem _ e)
    rw [List.cons_append, cutAt, if_neg h1, cutAt_hit c a b h2]; rfl
theorem cutAt_miss (c : UInt8) : ∀ l : List UInt8, c ∉ l → cutAt c l = none
  | [], _ => rfl
  | x :: l, h => by
    have h1 : ¬ x = c := fun e => h (by rw [e]; exact List.mem_cons_self)
    have h2 : c ∉ l := fun e => h (List.mem_cons_of_mem _ e)
    rw [cutAt, if_neg h1, cutAt_miss c l h2]; rfl
/-- The number of a text without a sign. -/
def posT (l : List UInt8) : Option Rat :=
  match cutAt 47 l with
  | some (a, b) => if (numOk a && numOk b && !(b == [48])) = true then some (Rat.divInt (valD a : Nat) (valD b : Nat)) else none
  | none => match cutAt 46 l with
    | some (a, b) => if (numOk a && digsOk b 12) = true then some (Rat.divInt (valD (a ++ b) : Nat) ((10 ^ b.length : Nat) : Int)) else none
    | none => if numOk l = true then some (Rat.divInt (valD l : Nat) 1) else none
theorem posT_slash {l a b : List UInt8} (hl : l = a ++ 47 :: b) (hn : 47 ∉ a) : posT l = if (numOk a && numOk b && !(b == [48])) = true then some (Rat.divInt (valD a : Nat) (valD b : Nat)) else none := by
  unfold posT; rw [hl, cutAt_hit 47 a b hn]
theorem posT_dot {l a b : List UInt8} (h0 : 47 ∉ l) (hl : l = a ++ 46 :: b) (hn : 46 ∉ a) : posT l = if (numOk a && digsOk b 12) = true then some (Rat.divInt (valD (a ++ b) : Nat) ((10 ^ b.length : Nat) : Int)) else none := by
  unfold posT; rw [cutAt_miss 47 l h0]; dsimp only; rw [hl, cutAt_hit 46 a b hn]
theorem posT_plain {l : List UInt8} (h0 : 47 ∉ l) (h1 : 46 ∉ l) : posT l = if numOk l = true then some (Rat.divInt (valD l : Nat) 1) else none := by
  unfold posT; rw [cutAt_miss 47 l h0]; dsimp only; rw [cutAt_miss 46 l h1]
/-- What is told of a text. -/
def parseT (l : List UInt8) : Told :=
  if l.head? = some 45 then
    match posT l.tail with
    | some q => if q = 0 then ⟨0, 0, 2⟩ else told (-q)
    | none => ⟨0, 0, 2⟩
  else match posT l with
    | some q => told q
    | none => ⟨0, 0, 2⟩
theorem valD_from (l : List UInt8) : ∀ a : Nat, l.foldl (fun a (c : UInt8) => a * 10 + (c.toNat - 48)) a = a * 10 ^ l.length + valD l := by
  unfold valD
  induction l with
  | nil => intro a; simp
  | cons c l ih =>
    intro a
    rw [List.foldl_cons, List.foldl_cons, ih, ih (0 * 10 + (c.toNat - 48)), List.length_cons, Nat.pow_succ, Nat.zero_mul, Nat.zero_add, Nat.add_mul, Nat.mul_comm (10 ^ l.length) 10, Nat.mul_assoc, Nat.add_assoc]
theorem valD_cons (c : UInt8) (l : List UInt8) : valD (c :: l) = (c.toNat - 48) * 10 ^ l.length + valD l := by
  have h := valD_from l (0 * 10 + (c.toNat - 48))
  rw [Nat.zero_mul, Nat.zero_add] at h
  show List.foldl _ (0 * 10 + (c.toNat - 48)) l = _
  rw [Nat.zero_mul, Nat.zero_add]; exact h
theorem digsOk_iff {l : List UInt8} {m : Int} : digsOk l m = true ↔ 1 ≤ l.length ∧ (l.length : Int) ≤ m ∧ l.all isDg = true := by
  unfold digsOk
  rw [Bool.and_eq_true, Bool.and_eq_true, decide_eq_true_eq, decide_eq_true_eq]
  constructor
  · rintro ⟨⟨h1, h2⟩, h3⟩; exact ⟨by omega, h2, h3⟩
  · rintro ⟨h1, h2, h3⟩; exact ⟨⟨by omega, h2⟩, h3⟩
theorem numOk_iff {l : List UInt8} : numOk l = true ↔ digsOk l 20 = true ∧ (l = [48] ∨ l.head? ≠ some 48) := by
  unfold numOk
  rw [Bool.and_eq_true, Bool.or_eq_true, beq_iff_eq, Bool.not_eq_true', beq_eq_false_iff_ne]
theorem numOk_pos {l : List UInt8} (h : numOk l = true) (hz : ¬ l = [48]) : 0 < valD l := by
  obtain ⟨h1, h2⟩ := numOk_iff.1 h
  obtain ⟨h3, _, h5⟩ := digsOk_iff.1 h1
  cases l with
  | nil => exact absurd h3 (by decide)
  | cons c l =>
    rcases h2 with h2 | h2
    · exact absurd h2 hz
    · have hc := dg_of h5 (List.mem_cons_self (a := c) (l := l))
      have hne : c.toNat ≠ 48 := fun e => h2 (by
        have : c = 48 := UInt8.toNat_inj.1 e
        rw [this]; rfl)
      rw [valD_cons]
      have := Nat.mul_le_mul (show 1 ≤ c.toNat - 48 by omega) (Nat.pow_pos (n := l.length) (show 0 < 10 by decide))
      omega
end Wd
end Go.Proofs.YtadclbankpmebaaDoor
/- Texts without a sign: the program. -/
namespace Go.Proofs.YtadclbankpmebaaDoor
open Go.RowKit

/-- What is told of a text without a sign. -/
def PosR (w : World) (l : List UInt8) (e : Ending) (w' : World) : Prop :=
  (Wd.posT l = none ∧ e = .returned (.tuple #[(Value.agg #[.int .i64 0, .bool false, .slice none 0 0, .int .i64 0, .bool false, .slice none 0 0]), .bool false]) ∧ Below w.heap.size w w') ∨
  ∃ q s1 neg1 A1 c1 l1 s2 neg2 A2 c2 l2, Wd.posT l = some q ∧ e = .returned (.tuple #[(Value.agg #[.int .i64 s1, .bool neg1, .slice A1 (List.length l1) c1, .int .i64 s2, .bool neg2, .slice A2 (List.length l2) c2]), .bool true]) ∧ IntF w' s1 neg1 A1 c1 l1 q.num ∧ IntF w' s2 neg2 A2 c2 l2 (q.den : Int) ∧ Below w.heap.size w w'
theorem catB (a b : ByteArray) : (a ++ b).data.toList = a.data.toList ++ b.data.toList := by
  rw [ByteArray.data_append, Array.toList_append]
theorem size_cat (a b : ByteArray) : (a ++ b).size = a.size + b.size := by
  rw [← sizeB, catB, List.length_append, sizeB, sizeB]
theorem bnot {b : Bool} (h : ¬ b = true) : b = false := by cases b with
  | true => exact absurd rfl h
  | false => rfl
theorem sz3 {l : List UInt8} (h : l.all Wd.isDg = true) (hl : l.length ≤ 40) : Wd.Sz B64 3 ((Wd.valD l : Nat) : Int) :=
  sz_val (Nat.lt_of_lt_of_le (Wd.valD_lt l h) (Nat.pow_le_pow_right (by omega) hl))
theorem sz_pow10 {n : Nat} (h : n ≤ 12) : Wd.Sz B64 3 ((10 ^ n : Nat) : Int) :=
  sz_val (Nat.lt_of_le_of_lt (Nat.pow_le_pow_right (by omega) h) (by decide))
theorem all_cat {a b : List UInt8} (h1 : a.all Wd.isDg = true) (h2 : b.all Wd.isDg = true) : (a ++ b).all Wd.isDg = true := by
  rw [List.all_append, h1, h2]; rfl

set_option maxRecDepth 100000 in
set_option maxHeartbeats 16000000 in
theorem ppos_any (s : ByteArray) (w : World) (hT : Tab w) (hs : s.size ≤ 9223372036854775806) :
    Calls Tryd.prog 56 #[.string s] w fun e w' => PosR w s.data.toList e w' := by
  have HT := hide hT
  have HC1 := hide (fun W => scut1_any s ⟨#[47]⟩ 47 rfl W hs)
  have HC2 := hide (fun W => scut1_any s ⟨#[46]⟩ 46 rfl W hs)
  have HSZ := hide hs
  clear hT hs
  go_enter Tryd.func56, Tryd.ntmps56
  go_upto_region 1 with fail
  obtain ⟨nr, hsz, hw0⟩ := one_new w (.cells #[.int .i64 0, .bool false, .slice none 0 0, .int .i64 0, .bool false, .slice none 0 0] 60)
  generalize w.alloc (.cells #[.int .i64 0, .bool false, .slice none 0 0, .int .i64 0, .bool false, .slice none 0 0] 60) = W0 at *
  have NR := hide nr
  have HB := Lib.hid hw0
  clear hsz hw0 nr
  go_wp2_with fail
  refine ((unhide HC1) _).mono ?_
  rintro e W1 ⟨a, b, f, rfl, hb, hcase⟩
  replace NR := hide ((hb.block _ (lt_of_block (unhide NR))).trans (unhide NR))
  replace HB := Lib.hid (below_step' HB.out hb)
  clear hb
  rcases hcase with ⟨rfl, hl, hn⟩ | ⟨rfl, _, _, hn⟩
  · have hlen : s.size = a.size + 1 + b.size := by rw [← sizeB, hl, List.length_append, List.length_cons, sizeB, sizeB]; omega
    have HNA := hide (fun W => isNumeral_any a W (by have := unhide HSZ; omega))
    have HNB := hide (fun W => isNumeral_any b W (by have := unhide HSZ; omega))
    clear hlen HC2
    by_cases na : Wd.numOk a.data.toList = true
    · by_cases nb : Wd.numOk b.data.toList = true
      · by_cases hz : b.data.toList = [48]
        · have HN := Lib.hid (show Wd.posT s.data.toList = none by rw [Wd.posT_slash hl hn, na, nb, hz]; rfl)
          rw [na] at HNA
          rw [nb] at HNB
          have e1 : (b.toList == [48]) = true := by rw [Lib.toList_data, hz]; rfl
          clear na nb hz hl hn HC1
          have r0 : W1.cell? ⟨w.heap.size, 0, none⟩ = some (.int .i64 0) := cells_of (unhide NR) 0
          have fr0 := unfrozen_of (unhide NR) 0
          have r1 : W1.cell? ⟨w.heap.size, 1, none⟩ = some (.bool false) := cells_of (unhide NR) 1
          have fr1 := unfrozen_of (unhide NR) 1
          have r2 : W1.cell? ⟨w.heap.size, 2, none⟩ = some (.slice none 0 0) := cells_of (unhide NR) 2
          have fr2 := unfrozen_of (unhide NR) 2
          have r3 : W1.cell? ⟨w.heap.size, 3, none⟩ = some (.int .i64 0) := cells_of (unhide NR) 3
          have fr3 := unfrozen_of (unhide NR) 3
          have r4 : W1.cell? ⟨w.heap.size, 4, none⟩ = some (.bool false) := cells_of (unhide NR) 4
          have fr4 := unfrozen_of (unhide NR) 4
          have r5 : W1.cell? ⟨w.heap.size, 5, none⟩ = some (.slice none 0 0) := cells_of (unhide NR) 5
          have fr5 := unfrozen_of (unhide NR) 5
          have qr := lt_of_block (unhide NR)
          go_wp2_with (first | (go_at_call_of 93 (Value.string a); refine ((unhide HNA) _).mono ?_; rintro e w' ⟨rfl, rfl⟩) | (go_at_call_of 93 (Value.string b); refine ((unhide HNB) _).mono ?_; rintro e w' ⟨rfl, rfl⟩))
          exact bodyPost_ret (v := .tuple #[(Value.agg #[.int .i64 0, .bool false, .slice none 0 0, .int .i64 0, .bool false, .slice none 0 0]), .bool false]) (by simp [results, Tryd.results56, go_sem, r0, r1, r2, r3, r4, r5, qr]) rfl
            (.inl ⟨HN.out, rfl, HB.out.grown (set6_grown _ _ _ _ _ _ _ _) HB.out.size (fun k hk => by injection hk with hk; omega)⟩)
        · have HIA := hide (fun W => integer_any a W (Wd.digsOk_iff.1 (Wd.numOk_iff.1 na).1).2.2 (by have := (Wd.digsOk_iff.1 (Wd.numOk_iff.1 na).1).2.1; rw [sizeB] at this; omega))
          have HIB := hide (fun W => integer_any b W (Wd.digsOk_iff.1 (Wd.numOk_iff.1 nb).1).2.2 (by have := (Wd.digsOk_iff.1 (Wd.numOk_iff.1 nb).1).2.1; rw [sizeB] at this; omega))
          have zs1 := sz3 (Wd.digsOk_iff.1 (Wd.numOk_iff.1 na).1).2.2 (by have := (Wd.digsOk_iff.1 (Wd.numOk_iff.1 na).1).2.1; omega)
          have zs2 := sz3 (Wd.digsOk_iff.1 (Wd.numOk_iff.1 nb).1).2.2 (by have := (Wd.digsOk_iff.1 (Wd.numOk_iff.1 nb).1).2.1; omega)
          have hp := Wd.numOk_pos nb hz
          have HPOS := Lib.hid (show Wd.posT s.data.toList = some (Rat.divInt (Wd.valD a.data.toList : Nat) (Wd.valD b.data.toList : Nat)) by
            rw [Wd.posT_slash hl hn, na, nb, beq_eq_false_iff_ne.2 hz]; rfl)
          obtain ⟨z1, hz1⟩ : ∃ z : Int, z = (Wd.valD a.data.toList : Nat) := ⟨_, rfl⟩
          obtain ⟨z2, hz2⟩ : ∃ z : Int, z = (Wd.valD b.data.toList : Nat) := ⟨_, rfl⟩
          have hz0 : z2 ≠ 0 := by omega
          rw [← hz1] at HIA HPOS zs1
          rw [← hz2] at HIB HPOS zs2
          have HNR := hide (fun s2 neg2 A2 c2 l2 s3 neg3 A3 c3 l3 W (hW : Tab W) (g2 : IntF W s2 neg2 A2 c2 l2 z1) (g3 : IntF W s3 neg3 A3 c3 l3 z2) => newr_any (K := 3) s2 neg2 A2 c2 l2 s3 neg3 A3 c3 l3 z1 z2 W hW g2 g3 hz0 zs1 zs2 (by rw [lim_eq]; omega))
          rw [na] at HNA
          rw [nb] at HNB
          have e1 : (b.toList == [48]) = false := by rw [Lib.toList_data]; exact beq_eq_false_iff_ne.2 hz
          clear na nb hz hl hn hp zs1 zs2 hz1 hz2 hz0 HC1
          go_wp2_with (first | (go_at_call_of 93 (Value.string a); refine ((unhide HNA) _).mono ?_; rintro e w' ⟨rfl, rfl⟩) | (go_at_call_of 93 (Value.string b); refine ((unhide HNB) _).mono ?_; rintro e w' ⟨rfl, rfl⟩))
          refine ((unhide HIA) _).mono ?_
          rintro e V1 ⟨s2, neg2, A2, c2, l2, rfl, f2, hb⟩
          have F2 := hide f2
          clear f2
          replace NR := hide ((hb.block _ (lt_of_block (unhide NR))).trans (unhide NR))
          replace HB := Lib.hid (below_step' HB.out hb)
          clear hb
          go_wp2_with fail
          refine ((unhide HIB) _).mono ?_
          rintro e V2 ⟨s3, neg3, A3, c3, l3, rfl, f3, hb⟩
          have F3 := hide f3
          clear f3
          replace NR := hide ((hb.block _ (lt_of_block (unhide NR))).trans (unhide NR))
          replace HB := Lib.hid (below_step' HB.out hb)
          replace F2 := hide ((unhide F2).below hb)
          clear hb
          go_wp2_with fail
          refine ((unhide HNR) s2 neg2 A2 c2 l2 s3 neg3 A3 c3 l3 _ ((unhide HT).below HB.out) (unhide F2) (unhide F3)).mono ?_
          rintro e V3 ⟨s4, neg4, A4, c4, l4, s5, neg5, A5, c5, l5, rfl, f4, f5, hb⟩
          have F4 := hide f4; have F5 := hide f5
          clear f4 f5 F2 F3
          replace NR := hide ((hb.block _ (lt_of_block (unhide NR))).trans (unhide NR))
          replace HB := Lib.hid (below_step' HB.out hb)
          clear hb
          have r0 : V3.cell? ⟨w.heap.size, 0, none⟩ = some (.int .i64 0) := cells_of (unhide NR) 0
          have fr0 := unfrozen_of (unhide NR) 0
          have r1 : V3.cell? ⟨w.heap.size, 1, none⟩ = some (.bool false) := cells_of (unhide NR) 1
          have fr1 := unfrozen_of (unhide NR) 1
          have r2 : V3.cell? ⟨w.heap.size, 2, none⟩ = some (.slice none 0 0) := cells_of (unhide NR) 2
          have fr2 := unfrozen_of (unhide NR) 2
          have r3 : V3.cell? ⟨w.heap.size, 3, none⟩ = some (.int .i64 0) := cells_of (unhide NR) 3
          have fr3 := unfrozen_of (unhide NR) 3
          have r4 : V3.cell? ⟨w.heap.size, 4, none⟩ = some (.bool false) := cells_of (unhide NR) 4
          have fr4 := unfrozen_of (unhide NR) 4
          have r5 : V3.cell? ⟨w.heap.size, 5, none⟩ = some (.slice none 0 0) := cells_of (unhide NR) 5
          have fr5 := unfrozen_of (unhide NR) 5
          have qr := lt_of_block (unhide NR)
          go_wp2_with fail
          have HBLK := Lib.hid (unhide NR)
          exact bodyPost_ret (v := .tuple #[(Value.agg #[.int .i64 s4, .bool neg4, .slice A4 l4.length c4, .int .i64 s5, .bool neg5, .slice A5 l5.length c5]), .bool true]) (by simp [results, Tryd.results56, go_sem, r0, r1, r2, r3, r4, r5, qr]) rfl
            (.inr ⟨_, s4, neg4, A4, c4, l4, s5, neg5, A5, c5, l5, HPOS.out, rfl, (unhide F4).upto HBLK.out (noWord6 _ _ _ _ _ _ _ _ _ _) (set6_grown _ _ _ _ _ _ _ _), (unhide F5).upto HBLK.out (noWord6 _ _ _ _ _ _ _ _ _ _) (set6_grown _ _ _ _ _ _ _ _), HB.out.grown (set6_grown _ _ _ _ _ _ _ _) HB.out.size (fun k hk => by injection hk with hk; omega)⟩)
      · have HN := Lib.hid (show Wd.posT s.data.toList = none by rw [Wd.posT_slash hl hn, na, bnot nb]; rfl)
        rw [na] at HNA
        rw [bnot nb] at HNB
        clear na nb hl hn HC1
        have r0 : W1.cell? ⟨w.heap.size, 0, none⟩ = some (.int .i64 0) := cells_of (unhide NR) 0
        have fr0 := unfrozen_of (unhide NR) 0
        have r1 : W1.cell? ⟨w.heap.size, 1, none⟩ = some (.bool false) := cells_of (unhide NR) 1
        have fr1 := unfrozen_of (unhide NR) 1
        have r2 : W1.cell? ⟨w.heap.size, 2, none⟩ = some (.slice none 0 0) := cells_of (unhide NR) 2
        have fr2 := unfrozen_of (unhide NR) 2
        have r3 : W1.cell? ⟨w.heap.size, 3, none⟩ = some (.int .i64 0) := cells_of (unhide NR) 3
        have fr3 := unfrozen_of (unhide NR) 3
        have r4 : W1.cell? ⟨w.heap.size, 4, none⟩ = some (.bool false) := cells_of (unhide NR) 4
        have fr4 := unfrozen_of (unhide NR) 4
        have r5 : W1.cell? ⟨w.heap.size, 5, none⟩ = some (.slice none 0 0) := cells_of (unhide NR) 5
        have fr5 := unfrozen_of (unhide NR) 5
        have qr := lt_of_block (unhide NR)
        go_wp2_with (first | (go_at_call_of 93 (Value.string a); refine ((unhide HNA) _).mono ?_; rintro e w' ⟨rfl, rfl⟩) | (go_at_call_of 93 (Value.string b); refine ((unhide HNB) _).mono ?_; rintro e w' ⟨rfl, rfl⟩))
        exact bodyPost_ret (v := .tuple #[(Value.agg #[.int .i64 0, .bool false, .slice none 0 0, .int .i64 0, .bool false, .slice none 0 0]), .bool false]) (by simp [results, Tryd.results56, go_sem, r0, r1, r2, r3, r4, r5, qr]) rfl
          (.inl ⟨HN.out, rfl, HB.out.grown (set6_grown _ _ _ _ _ _ _ _) HB.out.size (fun k hk => by injection hk with hk; omega)⟩)
    · have HN := Lib.hid (show Wd.posT s.data.toList = none by rw [Wd.posT_slash hl hn, bnot na]; rfl)
      rw [bnot na] at HNA
      clear na hl hn HC1 HNB
      have r0 : W1.cell? ⟨w.heap.size, 0, none⟩ = some (.int .i64 0) := cells_of (unhide NR) 0
      have fr0 := unfrozen_of (unhide NR) 0
      have r1 : W1.cell? ⟨w.heap.size, 1, none⟩ = some (.bool false) := cells_of (unhide NR) 1
      have fr1 := unfrozen_of (unhide NR) 1
      have r2 : W1.cell? ⟨w.heap.size, 2, none⟩ = some (.slice none 0 0) := cells_of (unhide NR) 2
      have fr2 := unfrozen_of (unhide NR) 2
      have r3 : W1.cell? ⟨w.heap.size, 3, none⟩ = some (.int .i64 0) := cells_of (unhide NR) 3
      have fr3 := unfrozen_of (unhide NR) 3
      have r4 : W1.cell? ⟨w.heap.size, 4, none⟩ = some (.bool false) := cells_of (unhide NR) 4
      have fr4 := unfrozen_of (unhide NR) 4
      have r5 : W1.cell? ⟨w.heap.size, 5, none⟩ = some (.slice none 0 0) := cells_of (unhide NR) 5
      have fr5 := unfrozen_of (unhide NR) 5
      have qr := lt_of_block (unhide NR)
      go_wp2_with (first | (go_at_call_of 93 (Value.string a); refine ((unhide HNA) _).mono ?_; rintro e w' ⟨rfl, rfl⟩))
      exact bodyPost_ret (v := .tuple #[(Value.agg #[.int .i64 0, .bool false, .slice none 0 0, .int .i64 0, .bool false, .slice none 0 0]), .bool false]) (by simp [results, Tryd.results56, go_sem, r0, r1, r2, r3, r4, r5, qr]) rfl
        (.inl ⟨HN.out, rfl, HB.out.grown (set6_grown _ _ _ _ _ _ _ _) HB.out.size (fun k hk => by injection hk with hk; omega)⟩)
  · go_wp2_with fail
    refine ((unhide HC2) _).mono ?_
    rintro e W2 ⟨a, b, f, rfl, hb, hcase⟩
    replace NR := hide ((hb.block _ (lt_of_block (unhide NR))).trans (unhide NR))
    replace HB := Lib.hid (below_step' HB.out hb)
    clear hb
    rcases hcase with ⟨rfl, hl, hn2⟩ | ⟨rfl, ha, hbn, hn2⟩
    · have hlen : s.size = a.size + 1 + b.size := by rw [← sizeB, hl, List.length_append, List.length_cons, sizeB, sizeB]; omega
      have HNA := hide (fun W => isNumeral_any a W (by have := unhide HSZ; omega))
      have HNB := hide (fun W => isDigits_any b 12 W (by have := unhide HSZ; omega))
      clear hlen
      by_cases na : Wd.numOk a.data.toList = true
      · by_cases nb : Wd.digsOk b.data.toList 12 = true
        · obtain ⟨g1, g2, g3⟩ := Wd.digsOk_iff.1 nb
          obtain ⟨g4, g5, g6⟩ := Wd.digsOk_iff.1 (Wd.numOk_iff.1 na).1
          rw [sizeB] at g2 g5
          have hcat := all_cat g6 g3
          have hb12 : b.size ≤ 12 := by omega
          have hl40 : a.size ≤ 20 := by omega
          have HPOS := Lib.hid (show Wd.posT s.data.toList = some (Rat.divInt (Wd.valD (a.data.toList ++ b.data.toList) : Nat) ((10 ^ b.size : Nat) : Int)) by
            rw [Wd.posT_dot hn hl hn2, na, nb, sizeB]; rfl)
          rw [na] at HNA
          rw [nb] at HNB
          clear na nb g1 g2 g3 g4 g5 g6 hl hn hn2
          have HIA := hide (fun W => integer_any (a ++ b) W (by rw [catB]; exact hcat) (by rw [size_cat]; omega))
          rw [catB] at HIA
          have hadd : ∀ W, (Op.stringOp .add a b).run Tryd.prog W = .ok (.string (a ++ b)) W := fun W => run_string_add_sum W a b (by omega)
          have hno : ¬ (a.size + b.size > 9223372036854775807) := by omega
          obtain ⟨y, hy⟩ : ∃ y, a ++ b = y := ⟨_, rfl⟩
          rw [hy] at HIA hadd
          clear hy
          have zs1 := sz3 hcat (by rw [List.length_append, sizeB, sizeB]; omega)
          have zs2 := sz_pow10 (n := b.size) hb12
          obtain ⟨z1, hz1⟩ : ∃ z : Int, z = (Wd.valD (a.data.toList ++ b.data.toList) : Nat) := ⟨_, rfl⟩
          obtain ⟨z2, hz2⟩ : ∃ z : Int, z = ((10 ^ b.size : Nat) : Int) := ⟨_, rfl⟩
          have hz0 : z2 ≠ 0 := by have := Nat.pow_pos (n := b.size) (show 0 < 10 by decide); omega
          have hz3 : (10 : Int) ^ b.size = z2 := by rw [hz2, Int.natCast_pow]; rfl
          rw [← hz1] at HIA HPOS zs1
          rw [← hz2] at HPOS zs2
          have HNR := hide (fun s2 neg2 A2 c2 l2 s3 neg3 A3 c3 l3 W (hW : Tab W) (g2 : IntF W s2 neg2 A2 c2 l2 z1) (g3 : IntF W s3 neg3 A3 c3 l3 z2) => newr_any (K := 3) s2 neg2 A2 c2 l2 s3 neg3 A3 c3 l3 z1 z2 W hW g2 g3 hz0 zs1 zs2 (by rw [lim_eq]; omega))
          have HN10 := hide (fun W => newInt_any 10 (by omega) (by omega) W)
          have HPW := hide (fun s2 neg2 A2 c2 l2 W (g2 : IntF W s2 neg2 A2 c2 l2 10) => ipow_any s2 neg2 A2 c2 l2 10 b.size 1 W g2 sz_ten (by rw [lim_eq]; omega) (by rw [lim_eq]; omega) (by omega))
          rw [hz3] at HPW
          clear hcat hb12 hl40 zs1 zs2 hz1 hz2 hz0 hz3 HC1 HC2
          go_wp2_with (first | (go_at_call_of 93 (Value.string a); refine ((unhide HNA) _).mono ?_; rintro e w' ⟨rfl, rfl⟩) | (go_at_call 95; refine ((unhide HNB) _).mono ?_; rintro e w' ⟨rfl, rfl⟩))
          refine ((unhide HN10) _).mono ?_
          rintro e V2 ⟨s2, neg2, A2, c2, l2, rfl, f2, hb⟩
          have F2 := hide f2
          clear f2
          replace NR := hide ((hb.block _ (lt_of_block (unhide NR))).trans (unhide NR))
          replace HB := Lib.hid (below_step' HB.out hb)
          clear hb
          go_wp2_with fail
          refine ((unhide HPW) s2 neg2 A2 c2 l2 _ (unhide F2)).mono ?_
          rintro e V3 ⟨s3, neg3, A3, c3, l3, rfl, f3, hb⟩
          have F3 := hide f3
          clear f3 F2
          replace NR := hide ((hb.block _ (lt_of_block (unhide NR))).trans (unhide NR))
          replace HB := Lib.hid (below_step' HB.out hb)
          clear hb
          go_upto_region 10 with fail
          have nu := heap_alloc_new V3 (.cells #[.int .i64 s3, .bool neg3, .slice A3 l3.length c3] 58)
          have hb := below_alloc (Below.refl V3.heap.size V3) (.cells #[.int .i64 s3, .bool neg3, .slice A3 l3.length c3] 58)
          generalize V3.alloc (.cells #[.int .i64 s3, .bool neg3, .slice A3 l3.length c3] 58) = V4 at *
          obtain ⟨bu, hbu⟩ : ∃ b, b = V3.heap.size := ⟨_, rfl⟩
          rw [← hbu] at nu ⊢
          have obu : w.heap.size < bu := by rw [hbu]; exact lt_of_block (unhide NR)
          clear hbu
          replace NR := hide ((hb.block _ (lt_of_block (unhide NR))).trans (unhide NR))
          replace HB := Lib.hid (below_step' HB.out hb)
          replace F3 := hide ((unhide F3).below hb)
          clear hb
          have ku_0 : V4.cell? ⟨bu, 0, none⟩ = some (.int .i64 s3) := cells_of nu 0
          have ku_1 : V4.cell? ⟨bu, 1, none⟩ = some (.bool neg3) := cells_of nu 1
          have ku_2 : V4.cell? ⟨bu, 2, none⟩ = some (.slice A3 l3.length c3) := cells_of nu 2
          have qu := lt_of_block nu
          have r0 : V4.cell? ⟨w.heap.size, 0, none⟩ = some (.int .i64 0) := cells_of (unhide NR) 0
          have fr0 := unfrozen_of (unhide NR) 0
          have r1 : V4.cell? ⟨w.heap.size, 1, none⟩ = some (.bool false) := cells_of (unhide NR) 1
          have fr1 := unfrozen_of (unhide NR) 1
          have r2 : V4.cell? ⟨w.heap.size, 2, none⟩ = some (.slice none 0 0) := cells_of (unhide NR) 2
          have fr2 := unfrozen_of (unhide NR) 2
          have r3 : V4.cell? ⟨w.heap.size, 3, none⟩ = some (.int .i64 0) := cells_of (unhide NR) 3
          have fr3 := unfrozen_of (unhide NR) 3
          have r4 : V4.cell? ⟨w.heap.size, 4, none⟩ = some (.bool false) := cells_of (unhide NR) 4
          have fr4 := unfrozen_of (unhide NR) 4
          have r5 : V4.cell? ⟨w.heap.size, 5, none⟩ = some (.slice none 0 0) := cells_of (unhide NR) 5
          have fr5 := unfrozen_of (unhide NR) 5
          have qr := lt_of_block (unhide NR)
          clear nu
          go_region_with (first | (go_at_call 94; refine ((unhide HIA) _).mono ?_; rintro e w' ⟨s4, neg4, A4, c4, l4, rfl, f4, hb4⟩; have hbw := below_step (w := V4) (by (first | with_reducible assumption | (repeat (first | with_reducible exact Below.refl _ _ | with_reducible assumption | refine Below.drew ?_ | (refine Below.alloc ?_ (by simp <;> omega) _) | refine belowN ?_ _)))) hb4; obtain ⟨hc, hfz⟩ := bcell hbw) | (go_at_call 30; refine ((unhide HNR) s4 neg4 A4 c4 l4 s3 neg3 A3 c3 l3 _ ((unhide HT).below (below_step' HB.out (by (first | with_reducible assumption | (repeat (first | with_reducible exact Below.refl _ _ | with_reducible assumption | refine Below.drew ?_ | (refine Below.alloc ?_ (by simp <;> omega) _) | refine belowN ?_ _)))))) (by first | exact f4 | exact IntF.below f4 (by (first | with_reducible assumption | (repeat (first | with_reducible exact Below.refl _ _ | with_reducible assumption | refine Below.drew ?_ | (refine Below.alloc ?_ (by simp <;> omega) _) | refine belowN ?_ _))))) (IntF.below (unhide F3) (by (first | with_reducible assumption | (repeat (first | with_reducible exact Below.refl _ _ | with_reducible assumption | refine Below.drew ?_ | (refine Below.alloc ?_ (by simp <;> omega) _) | refine belowN ?_ _)))))).mono ?_; rintro e w' ⟨s5, neg5, A5, c5, l5, s6, neg6, A6, c6, l6, rfl, f5, f6, hb5⟩; have hbw := below_step (w := V4) (by (first | with_reducible assumption | (repeat (first | with_reducible exact Below.refl _ _ | with_reducible assumption | refine Below.drew ?_ | (refine Below.alloc ?_ (by simp <;> omega) _) | refine belowN ?_ _)))) hb5; obtain ⟨hc, hfz⟩ := bcell hbw))
          all_goals
            replace NR := hide ((hbw.block _ (lt_of_block (unhide NR))).trans (unhide NR))
            replace HB := Lib.hid (below_step' HB.out hbw)
            have HBLK := Lib.hid (unhide NR)
            have F5 := hide f5; have F6 := hide f6
            go_wp2_with fail
            exact bodyPost_ret (v := .tuple #[(Value.agg #[.int .i64 s5, .bool neg5, .slice A5 l5.length c5, .int .i64 s6, .bool neg6, .slice A6 l6.length c6]), .bool true]) (by simp [results, Tryd.results56, go_sem, hc, r0, r1, r2, r3, r4, r5, qr]) rfl
              (.inr ⟨_, s5, neg5, A5, c5, l5, s6, neg6, A6, c6, l6, HPOS.out, rfl, (unhide F5).upto HBLK.out (noWord6 _ _ _ _ _ _ _ _ _ _) (set6_grown _ _ _ _ _ _ _ _), (unhide F6).upto HBLK.out (noWord6 _ _ _ _ _ _ _ _ _ _) (set6_grown _ _ _ _ _ _ _ _), HB.out.grown (set6_grown _ _ _ _ _ _ _ _) HB.out.size (fun k hk => by injection hk with hk; omega)⟩)
        · have HN := Lib.hid (show Wd.posT s.data.toList = none by rw [Wd.posT_dot hn hl hn2, na, bnot nb]; rfl)
          rw [na] at HNA
          rw [bnot nb] at HNB
          clear na nb hl hn hn2 HC1 HC2
          have r0 : W2.cell? ⟨w.heap.size, 0, none⟩ = some (.int .i64 0) := cells_of (unhide NR) 0
          have fr0 := unfrozen_of (unhide NR) 0
          have r1 : W2.cell? ⟨w.heap.size, 1, none⟩ = some (.bool false) := cells_of (unhide NR) 1
          have fr1 := unfrozen_of (unhide NR) 1
          have r2 : W2.cell? ⟨w.heap.size, 2, none⟩ = some (.slice none 0 0) := cells_of (unhide NR) 2
          have fr2 := unfrozen_of (unhide NR) 2
          have r3 : W2.cell? ⟨w.heap.size, 3, none⟩ = some (.int .i64 0) := cells_of (unhide NR) 3
          have fr3 := unfrozen_of (unhide NR) 3
          have r4 : W2.cell? ⟨w.heap.size, 4, none⟩ = some (.bool false) := cells_of (unhide NR) 4
          have fr4 := unfrozen_of (unhide NR) 4
          have r5 : W2.cell? ⟨w.heap.size, 5, none⟩ = some (.slice none 0 0) := cells_of (unhide NR) 5
          have fr5 := unfrozen_of (unhide NR) 5
          have qr := lt_of_block (unhide NR)
          go_wp2_with (first | (go_at_call_of 93 (Value.string a); refine ((unhide HNA) _).mono ?_; rintro e w' ⟨rfl, rfl⟩) | (go_at_call 95; refine ((unhide HNB) _).mono ?_; rintro e w' ⟨rfl, rfl⟩))
          exact bodyPost_ret (v := .tuple #[(Value.agg #[.int .i64 0, .bool false, .slice none 0 0, .int .i64 0, .bool false, .slice none 0 0]), .bool false]) (by simp [results, Tryd.results56, go_sem, r0, r1, r2, r3, r4, r5, qr]) rfl
            (.inl ⟨HN.out, rfl, HB.out.grown (set6_grown _ _ _ _ _ _ _ _) HB.out.size (fun k hk => by injection hk with hk; omega)⟩)
      · have HN := Lib.hid (show Wd.posT s.data.toList = none by rw [Wd.posT_dot hn hl hn2, bnot na]; rfl)
        rw [bnot na] at HNA
        clear na hl hn hn2 HC1 HC2 HNB
        have r0 : W2.cell? ⟨w.heap.size, 0, none⟩ = some (.int .i64 0) := cells_of (unhide NR) 0
        have fr0 := unfrozen_of (unhide NR) 0
        have r1 : W2.cell? ⟨w.heap.size, 1, none⟩ = some (.bool false) := cells_of (unhide NR) 1
        have fr1 := unfrozen_of (unhide NR) 1
        have r2 : W2.cell? ⟨w.heap.size, 2, none⟩ = some (.slice none 0 0) := cells_of (unhide NR) 2
        have fr2 := unfrozen_of (unhide NR) 2
        have r3 : W2.cell? ⟨w.heap.size, 3, none⟩ = some (.int .i64 0) := cells_of (unhide NR) 3
        have fr3 := unfrozen_of (unhide NR) 3
        have r4 : W2.cell? ⟨w.heap.size, 4, none⟩ = some (.bool false) := cells_of (unhide NR) 4
        have fr4 := unfrozen_of (unhide NR) 4
        have r5 : W2.cell? ⟨w.heap.size, 5, none⟩ = some (.slice none 0 0) := cells_of (unhide NR) 5
        have fr5 := unfrozen_of (unhide NR) 5
        have qr := lt_of_block (unhide NR)
        go_wp2_with (first | (go_at_call_of 93 (Value.string a); refine ((unhide HNA) _).mono ?_; rintro e w' ⟨rfl, rfl⟩))
        exact bodyPost_ret (v := .tuple #[(Value.agg #[.int .i64 0, .bool false, .slice none 0 0, .int .i64 0, .bool false, .slice none 0 0]), .bool false]) (by simp [results, Tryd.results56, go_sem, r0, r1, r2, r3, r4, r5, qr]) rfl
          (.inl ⟨HN.out, rfl, HB.out.grown (set6_grown _ _ _ _ _ _ _ _) HB.out.size (fun k hk => by injection hk with hk; omega)⟩)
    · have HNA := hide (fun W => isNumeral_any a W (by have := unhide HSZ; rw [ha]; omega))
      by_cases na : Wd.numOk a.data.toList = true
      · obtain ⟨g4, g5, g6⟩ := Wd.digsOk_iff.1 (Wd.numOk_iff.1 na).1
        rw [sizeB] at g5
        have hb0 : b.size = 0 := by rw [← sizeB, hbn]; rfl
        have hcat : (a.data.toList ++ b.data.toList).all Wd.isDg = true := by rw [hbn, List.append_nil]; exact g6
        have hb12 : b.size ≤ 12 := by omega
        have hl40 : a.size ≤ 20 := by omega
        have HPOS := Lib.hid (show Wd.posT s.data.toList = some (Rat.divInt (Wd.valD (a.data.toList ++ b.data.toList) : Nat) ((10 ^ b.size : Nat) : Int)) by
          rw [Wd.posT_plain hn hn2, ← ha, na, hbn, List.append_nil, hb0]; rfl)
        rw [na] at HNA
        clear na g4 g5 g6 ha hbn hn hn2 hb0
        have HIA := hide (fun W => integer_any (a ++ b) W (by rw [catB]; exact hcat) (by rw [size_cat]; omega))
        rw [catB] at HIA
        have hadd : ∀ W, (Op.stringOp .add a b).run Tryd.prog W = .ok (.string (a ++ b)) W := fun W => run_string_add_sum W a b (by omega)
        have hno : ¬ (a.size + b.size > 9223372036854775807) := by omega
        obtain ⟨y, hy⟩ : ∃ y, a ++ b = y := ⟨_, rfl⟩
        rw [hy] at HIA hadd
        clear hy
        have zs1 := sz3 hcat (by rw [List.length_append, sizeB, sizeB]; omega)
        have zs2 := sz_pow10 (n := b.size) hb12
        obtain ⟨z1, hz1⟩ : ∃ z : Int, z = (Wd.valD (a.data.toList ++ b.data.toList) : Nat) := ⟨_, rfl⟩
        obtain ⟨z2, hz2⟩ : ∃ z : Int, z = ((10 ^ b.size : Nat) : Int) := ⟨_, rfl⟩
        have hz0 : z2 ≠ 0 := by have := Nat.pow_pos (n := b.size) (show 0 < 10 by decide); omega
        have hz3 : (10 : Int) ^ b.size = z2 := by rw [hz2, Int.natCast_pow]; rfl
        rw [← hz1] at HIA HPOS zs1
        rw [← hz2] at HPOS zs2
        have HNR := hide (fun s2 neg2 A2 c2 l2 s3 neg3 A3 c3 l3 W (hW : Tab W) (g2 : IntF W s2 neg2 A2 c2 l2 z1) (g3 : IntF W s3 neg3 A3 c3 l3 z2) => newr_any (K := 3) s2 neg2 A2 c2 l2 s3 neg3 A3 c3 l3 z1 z2 W hW g2 g3 hz0 zs1 zs2 (by rw [lim_eq]; omega))
        have HN10 := hide (fun W => newInt_any 10 (by omega) (by omega) W)
        have HPW := hide (fun s2 neg2 A2 c2 l2 W (g2 : IntF W s2 neg2 A2 c2 l2 10) => ipow_any s2 neg2 A2 c2 l2 10 b.size 1 W g2 sz_ten (by rw [lim_eq]; omega) (by rw [lim_eq]; omega) (by omega))
        rw [hz3] at HPW
        clear hcat hb12 hl40 zs1 zs2 hz1 hz2 hz0 hz3 HC1 HC2
        go_wp2_with (first | (go_at_call_of 93 (Value.string a); refine ((unhide HNA) _).mono ?_; rintro e w' ⟨rfl, rfl⟩))
        refine ((unhide HN10) _).mono ?_
        rintro e V2 ⟨s2, neg2, A2, c2, l2, rfl, f2, hb⟩
        have F2 := hide f2
        clear f2
        replace NR := hide ((hb.block _ (lt_of_block (unhide NR))).trans (unhide NR))
        replace HB := Lib.hid (below_step' HB.out hb)
        clear hb
        go_wp2_with fail
        refine ((unhide HPW) s2 neg2 A2 c2 l2 _ (unhide F2)).mono ?_
        rintro e V3 ⟨s3, neg3, A3, c3, l3, rfl, f3, hb⟩
        have F3 := hide f3
        clear f3 F2
        replace NR := hide ((hb.block _ (lt_of_block (unhide NR))).trans (unhide NR))
        replace HB := Lib.hid (below_step' HB.out hb)
        clear hb
        go_upto_region 10 with fail
        have nu := heap_alloc_new V3 (.cells #[.int .i64 s3, .bool neg3, .slice A3 l3.length c3] 58)
        have hb := below_alloc (Below.refl V3.heap.size V3) (.cells #[.int .i64 s3, .bool neg3, .slice A3 l3.length c3] 58)
        generalize V3.alloc (.cells #[.int .i64 s3, .bool neg3, .slice A3 l3.length c3] 58) = V4 at *
        obtain ⟨bu, hbu⟩ : ∃ b, b = V3.heap.size := ⟨_, rfl⟩
        rw [← hbu] at nu ⊢
        have obu : w.heap.size < bu := by rw [hbu]; exact lt_of_block (unhide NR)
        clear hbu
        replace NR := hide ((hb.block _ (lt_of_block (unhide NR))).trans (unhide NR))
        replace HB := Lib.hid (below_step' HB.out hb)
        replace F3 := hide ((unhide F3).below hb)
        clear hb
        have ku_0 : V4.cell? ⟨bu, 0, none⟩ = some (.int .i64 s3) := cells_of nu 0
        have ku_1 : V4.cell? ⟨bu, 1, none⟩ = some (.bool neg3) := cells_of nu 1
        have ku_2 : V4.cell? ⟨bu, 2, none⟩ = some (.slice A3 l3.length c3) := cells_of nu 2
        have qu := lt_of_block nu
        have r0 : V4.cell? ⟨w.heap.size, 0, none⟩ = some (.int .i64 0) := cells_of (unhide NR) 0
        have fr0 := unfrozen_of (unhide NR) 0
        have r1 : V4.cell? ⟨w.heap.size, 1, none⟩ = some (.bool false) := cells_of (unhide NR) 1
        have fr1 := unfrozen_of (unhide NR) 1
        have r2 : V4.cell? ⟨w.heap.size, 2, none⟩ = some (.slice none 0 0) := cells_of (unhide NR) 2
        have fr2 := unfrozen_of (unhide NR) 2
        have r3 : V4.cell? ⟨w.heap.size, 3, none⟩ = some (.int .i64 0) := cells_of (unhide NR) 3
        have fr3 := unfrozen_of (unhide NR) 3
        have r4 : V4.cell? ⟨w.heap.size, 4, none⟩ = some (.bool false) := cells_of (unhide NR) 4
        have fr4 := unfrozen_of (unhide NR) 4
        have r5 : V4.cell? ⟨w.heap.size, 5, none⟩ = some (.slice none 0 0) := cells_of (unhide NR) 5
        have fr5 := unfrozen_of (unhide NR) 5
        have qr := lt_of_block (unhide NR)
        clear nu
        go_region_with (first | (go_at_call 94; refine ((unhide HIA) _).mono ?_; rintro e w' ⟨s4, neg4, A4, c4, l4, rfl, f4, hb4⟩; have hbw := below_step (w := V4) (by (first | with_reducible assumption | (repeat (first | with_reducible exact Below.refl _ _ | with_reducible assumption | refine Below.drew ?_ | (refine Below.alloc ?_ (by simp <;> omega) _) | refine belowN ?_ _)))) hb4; obtain ⟨hc, hfz⟩ := bcell hbw) | (go_at_call 30; refine ((unhide HNR) s4 neg4 A4 c4 l4 s3 neg3 A3 c3 l3 _ ((unhide HT).below (below_step' HB.out (by (first | with_reducible assumption | (repeat (first | with_reducible exact Below.refl _ _ | with_reducible assumption | refine Below.drew ?_ | (refine Below.alloc ?_ (by simp <;> omega) _) | refine belowN ?_ _)))))) (by first | exact f4 | exact IntF.below f4 (by (first | with_reducible assumption | (repeat (first | with_reducible exact Below.refl _ _ | with_reducible assumption | refine Below.drew ?_ | (refine Below.alloc ?_ (by simp <;> omega) _) | refine belowN ?_ _))))) (IntF.below (unhide F3) (by (first | with_reducible assumption | (repeat (first | with_reducible exact Below.refl _ _ | with_reducible assumption | refine Below.drew ?_ | (refine Below.alloc ?_ (by simp <;> omega) _) | refine belowN ?_ _)))))).mono ?_; rintro e w' ⟨s5, neg5, A5, c5, l5, s6, neg6, A6, c6, l6, rfl, f5, f6, hb5⟩; have hbw := below_step (w := V4) (by (first | with_reducible assumption | (repeat (first | with_reducible exact Below.refl _ _ | with_reducible assumption | refine Below.drew ?_ | (refine Below.alloc ?_ (by simp <;> omega) _) | refine belowN ?_ _)))) hb5; obtain ⟨hc, hfz⟩ := bcell hbw))
        all_goals
          replace NR := hide ((hbw.block _ (lt_of_block (unhide NR))).trans (unhide NR))
          replace HB := Lib.hid (below_step' HB.out hbw)
          have HBLK := Lib.hid (unhide NR)
          have F5 := hide f5; have F6 := hide f6
          go_wp2_with fail
          exact bodyPost_ret (v := .tuple #[(Value.agg #[.int .i64 s5, .bool neg5, .slice A5 l5.length c5, .int .i64 s6, .bool neg6, .slice A6 l6.length c6]), .bool true]) (by simp [results, Tryd.results56, go_sem, hc, r0, r1, r2, r3, r4, r5, qr]) rfl
            (.inr ⟨_, s5, neg5, A5, c5, l5, s6, neg6, A6, c6, l6, HPOS.out, rfl, (unhide F5).upto HBLK.out (noWord6 _ _ _ _ _ _ _ _ _ _) (set6_grown _ _ _ _ _ _ _ _), (unhide F6).upto HBLK.out (noWord6 _ _ _ _ _ _ _ _ _ _) (set6_grown _ _ _ _ _ _ _ _), HB.out.grown (set6_grown _ _ _ _ _ _ _ _) HB.out.size (fun k hk => by injection hk with hk; omega)⟩)
      · have HN := Lib.hid (show Wd.posT s.data.toList = none by rw [Wd.posT_plain hn hn2, ← ha, bnot na]; rfl)
        rw [bnot na] at HNA
        clear na ha hbn hn hn2 HC1 HC2
        have r0 : W2.cell? ⟨w.heap.size, 0, none⟩ = some (.int .i64 0) := cells_of (unhide NR) 0
        have fr0 := unfrozen_of (unhide NR) 0
        have r1 : W2.cell? ⟨w.heap.size, 1, none⟩ = some (.bool false) := cells_of (unhide NR) 1
        have fr1 := unfrozen_of (unhide NR) 1
        have r2 : W2.cell? ⟨w.heap.size, 2, none⟩ = some (.slice none 0 0) := cells_of (unhide NR) 2
        have fr2 := unfrozen_of (unhide NR) 2
        have r3 : W2.cell? ⟨w.heap.size, 3, none⟩ = some (.int .i64 0) := cells_of (unhide NR) 3
        have fr3 := unfrozen_of (unhide NR) 3
        have r4 : W2.cell? ⟨w.heap.size, 4, none⟩ = some (.bool false) := cells_of (unhide NR) 4
        have fr4 := unfrozen_of (unhide NR) 4
        have r5 : W2.cell? ⟨w.heap.size, 5, none⟩ = some (.slice none 0 0) := cells_of (unhide NR) 5
        have fr5 := unfrozen_of (unhide NR) 5
        have qr := lt_of_block (unhide NR)
        go_wp2_with (first | (go_at_call_of 93 (Value.string a); refine ((unhide HNA) _).mono ?_; rintro e w' ⟨rfl, rfl⟩))
        exact bodyPost_ret (v := .tuple #[(Value.agg #[.int .i64 0, .bool false, .slice none 0 0, .int .i64 0, .bool false, .slice none 0 0]), .bool false]) (by simp [results, Tryd.results56, go_sem, r0, r1, r2, r3, r4, r5, qr]) rfl
          (.inl ⟨HN.out, rfl, HB.out.grown (set6_grown _ _ _ _ _ _ _ _) HB.out.size (fun k hk => by injection hk with hk; omega)⟩)

end Go.Proofs.YtadclbankpmebaaDoor
/- The simplest number between two: on natural numbers. -/
namespace Go.Proofs.YtadclbankpmebaaDoor
namespace Wd

/-- Numerator and denominator of the simplest number from a/b to c/d. -/
def simp : Nat → Nat → Nat → Nat → Nat → Nat × Nat
  | 0, _, _, _, _ => (0, 1)
  | f + 1, a, b, c, d => if b = 1 then (a, 1) else if a / b < c / d then (a / b + 1, 1)
    else (a / b * (simp f d (c - a / b * d) b (a - a / b * b)).1 + (simp f d (c - a / b * d) b (a - a / b * b)).2, (simp f d (c - a / b * d) b (a - a / b * b)).1)

structure SimpOk (a b c d : Nat) : Prop where
  pa : 0 < a
  pb : 0 < b
  pc : 0 < c
  pd : 0 < d
  co : a.Coprime b
  co2 : c.Coprime d
  le : a * d ≤ c * b

theorem sub_div_mul (a b : Nat) : a - a / b * b = a % b := by
  have := Nat.div_add_mod a b
  rw [Nat.mul_comm] at this
  omega
theorem SimpOk.step {a b c d : Nat} (h : SimpOk a b c d) (hb : b ≠ 1) (hk : ¬ a / b < c / d) :
    SimpOk d (c - a / b * d) b (a - a / b * b) ∧ c / d = a / b ∧ c - a / b * d = c % d ∧ c - a / b * d < d ∧ a - a / b * b < b := by
  have ha := h.pa; have hb0 := h.pb; have hc := h.pc; have hd := h.pd
  have e1 := Nat.div_add_mod a b
  have r0 : a % b ≠ 0 := fun e => by
    have hdv := Nat.dvd_of_mod_eq_zero e
    have := Nat.Coprime.eq_one_of_dvd h.co.symm hdv
    exact hb this
  have hkd : a / b ≤ c / d := by
    rw [Nat.le_div_iff_mul_le hd]
    have h2 : a / b * b * d ≤ c * b := Nat.le_trans (Nat.mul_le_mul_right _ (Nat.div_mul_le_self a b)) h.le
    rw [Nat.mul_right_comm] at h2
    exact Nat.le_of_mul_le_mul_right h2 hb0
  have hq : c / d = a / b := by omega
  have e2 : c - a / b * d = c % d := by rw [← hq]; exact sub_div_mul c d
  have e3 := sub_div_mul a b
  have e4 := Nat.div_add_mod c d
  have hle : a % b * d ≤ c % d * b := by
    have hle := h.le
    rw [hq] at e4
    generalize a / b = k at *
    generalize a % b = r at *
    generalize c % d = s at *
    subst e1 e4
    rw [Nat.add_mul, Nat.add_mul] at hle
    have : b * k * d = d * k * b := by rw [Nat.mul_comm b k, Nat.mul_assoc, Nat.mul_comm b d, ← Nat.mul_assoc, Nat.mul_comm k d]
    omega
  have s0 : 0 < c % d := by
    rcases Nat.eq_zero_or_pos (c % d) with e | e
    · rw [e, Nat.zero_mul] at hle
      have := Nat.mul_pos (Nat.pos_of_ne_zero r0) hd
      omega
    · exact e
  rw [e2, e3]
  refine ⟨⟨hd, s0, hb0, Nat.pos_of_ne_zero r0, ?_, ?_, ?_⟩, hq, rfl, Nat.mod_lt _ hd, Nat.mod_lt _ hb0⟩
  · have := h.co2
    unfold Nat.Coprime at *
    rw [Nat.gcd_comm, ← Nat.gcd_rec, Nat.gcd_comm]; exact this
  · have := h.co
    unfold Nat.Coprime at *
    rw [Nat.gcd_comm, ← Nat.gcd_rec, Nat.gcd_comm]; exact this
  · rw [Nat.mul_comm, Nat.mul_comm b]; exact hle
/-- A fraction of natural numbers. -/
def fr (n d : Nat) : Rat := Rat.divInt (n : Int) (d : Int)
end Wd
end Go.Proofs.YtadclbankpmebaaDoor
/- Continued fractions, on ints. -/
namespace Go.Proofs.YtadclbankpmebaaDoor
namespace Wd

/-- The continued fraction of n/d. -/
def cf : Nat → Int → Int → List Int
  | 0, _, _ => []
  | f + 1, n, d => if d = 0 then [] else n / d :: cf f d (n % d)
theorem cf_len : ∀ (f : Nat) (n d : Int), (cf f n d).length ≤ f
  | 0, _, _ => Nat.le_refl _
  | f + 1, n, d => by
    unfold cf
    split
    · exact Nat.zero_le _
    · have := cf_len f d (n % d)
      rw [List.length_cons]; omega
theorem cf_zero (f : Nat) (n : Int) : cf f n 0 = [] := by
  cases f with
  | zero => rfl
  | succ f => simp [cf]
/-- Ahead of a round: what has been told and what is left. -/
structure CfInv (L l : List Int) (n d : Int) : Prop where
  ok : ∃ f : Nat, d < f ∧ l ++ cf f n d = L ∧ L.length ≤ l.length + f
  d0 : 0 ≤ d
  nb : -1000000000000 ≤ n ∧ n ≤ 1000000000000
  db : d ≤ 1000000000000
theorem CfInv.start {n d : Int} (h : okR n d) : CfInv (cf (d.toNat + 1) n d) [] n d := by
  obtain ⟨h1, h2, h3, h4, _⟩ := h
  exact ⟨⟨d.toNat + 1, by omega, rfl, by have := cf_len (d.toNat + 1) n d; simpa using this⟩, by omega, ⟨by omega, by omega⟩, by omega⟩
theorem CfInv.step {L l : List Int} {n d : Int} (h : CfInv L l n d) (hd : 0 < d) : CfInv L (l ++ [n / d]) d (n % d) ∧ n - n / d * d = n % d ∧ -1000000000000 ≤ n / d ∧ n / d ≤ 1000000000000 ∧ -2000000000000 ≤ n / d * d ∧ n / d * d ≤ 2000000000000 := by
  obtain ⟨⟨f, h1, h2, h3⟩, h4, h5, h6⟩ := h
  have e1 := Int.emod_nonneg n (show d ≠ 0 by omega)
  have e2 := Int.emod_lt_of_pos n hd
  have e3 := Int.mul_ediv_add_emod n d
  rw [Int.mul_comm] at e3
  have lo : -1000000000000 ≤ n / d := by
    rw [Int.le_ediv_iff_mul_le hd]
    omega
  have hi : n / d ≤ 1000000000000 := by
    rcases Int.lt_or_le n 0 with hn | hn
    · have : n / d < 0 := Int.ediv_neg_of_neg_of_pos hn hd
      omega
    · have := Int.ediv_le_self d hn
      omega
  have e4 : n - n / d * d = n % d ∧ -2000000000000 ≤ n / d * d ∧ n / d * d ≤ 2000000000000 := by
    generalize n / d * d = t at *
    generalize n % d = r at *
    exact ⟨by omega, by omega, by omega⟩
  refine ⟨⟨?_, e1, by omega, by omega⟩, e4.1, lo, hi, e4.2.1, e4.2.2⟩
  cases f with
  | zero => omega
  | succ f =>
    refine ⟨f, by omega, ?_, by simp; omega⟩
    rw [← h2]
    simp only [cf, if_neg (show ¬ d = 0 by omega), List.append_assoc, List.cons_append, List.nil_append]
theorem CfInv.done {L l : List Int} {n : Int} (h : CfInv L l n 0) : l = L := by
  obtain ⟨⟨f, h1, h2, h3⟩, _, _, _⟩ := h
  rw [cf_zero, List.append_nil] at h2
  exact h2
theorem CfInv.len {L l : List Int} {n d : Int} (h : CfInv L l n d) (hL : L.length ≤ 1000000000001) : l.length ≤ 1000000000001 := by
  obtain ⟨⟨f, h1, h2, h3⟩, _, _, _⟩ := h
  rw [← h2, List.length_append] at hL
  omega
end Wd
end Go.Proofs.YtadclbankpmebaaDoor
/- The number of a continued fraction. -/
namespace Go.Proofs.YtadclbankpmebaaDoor
namespace Wd

/-- The number whose continued fraction a list is. -/
def joinQ : List Int → Rat
  | [] => 0
  | [a] => Rat.divInt a 1
  | a :: b :: l => Rat.divInt a 1 + (joinQ (b :: l))⁻¹
theorem joinQ_cons (a : Int) {l : List Int} (h : l ≠ []) : joinQ (a :: l) = Rat.divInt a 1 + (joinQ l)⁻¹ := by
  cases l with
  | nil => exact absurd rfl h
  | cons b l => rfl
/-- An int and what is behind it. -/
theorem step_parts (a : Int) (x : Rat) (hx : 0 < x.num) : (Rat.divInt a 1 + x⁻¹).num = a * x.num + x.den ∧ ((Rat.divInt a 1 + x⁻¹).den : Int) = x.num := by
  obtain ⟨n, hn⟩ := Int.eq_ofNat_of_zero_le (Int.le_of_lt hx)
  have hn0 : 0 < n := by omega
  have hc : (a * x.num + x.den).natAbs.Coprime n := by
    have hr := x.reduced
    unfold Nat.Coprime at *
    apply Nat.dvd_one.1
    rw [← hr]
    have d1 : (((a * x.num + x.den).natAbs.gcd n : Nat) : Int) ∣ a * x.num + x.den := Int.dvd_trans (Int.ofNat_dvd.2 (Nat.gcd_dvd_left _ _)) (Int.natAbs_dvd.2 (Int.dvd_refl _))
    have d2 : (((a * x.num + x.den).natAbs.gcd n : Nat) : Int) ∣ x.num := by rw [hn]; exact Int.ofNat_dvd.2 (Nat.gcd_dvd_right _ _)
    have d3 := Int.dvd_sub d1 (Int.dvd_trans d2 (Int.dvd_mul_left a x.num))
    rw [show a * x.num + (x.den : Int) - a * x.num = (x.den : Int) by omega] at d3
    refine Nat.dvd_gcd ?_ (Int.ofNat_dvd.1 d3)
    have d4 := Int.natAbs_dvd_natAbs.2 d2
    rwa [Int.natAbs_natCast] at d4
  have e : Rat.divInt a 1 + x⁻¹ = Rat.mk' (a * x.num + x.den) n (by omega) hc := by
    rw [Rat.mk_eq_divInt, Rat.inv_def, hn, Rat.divInt_add_divInt _ _ (by omega) (by omega), Int.mul_one, Int.one_mul]
  rw [e]
  exact ⟨rfl, hn.symm⟩
theorem one_parts (a : Int) : (Rat.divInt a 1).num = a ∧ ((Rat.divInt a 1).den : Int) = 1 := by
  have h : Rat.divInt a 1 = (a : Rat) := by
    rw [← Rat.num_divInt_den (a : Rat)]; rfl
  rw [h]
  exact ⟨rfl, rfl⟩
theorem sz_step {B s K : Nat} {a n d : Int} (hB : 9223372036854775809 ≤ B ^ s) (ha : -9223372036854775808 ≤ a ∧ a ≤ 9223372036854775808) (hn : Sz B K n) (hd : Sz B K d) : Sz B (K + s) (a * n + d) := by
  unfold Sz at *
  have h1 : (a * n + d).natAbs ≤ a.natAbs * n.natAbs + d.natAbs := Nat.le_trans (Int.natAbs_add_le _ _) (by rw [Int.natAbs_mul]; exact Nat.le_refl _)
  have h2 : a.natAbs * n.natAbs ≤ 9223372036854775808 * n.natAbs := Nat.mul_le_mul_right _ (by omega)
  have h3 : 9223372036854775809 * B ^ K ≤ B ^ s * B ^ K := Nat.mul_le_mul_right _ hB
  rw [Nat.pow_add, Nat.mul_comm (B ^ K)]
  generalize B ^ s * B ^ K = X at *
  generalize B ^ K = Y at *
  omega
/-- All but the first are at least 1. -/
def Big (l : List Int) : Prop := ∀ x ∈ l, 1 ≤ x ∧ x ≤ 9223372036854775807
theorem join_big {B s : Nat} (hB : 9223372036854775809 ≤ B ^ s) (hB1 : 1 < B) : ∀ l : List Int, l ≠ [] → Big l → 0 < (joinQ l).num ∧ Sz B (s * l.length) (joinQ l).num ∧ Sz B (s * l.length) ((joinQ l).den : Int)
  | [], h, _ => absurd rfl h
  | [a], _, h => by
    obtain ⟨h1, h2⟩ := h a (by simp)
    obtain ⟨e1, e2⟩ := one_parts a
    show 0 < (Rat.divInt a 1).num ∧ Sz B (s * 1) (Rat.divInt a 1).num ∧ Sz B (s * 1) ((Rat.divInt a 1).den : Int)
    rw [e1, e2, Nat.mul_one]
    unfold Sz
    exact ⟨by omega, by omega, by omega⟩
  | a :: b :: l, _, h => by
    obtain ⟨h1, h2⟩ := h a (by simp)
    obtain ⟨i1, i2, i3⟩ := join_big hB hB1 (b :: l) (by simp) (fun x hx => h x (List.mem_cons_of_mem _ hx))
    rw [joinQ_cons a (by simp)]
    obtain ⟨e1, e2⟩ := step_parts a (joinQ (b :: l)) i1
    rw [e1, e2]
    have hd := (joinQ (b :: l)).den_nz
    refine ⟨?_, ?_, ?_⟩
    · have := Int.mul_pos (show 0 < a by omega) i1
      omega
    · have := sz_step hB (a := a) ⟨by omega, by omega⟩ i2 i3
      rwa [← Nat.mul_succ] at this
    · exact i2.mono hB1 (Nat.mul_le_mul_left _ (by simp))
/-- .. of a list whose first is any int. -/
theorem join_any {B s : Nat} (hB : 9223372036854775809 ≤ B ^ s) (hB1 : 1 < B) (a : Int) (l : List Int) (ha : -9223372036854775808 ≤ a ∧ a ≤ 9223372036854775807) (h : Big l) : Sz B (s * (a :: l).length) (joinQ (a :: l)).num ∧ Sz B (s * (a :: l).length) ((joinQ (a :: l)).den : Int) := by
  cases l with
  | nil =>
    obtain ⟨e1, e2⟩ := one_parts a
    show Sz B (s * 1) (Rat.divInt a 1).num ∧ Sz B (s * 1) ((Rat.divInt a 1).den : Int)
    rw [e1, e2, Nat.mul_one]
    unfold Sz
    exact ⟨by omega, by omega⟩
  | cons b l =>
    obtain ⟨i1, i2, i3⟩ := join_big hB hB1 (b :: l) (by simp) h
    rw [joinQ_cons a (by simp)]
    obtain ⟨e1, e2⟩ := step_parts a (joinQ (b :: l)) i1
    rw [e1, e2]
    refine ⟨?_, i2.mono hB1 (Nat.mul_le_mul_left _ (by simp))⟩
    have := sz_step hB (a := a) ⟨by omega, by omega⟩ i2 i3
    rwa [← Nat.mul_succ] at this
/-- Which lists are continued fractions. -/
def JoinOk (l : List Int) : Prop := 0 < l.length ∧ (∀ i, i < l.length → 1 ≤ i → 1 ≤ l.getD i 0) ∧ (l.length = 1 ∨ l.getD (l.length - 1) 0 ≠ 1)
instance (l : List Int) : Decidable (JoinOk l) := by unfold JoinOk; infer_instance
theorem drop_cons {l : List Int} {i : Nat} (h : i < l.length) : l.drop i = l.getD i 0 :: l.drop (i + 1) := by
  rw [List.drop_eq_getElem_cons h]; simp [List.getD, h]
theorem big_drop {l : List Int} (h : JoinOk l) (hb : ∀ i, i < l.length → -9223372036854775808 ≤ l.getD i 0 ∧ l.getD i 0 ≤ 9223372036854775807) (i : Nat) (hi : 1 ≤ i) : Big (l.drop i) := by
  intro x hx
  obtain ⟨j, hj⟩ := List.getElem?_of_mem hx
  rw [List.getElem?_drop] at hj
  have hl : i + j < l.length := (List.getElem?_eq_some_iff.1 hj).1
  have e : l.getD (i + j) 0 = x := by simp [List.getD, hj]
  have h1 := h.2.1 (i + j) hl (by omega)
  have h2 := hb (i + j) hl
  rw [e] at h1 h2
  exact ⟨h1, h2.2⟩
end Wd
end Go.Proofs.YtadclbankpmebaaDoor
/- The program: quotients in memory, an int as a quotient. -/
namespace Go.Proofs.YtadclbankpmebaaDoor
open Go.RowKit

/-- A quotient of the program in memory. -/
structure IQ (w : World) (s1a : Int) (neg1a : Bool) (A1a : Option Addr) (c1a : Nat) (l1a : List Nat) (s1b : Int) (neg1b : Bool) (A1b : Option Addr) (c1b : Nat) (l1b : List Nat) (q : Rat) : Prop where
  n : IntF w s1a neg1a A1a c1a l1a q.num
  d : IntF w s1b neg1b A1b c1b l1b (q.den : Int)
theorem IQ.below {w w' : World} {s1a : Int} {neg1a : Bool} {A1a : Option Addr} {c1a : Nat} {l1a : List Nat} {s1b : Int} {neg1b : Bool} {A1b : Option Addr} {c1b : Nat} {l1b : List Nat} {q : Rat} (h : IQ w s1a neg1a A1a c1a l1a s1b neg1b A1b c1b l1b q) (hb : Below w.heap.size w w') : IQ w' s1a neg1a A1a c1a l1a s1b neg1b A1b c1b l1b q := ⟨h.n.below hb, h.d.below hb⟩
/-- Block b holds a quotient of the program. -/
def BoxT (w : World) (b : Nat) (q : Rat) : Prop := ∃ s1a neg1a A1a c1a l1a s1b neg1b A1b c1b l1b, w.heap[b]? = some (.cells #[.int .i64 s1a, .bool neg1a, .slice A1a (List.length l1a) c1a, .int .i64 s1b, .bool neg1b, .slice A1b (List.length l1b) c1b] 60 (0, 0)) ∧ IQ w s1a neg1a A1a c1a l1a s1b neg1b A1b c1b l1b q
theorem boxt_new {W : World} {s1a : Int} {neg1a : Bool} {A1a : Option Addr} {c1a : Nat} {l1a : List Nat} {s1b : Int} {neg1b : Bool} {A1b : Option Addr} {c1b : Nat} {l1b : List Nat} {q : Rat} (h : IQ W s1a neg1a A1a c1a l1a s1b neg1b A1b c1b l1b q) : BoxT (W.alloc (.cells #[.int .i64 s1a, .bool neg1a, .slice A1a l1a.length c1a, .int .i64 s1b, .bool neg1b, .slice A1b l1b.length c1b] 60)) W.heap.size q :=
  ⟨_, _, _, _, _, _, _, _, _, _, heap_alloc_new W _, h.below ((Below.refl _ _).alloc (Nat.le_refl _) _)⟩
theorem boxt_below {w w' : World} {b : Nat} {q : Rat} (h : BoxT w b q) (hb : Below w.heap.size w w') : BoxT w' b q := by
  obtain ⟨s1a, neg1a, A1a, c1a, l1a, s1b, neg1b, A1b, c1b, l1b, h1, h2⟩ := h
  exact ⟨s1a, neg1a, A1a, c1a, l1a, s1b, neg1b, A1b, c1b, l1b, (hb.block _ (lt_of_block h1)).trans h1, h2.below hb⟩
theorem set6_block {W : World} {b : Nat} {a0 a1 a2 a3 a4 a5 u0 u1 u2 u3 u4 u5 : Value} {T : TypeId} (h : W.heap[b]? = some (.cells #[a0, a1, a2, a3, a4, a5] T (0, 0))) : ((((((W.setCell ⟨b, 0, none⟩ u0).setCell ⟨b, 1, none⟩ u1).setCell ⟨b, 2, none⟩ u2).setCell ⟨b, 3, none⟩ u3).setCell ⟨b, 4, none⟩ u4).setCell ⟨b, 5, none⟩ u5).heap[b]? = some (.cells #[u0, u1, u2, u3, u4, u5] T (0, 0)) := by
  simp [World.setCell, Array.getElem?_modify, h]
theorem boxt_store {w W : World} {B b : Nat} {q x : Rat} {s2a : Int} {neg2a : Bool} {A2a : Option Addr} {c2a : Nat} {l2a : List Nat} {s2b : Int} {neg2b : Bool} {A2b : Option Addr} {c2b : Nat} {l2b : List Nat} (hq : BoxT W b q) (hv : IQ W s2a neg2a A2a c2a l2a s2b neg2b A2b c2b l2b x) (hb : Below B w W) (hB : B ≤ b) (hBW : B ≤ W.heap.size) : BoxT ((((((W.setCell ⟨b, 0, none⟩ (.int .i64 s2a)).setCell ⟨b, 1, none⟩ (.bool neg2a)).setCell ⟨b, 2, none⟩ (.slice A2a l2a.length c2a)).setCell ⟨b, 3, none⟩ (.int .i64 s2b)).setCell ⟨b, 4, none⟩ (.bool neg2b)).setCell ⟨b, 5, none⟩ (.slice A2b l2b.length c2b)) b x ∧ Below B w ((((((W.setCell ⟨b, 0, none⟩ (.int .i64 s2a)).setCell ⟨b, 1, none⟩ (.bool neg2a)).setCell ⟨b, 2, none⟩ (.slice A2a l2a.length c2a)).setCell ⟨b, 3, none⟩ (.int .i64 s2b)).setCell ⟨b, 4, none⟩ (.bool neg2b)).setCell ⟨b, 5, none⟩ (.slice A2b l2b.length c2b)) := by
  obtain ⟨s1a, neg1a, A1a, c1a, l1a, s1b, neg1b, A1b, c1b, l1b, h1, h2⟩ := hq
  have hg := set6_grown W b (.int .i64 s2a) (.bool neg2a) (.slice A2a l2a.length c2a) (.int .i64 s2b) (.bool neg2b) (.slice A2b l2b.length c2b)
  exact ⟨⟨_, _, _, _, _, _, _, _, _, _, set6_block h1, ⟨hv.n.upto h1 (noWord6 _ _ _ _ _ _ _ _ _ _) hg, hv.d.upto h1 (noWord6 _ _ _ _ _ _ _ _ _ _) hg⟩⟩, hb.grown hg hBW (fun k hk => by injection hk with hk; omega)⟩
set_option maxRecDepth 100000 in
set_option maxHeartbeats 16000000 in
theorem rwhole_any (n : Int) (w : World) (b1 : -9223372036854775808 ≤ n) (b2 : n ≤ 9223372036854775807) :
    Calls Tryd.prog 61 #[.int .i64 n] w fun e w' => PairR w (Rat.divInt n 1).num ((Rat.divInt n 1).den : Int) e w' := by
  have hN := hide (fun W => newInt_any n b1 b2 W)
  have hO := hide (fun W => newInt_any 1 (by omega) (by omega) W)
  rw [(Wd.one_parts n).1, (Wd.one_parts n).2]
  clear b1 b2
  go_enter Tryd.func61, Tryd.ntmps61
  go_wp2_with fail
  obtain ⟨n0, hsz, hw0⟩ := one_new w (.cells #[.int .i64 0, .bool false, .slice none 0 0, .int .i64 0, .bool false, .slice none 0 0] 60)
  generalize w.alloc (.cells #[.int .i64 0, .bool false, .slice none 0 0, .int .i64 0, .bool false, .slice none 0 0] 60) = W0 at *
  have r0 : W0.cell? ⟨w.heap.size, 0, none⟩ = some (.int .i64 0) := cells_of n0 0
  have f0 := unfrozen_of n0 0
  have r1 : W0.cell? ⟨w.heap.size, 1, none⟩ = some (.bool false) := cells_of n0 1
  have f1 := unfrozen_of n0 1
  have r2 : W0.cell? ⟨w.heap.size, 2, none⟩ = some (.slice none 0 0) := cells_of n0 2
  have f2 := unfrozen_of n0 2
  have r3 : W0.cell? ⟨w.heap.size, 3, none⟩ = some (.int .i64 0) := cells_of n0 3
  have f3 := unfrozen_of n0 3
  have r4 : W0.cell? ⟨w.heap.size, 4, none⟩ = some (.bool false) := cells_of n0 4
  have f4 := unfrozen_of n0 4
  have r5 : W0.cell? ⟨w.heap.size, 5, none⟩ = some (.slice none 0 0) := cells_of n0 5
  have f5 := unfrozen_of n0 5
  have q0 := lt_of_block n0
  have NR := Lib.hid n0
  clear n0 hsz
  refine ((unhide hN) _).mono ?_
  rintro e W1 ⟨s1a, neg1a, A1a, c1a, l1a, rfl, g1, hb⟩
  have G1 := hide g1; have HB := hide hb
  clear g1 hb
  go_wp2_with fail
  refine ((unhide hO) _).mono ?_
  rintro e w' ⟨s1b, neg1b, A1b, c1b, l1b, rfl, g2, hb2⟩
  have G1' := hide ((unhide G1).below hb2)
  have hb := below_step' (unhide HB) hb2
  obtain ⟨hc, hfz⟩ := bcell hb
  have hblk := (hb.block _ q0).trans NR.out
  have HBLK := Lib.hid hblk
  have hb9 := below_step' hw0 hb
  have HB9 := hide hb9
  have G2 := hide g2
  clear g2 hb hb2 hb9 hblk
  go_wp2_with fail
  exact bodyPost_ret (v := (Value.agg #[.int .i64 s1a, .bool neg1a, .slice A1a l1a.length c1a, .int .i64 s1b, .bool neg1b, .slice A1b l1b.length c1b])) (by simp [results, Tryd.results61, go_sem, hc, r0, r1, r2, r3, r4, r5, q0]) rfl
    ⟨s1a, neg1a, A1a, c1a, l1a, s1b, neg1b, A1b, c1b, l1b, rfl, (unhide G1').upto HBLK.out (noWord6 _ _ _ _ _ _ _ _ _ _) (set6_grown _ _ _ _ _ _ _ _), (unhide G2).upto HBLK.out (noWord6 _ _ _ _ _ _ _ _ _ _) (set6_grown _ _ _ _ _ _ _ _), (unhide HB9).grown (set6_grown _ _ _ _ _ _ _ _) (unhide HB9).size (fun k hk => by injection hk with hk; omega)⟩

end Go.Proofs.YtadclbankpmebaaDoor
