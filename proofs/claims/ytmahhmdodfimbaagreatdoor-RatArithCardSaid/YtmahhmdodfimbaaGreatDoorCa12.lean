/- Part 12 of the texts beneath a law of layer 1: RfLs, RfAd, RfQb, RfRaB, RfHalf, RfRat, RfTold, RfDoB, RfDo0. -/
import Derived.Test.YtmahhmdodfimbaaGreatDoorCa11
/- The reference: differences of amounts: the walk. -/
namespace Go.Proofs.YtmahhmdodfimbaaGreatDoor
open Go.RowKit

theorem less_word {x b : Nat} (hx : x < B32) (hb : b ≤ 1) (y : Nat) (hy : y < B32) : ∃ (t v d b' : Nat), IntKind.u64.wrap ((x : Int) - (b : Int)) = (t : Int) ∧ IntKind.u64.wrap ((t : Int) - (y : Int)) = (v : Int) ∧ IntKind.u32.wrap (v : Int) = (d : Int) ∧ (v : Int) % 4294967296 = (d : Int) ∧ (v : Int) / 9223372036854775808 = (b' : Int) ∧ d < B32 ∧ b' ≤ 1 ∧ d + y + b = x + B32 * b' ∧ (y = 0 → v = t) ∧ t < B64 := by
  simp only [IntKind.wrap_u64, IntKind.wrap_u32]
  rw [B32_eq] at *
  rw [B64_eq]
  by_cases h1 : b ≤ x
  · by_cases h2 : b + y ≤ x
    · exact ⟨x - b, x - b - y, x - b - y, 0, by omega, by omega, by omega, by omega, by omega, by omega, by omega, by omega, by omega, by omega⟩
    · exact ⟨x - b, 18446744073709551616 + x - b - y, 4294967296 + x - b - y, 1, by omega, by omega, by omega, by omega, by omega, by omega, by omega, by omega, by omega, by omega⟩
  · exact ⟨18446744073709551616 + x - b, 18446744073709551616 + x - b - y, 4294967296 + x - b - y, 1, by omega, by omega, by omega, by omega, by omega, by omega, by omega, by omega, by omega, by omega⟩

set_option maxRecDepth 100000 in
set_option maxHeartbeats 2000000 in
theorem tless_any (Ax Ay : Option Addr) (cx cy : Nat) (xl yl : List Nat) (n m : Nat) (w : World) (hx : NatT w Ax cx xl n) (hy : NatT w Ay cy yl m) (hk : xl.length ≤ 35184372088832) (hle : m ≤ n) :
    Calls Tryz.prog 145 #[.slice Ax xl.length cx, .slice Ay yl.length cy] w fun e w' => NatU w (n - m) e w' := by
  have hyx : yl.length ≤ xl.length := hy.len (Nat.lt_of_le_of_lt hle hx.lt_pow)
  have hmk := make32cap xl.length hk
  have hmade := own_made w xl.length hk 136
  obtain ⟨C, hC⟩ : ∃ C, C = xl.length := ⟨_, rfl⟩
  have hmade' : (w.alloc (.cells (wcells .u32 (List.replicate xl.length 0)) 136)).ownsRow w.heap.size 136 1 (.slice (some ⟨w.heap.size, 0, none⟩) 0 C) 0 (wvals .u32 []) := by rw [hC]; exact hmade
  have hmk' : ∀ W : World, (Instr.makeSlice 48 (.int .i64 0) (.int .i64 (xl.length : Int))).run Tryz.prog W = .ok (.slice (some ⟨W.heap.size, 0, none⟩) 0 C) (W.alloc (.cells (wcells .u32 (List.replicate xl.length 0)) 136)) := by rw [hC]; exact hmk
  have HC := Lib.hid hC
  clear hmk hmade hC
  obtain ⟨i0, hi0, hz0, hz1, hz2⟩ := info_parts info32
  have hx1 := hx.cap1; have hx2 := hx.cap2; have hy1 := hy.cap1; have hy2 := hy.cap2
  go_enter Tryz.func145, Tryz.ntmps145
  go_wp2_with fail
  go_loopw [5, 6, 7] (fun ov cv iv wr => ∃ (i c : Nat) (l : List Nat), i ≤ xl.length ∧ ov = .slice (some ⟨w.heap.size, 0, none⟩) i C ∧ cv = .int .u64 ((c : Nat) : Int) ∧ iv = .int .i64 ((i : Nat) : Int) ∧ Hid (Wd.LessInv B32 xl yl l i c) ∧ wr.ownsRow w.heap.size 136 1 (.slice (some ⟨w.heap.size, 0, none⟩) i C) i (wvals .u32 l) ∧ Below w.heap.size w wr) (fun _ _ iv _ => xl.length - (intOf iv).toNat)
  case atStart => exact ⟨0, 0, [], Nat.zero_le _, rfl, rfl, rfl, Wd.LessInv.start _ _ _, hmade', (Below.refl _ _).alloc (Nat.le_refl _) _⟩
  case round =>
    obtain ⟨i, c, l, hi, rfl, rfl, rfl, HI, hown, hg⟩ := hrel
    have hli := HI.out.len
    have hgl := own_lt hown
    have hsz := hg.size
    clear hmade' hmk'
    by_cases hlx : i < xl.length
    · have dx : decide ((i : Int) < (xl.length : Int)) = true := decide_eq_true (by omega)
      have dx' : decide (i < xl.length) = true := decide_eq_true (by omega)
      have hCi : i + 1 ≤ C := by have := HC.out; omega
      have hcB := HI.out.b1
      obtain ⟨x, hxx⟩ : ∃ x, x = Wd.g xl i := ⟨_, rfl⟩
      obtain ⟨y, hyy⟩ : ∃ y, y = Wd.g yl i := ⟨_, rfl⟩
      have hxB : x < B32 := by rw [hxx]; exact Wd.getD_lt (by rw [B32_eq]; omega) _ hx.lt i
      have hyB : y < B32 := by rw [hyy]; exact Wd.getD_lt (by rw [B32_eq]; omega) _ hy.lt i
      have b64 : ∀ t : Nat, t < B32 → t < B64 := fun t ht => by rw [B32_eq] at ht; rw [B64_eq]; omega
      have e1 : IntKind.u64.wrap (x : Int) = (x : Int) := wrap64_nat rfl (b64 _ hxB)
      have e2 : IntKind.u64.wrap (y : Int) = (y : Int) := wrap64_nat rfl (b64 _ hyB)
      obtain ⟨t, v, d, b', e3, e4, e5, e5', e6, hdB, hb', heq, hv0, htB⟩ := less_word hxB hcB y hyB
      have hst := HI.out.step (by rw [← Wd.g_def]; exact hxx) (by rw [← Wd.g_def]; exact hyy) hdB hb' heq
      have HST := hide hst
      obtain ⟨bx, ox, rfl, hbx, hcx⟩ := hx.ws (by omega)
      have hxc : wr.cell? ⟨bx, ox + i, none⟩ = some (.int .u32 (x : Int)) := by rw [hxx]; exact (hg.cell (p := ⟨bx, ox + i, none⟩) hbx).trans (hcx i hlx)
      have hy0 : ¬ i < yl.length → y = 0 := fun h => by rw [hyy]; simp [Wd.g, List.getD, h]
      have hcelly : i < yl.length → ∃ b o, Ay = some ⟨b, o, none⟩ ∧ wr.cell? ⟨b, o + i, none⟩ = some (.int .u32 (y : Int)) := fun h => by
        obtain ⟨b, o, rfl, hbb, hc⟩ := hy.ws (by omega)
        exact ⟨b, o, rfl, by rw [hyy]; exact (hg.cell (p := ⟨b, o + i, none⟩) hbb).trans (hc i h)⟩
      clear hcx hxx hyy hst heq hdB b64 hxB hyB hz0 hz2
      by_cases hly : i < yl.length
      · have dy : decide ((i : Int) < (yl.length : Int)) = true := decide_eq_true (by omega)
        have dy' : decide (i < yl.length) = true := decide_eq_true (by omega)
        obtain ⟨by', oy, rfl, hyc⟩ := hcelly (by omega)
        clear hcelly hy0 hv0
        go_wp2_with (first | (at_builtin; refine wpList_append_fits _ rfl _ _ 48 rfl w.heap.size 136 i0 1 Tryz.underlying48 hi0 hz1 w.heap.size _ C (wvals .u32 l) rfl (hown.alloc _) ⟨_, 0, none⟩ 1 1 [.int .u32 ((d : Nat) : Int)] rfl rfl (one_cell _ _ _) (one_u32 _) (by omega) ?_; intro w1 hown1 hgrow1) | fail)
        obtain ⟨r1, r2⟩ := behind_append rfl (hg.alloc hsz _) (by simp <;> omega) hown1 hgrow1
        clear hown1 hgrow1 hown hg
        go_wp2_with fail
        go_roundw
        case rel => exact ⟨i + 1, b', l ++ [d], by omega, rfl, rfl, by go_num, unhide HST, r1, r2⟩
        case measure => simp [intOf] <;> omega
      · have dy : decide ((i : Int) < (yl.length : Int)) = false := decide_eq_false (by omega)
        have dy' : decide (i < yl.length) = false := decide_eq_false (by omega)
        obtain rfl : v = t := hv0 (hy0 (by omega))
        clear hcelly hy0 hv0
        go_wp2_with (first | (at_builtin; refine wpList_append_fits _ rfl _ _ 48 rfl w.heap.size 136 i0 1 Tryz.underlying48 hi0 hz1 w.heap.size _ C (wvals .u32 l) rfl (hown.alloc _) ⟨_, 0, none⟩ 1 1 [.int .u32 ((d : Nat) : Int)] rfl rfl (one_cell _ _ _) (one_u32 _) (by omega) ?_; intro w1 hown1 hgrow1) | fail)
        obtain ⟨r1, r2⟩ := behind_append rfl (hg.alloc hsz _) (by simp <;> omega) hown1 hgrow1
        clear hown1 hgrow1 hown hg
        go_wp2_with fail
        go_roundw
        case rel => exact ⟨i + 1, b', l ++ [d], by omega, rfl, rfl, by go_num, unhide HST, r1, r2⟩
        case measure => simp [intOf] <;> omega
    · have e : i = xl.length := by omega
      subst e
      have hv := HI.out.done rfl hyx (by rw [hx.val, hy.val]; exact hle)
      rw [hx.val, hy.val] at hv
      have HV := Lib.hid hv; have HLT := hide HI.out.lt
      obtain ⟨hws, hcap, hmax⟩ := own_ws hli.symm hown hgl
      have htr := ttrim_any (some ⟨w.heap.size, 0, none⟩) C l wr.heap.size wr hws hcap (by have := HC.out; omega)
      rw [hli] at htr
      have HTR := hide htr; have HWS := hide hws
      clear hv hown htr hws hmax hz0 hz2
      go_wp2_with fail
      refine (unhide HTR).mono ?_
      rintro e w' ⟨⟨k, rfl, ht, hk2⟩, rfl⟩
      dsimp only
      go_wp2_with fail
      go_ret
      have hk3 : k = (l.take k).length := by rw [List.length_take]; omega
      refine ⟨some ⟨w.heap.size, 0, none⟩, C, l.take k, ret_slice hk3, ?_, hg⟩
      have := NatT.of_trim_ws (cap := C) (unhide HWS) (unhide HLT) ht (by omega) (by have := HC.out; omega) (by have := HC.out; omega)
      rwa [HV.out] at this
end Go.Proofs.YtmahhmdodfimbaaGreatDoor
/- The reference: sums of whole numbers. -/
namespace Go.Proofs.YtmahhmdodfimbaaGreatDoor
open Go.RowKit

theorem add_same {z1 z2 : Int} {m : Bool} (h1 : m = decide (z1 < 0)) (h2 : m = decide (z2 < 0)) : (if m then -((z1.natAbs + z2.natAbs : Nat) : Int) else ((z1.natAbs + z2.natAbs : Nat) : Int)) = z1 + z2 := by
  subst h1
  by_cases a : z1 < 0 <;> by_cases b : z2 < 0 <;> simp [a, b] at h2 ⊢ <;> omega
theorem add_other {z1 z2 : Int} {m m' : Bool} (hne : m ≠ m') (h1 : m = decide (z1 < 0)) (h2 : m' = decide (z2 < 0)) (h : z2.natAbs ≤ z1.natAbs) : (if m then -((z1.natAbs - z2.natAbs : Nat) : Int) else ((z1.natAbs - z2.natAbs : Nat) : Int)) = z1 + z2 := by
  subst h1 h2
  by_cases a : z1 < 0 <;> by_cases b : z2 < 0 <;> simp [a, b] at hne ⊢ <;> omega

set_option maxRecDepth 100000 in
set_option maxHeartbeats 8000000 in
theorem tadd_same (A1 : Option Addr) (c1 : Nat) (l1 : List Nat) (m1 : Bool) (z1 : Int) (A2 : Option Addr) (c2 : Nat) (l2 : List Nat) (m2 : Bool) (z2 : Int) (w : World) (h1 : WholeF w A1 c1 l1 m1 z1) (h2 : WholeF w A2 c2 l2 m2 z2) (hk : l1.length + l2.length + 1 ≤ 35184372088832) (hs : m1 = m2) :
    Calls Tryz.prog 97 #[.agg #[.slice A1 l1.length c1, .bool m1], .agg #[.slice A2 l2.length c2, .bool m2]] w fun e w' => WholeR w (z1 + z2) e w' := by
  have hv := add_same h1.sign (hs ▸ h2.sign)
  have SG : (m1 == m2) = true := by rw [hs]; exact beq_self_eq_true _
  have HT := hide (fun W (hW : Below w.heap.size w W) => tplus_any A1 A2 c1 c2 l1 l2 z1.natAbs z2.natAbs W (h1.nat.below hW) (h2.nat.below hW) (by omega) (by omega))
  obtain ⟨p, hp⟩ : ∃ p, p = z1.natAbs + z2.natAbs := ⟨_, rfl⟩
  obtain ⟨z, hz⟩ : ∃ z, z = z1 + z2 := ⟨_, rfl⟩
  rw [← hp] at HT hv
  rw [← hz] at hv ⊢
  have HV := Lib.hid hv
  clear h1 h2 hk hp hz hv hs
  go_enter Tryz.func97, Tryz.ntmps97
  go_wp2_with fail
  obtain ⟨n0, n1, n2, hsz, hw0⟩ := three_new w (.cells #[.slice A1 l1.length c1, .bool m1] 50) (.cells #[.slice A2 l2.length c2, .bool m2] 50) (.cells #[.slice none 0 0, .bool false] 50)
  generalize (((w.alloc (.cells #[.slice A1 l1.length c1, .bool m1] 50)).alloc (.cells #[.slice A2 l2.length c2, .bool m2] 50)).alloc (.cells #[.slice none 0 0, .bool false] 50)) = W0 at *
  have q0 := lt_of_block n0; have q1 := lt_of_block n1; have q2 := lt_of_block n2
  have KEEP : ∀ X, Below W0.heap.size W0 X → (fun w' => w'.cell? ⟨w.heap.size, 0, none⟩ = some (.slice A1 l1.length c1) ∧ w'.cell? ⟨w.heap.size, 1, none⟩ = some (.bool m1) ∧ w'.cell? ⟨w.heap.size + 1, 0, none⟩ = some (.slice A2 l2.length c2) ∧ w'.cell? ⟨w.heap.size + 1, 1, none⟩ = some (.bool m2)) X := fun X hX => ⟨(hX.cell (p := ⟨w.heap.size, 0, none⟩) q0).trans (cells_of n0 0), (hX.cell (p := ⟨w.heap.size, 1, none⟩) q0).trans (cells_of n0 1), (hX.cell (p := ⟨w.heap.size + 1, 0, none⟩) q1).trans (cells_of n1 0), (hX.cell (p := ⟨w.heap.size + 1, 1, none⟩) q1).trans (cells_of n1 1)⟩
  obtain ⟨k0, k1, k2, k3⟩ := KEEP W0 (Below.refl _ _)
  have r0 : W0.cell? ⟨w.heap.size + 1 + 1, 0, none⟩ = some (.slice none 0 0) := cells_of n2 0
  have r1 : W0.cell? ⟨w.heap.size + 1 + 1, 1, none⟩ = some (.bool false) := cells_of n2 1
  have f0 := unfrozen_of n2 0
  have f1 := unfrozen_of n2 1
  have NR := Lib.hid n2; have HKE := hide KEEP
  clear n0 n1 n2 hsz KEEP
  go_wp2_with fail
  go_region_held3 (fun w' => w'.cell? ⟨w.heap.size, 0, none⟩ = some (.slice A1 l1.length c1) ∧ w'.cell? ⟨w.heap.size, 1, none⟩ = some (.bool m1) ∧ w'.cell? ⟨w.heap.size + 1, 0, none⟩ = some (.slice A2 l2.length c2) ∧ w'.cell? ⟨w.heap.size + 1, 1, none⟩ = some (.bool m2)) (first | with_reducible exact ⟨(cell_set2 _ _ _ _ (by omega)).trans ((hc _ _ q0).trans k0), (cell_set2 _ _ _ _ (by omega)).trans ((hc _ _ q0).trans k1), (cell_set2 _ _ _ _ (by omega)).trans ((hc _ _ q1).trans k2), (cell_set2 _ _ _ _ (by omega)).trans ((hc _ _ q1).trans k3)⟩ | exact (unhide HKE) _ (by (first | with_reducible assumption | (repeat (first | with_reducible exact Below.refl _ _ | with_reducible assumption | refine Below.drew ?_ | (refine Below.alloc ?_ (by simp <;> omega) _) | refine belowN ?_ _))))) (first | (go_at_call 143; refine ((unhide HT) _ (below_step' hw0 (by (first | with_reducible assumption | (repeat (first | with_reducible exact Below.refl _ _ | with_reducible assumption | refine Below.drew ?_ | (refine Below.alloc ?_ (by simp <;> omega) _) | refine belowN ?_ _)))))).mono ?_; rintro e w' ⟨A5, c5, l5, rfl, hn5, hb⟩; have hbw := below_step (w := W0) (by (first | with_reducible assumption | (repeat (first | with_reducible exact Below.refl _ _ | with_reducible assumption | refine Below.drew ?_ | (refine Below.alloc ?_ (by simp <;> omega) _) | refine belowN ?_ _)))) hb; obtain ⟨hc, hfz⟩ := bcell hbw) | (go_at_call 141; refine (tsigned_any A5 c5 l5 p m1 _ (by exact hn5)).mono ?_; rw [HV.out]; rintro e w' ⟨A6, c6, l6, m6, rfl, hf6, hb⟩; have hbw := below_step (w := W0) (by (first | with_reducible assumption | (repeat (first | with_reducible exact Below.refl _ _ | with_reducible assumption | refine Below.drew ?_ | (refine Below.alloc ?_ (by simp <;> omega) _) | refine belowN ?_ _)))) hb; obtain ⟨hc, hfz⟩ := bcell hbw))
  all_goals
    have hblk : w'.heap[w.heap.size + 1 + 1]? = some (.cells #[.slice none 0 0, .bool false] 50 (0, 0)) := (hbw.block _ q2).trans NR.out
    have HBLK := Lib.hid hblk
    have hb9 : Below w.heap.size w w' := below_step' hw0 hbw
    clear hblk
    go_wp2_with fail
    exact bodyPost_ret (v := .agg #[.slice A6 l6.length c6, .bool m6]) (by simp [results, Tryz.results97, go_sem, hc, r0, r1, q2]) rfl
      ⟨A6, c6, l6, m6, rfl, hf6.upto HBLK.out (noW2_2 _ _ _ _) (set2_grown _ _ _ _), hb9.grown (set2_grown _ _ _ _) hb9.size (fun k hk => by injection hk with hk; omega)⟩

set_option maxRecDepth 100000 in
set_option maxHeartbeats 8000000 in
theorem tadd_ge (A1 : Option Addr) (c1 : Nat) (l1 : List Nat) (m1 : Bool) (z1 : Int) (A2 : Option Addr) (c2 : Nat) (l2 : List Nat) (m2 : Bool) (z2 : Int) (w : World) (h1 : WholeF w A1 c1 l1 m1 z1) (h2 : WholeF w A2 c2 l2 m2 z2) (hk : l1.length + l2.length + 1 ≤ 35184372088832) (hs : m1 ≠ m2) (ho : z2.natAbs ≤ z1.natAbs) :
    Calls Tryz.prog 97 #[.agg #[.slice A1 l1.length c1, .bool m1], .agg #[.slice A2 l2.length c2, .bool m2]] w fun e w' => WholeR w (z1 + z2) e w' := by
  have hv := add_other hs h1.sign h2.sign ho
  have HT := hide (fun W (hW : Below w.heap.size w W) => tless_any A1 A2 c1 c2 l1 l2 z1.natAbs z2.natAbs W (h1.nat.below hW) (h2.nat.below hW) (by omega) ho)
  have ho3 : 0 ≤ ord3 z1.natAbs z2.natAbs := by unfold ord3; (repeat' split) <;> omega
  have SG : (m1 == m2) = false := beq_eq_false_iff_ne.2 hs
  have HO := hide (fun W (hW : Below w.heap.size w W) => torder_any A1 A2 c1 c2 l1 l2 z1.natAbs z2.natAbs W (h1.nat.below hW) (h2.nat.below hW))
  obtain ⟨o, hoo⟩ : ∃ o, o = ord3 z1.natAbs z2.natAbs := ⟨_, rfl⟩
  rw [← hoo] at HO ho3
  have d1 : decide ((0 : Int) ≤ o) = true := decide_eq_true ho3
  obtain ⟨p, hp⟩ : ∃ p, p = z1.natAbs - z2.natAbs := ⟨_, rfl⟩
  obtain ⟨z, hz⟩ : ∃ z, z = z1 + z2 := ⟨_, rfl⟩
  rw [← hp] at HT hv
  rw [← hz] at hv ⊢
  have HV := Lib.hid hv
  clear h1 h2 hk hp hz hv hs ho ho3 hoo
  go_enter Tryz.func97, Tryz.ntmps97
  go_wp2_with fail
  obtain ⟨n0, n1, n2, hsz, hw0⟩ := three_new w (.cells #[.slice A1 l1.length c1, .bool m1] 50) (.cells #[.slice A2 l2.length c2, .bool m2] 50) (.cells #[.slice none 0 0, .bool false] 50)
  generalize (((w.alloc (.cells #[.slice A1 l1.length c1, .bool m1] 50)).alloc (.cells #[.slice A2 l2.length c2, .bool m2] 50)).alloc (.cells #[.slice none 0 0, .bool false] 50)) = W0 at *
  have q0 := lt_of_block n0; have q1 := lt_of_block n1; have q2 := lt_of_block n2
  have KEEP : ∀ X, Below W0.heap.size W0 X → (fun w' => w'.cell? ⟨w.heap.size, 0, none⟩ = some (.slice A1 l1.length c1) ∧ w'.cell? ⟨w.heap.size, 1, none⟩ = some (.bool m1) ∧ w'.cell? ⟨w.heap.size + 1, 0, none⟩ = some (.slice A2 l2.length c2) ∧ w'.cell? ⟨w.heap.size + 1, 1, none⟩ = some (.bool m2)) X := fun X hX => ⟨(hX.cell (p := ⟨w.heap.size, 0, none⟩) q0).trans (cells_of n0 0), (hX.cell (p := ⟨w.heap.size, 1, none⟩) q0).trans (cells_of n0 1), (hX.cell (p := ⟨w.heap.size + 1, 0, none⟩) q1).trans (cells_of n1 0), (hX.cell (p := ⟨w.heap.size + 1, 1, none⟩) q1).trans (cells_of n1 1)⟩
  obtain ⟨k0, k1, k2, k3⟩ := KEEP W0 (Below.refl _ _)
  have r0 : W0.cell? ⟨w.heap.size + 1 + 1, 0, none⟩ = some (.slice none 0 0) := cells_of n2 0
  have r1 : W0.cell? ⟨w.heap.size + 1 + 1, 1, none⟩ = some (.bool false) := cells_of n2 1
  have f0 := unfrozen_of n2 0
  have f1 := unfrozen_of n2 1
  have NR := Lib.hid n2; have HKE := hide KEEP
  clear n0 n1 n2 hsz KEEP
  go_wp2_with fail
  refine ((unhide HO) _ hw0).mono ?_
  rintro e w1 ⟨rfl, hw1⟩
  obtain ⟨kk, rfl⟩ := hw1
  have hk0 : Below W0.heap.size W0 (W0.drewN kk) := belowN (Below.refl _ _) kk
  go_wp2_with fail
  go_region_held3 (fun w' => w'.cell? ⟨w.heap.size, 0, none⟩ = some (.slice A1 l1.length c1) ∧ w'.cell? ⟨w.heap.size, 1, none⟩ = some (.bool m1) ∧ w'.cell? ⟨w.heap.size + 1, 0, none⟩ = some (.slice A2 l2.length c2) ∧ w'.cell? ⟨w.heap.size + 1, 1, none⟩ = some (.bool m2)) (first | with_reducible exact ⟨(cell_set2 _ _ _ _ (by omega)).trans ((hc _ _ q0).trans k0), (cell_set2 _ _ _ _ (by omega)).trans ((hc _ _ q0).trans k1), (cell_set2 _ _ _ _ (by omega)).trans ((hc _ _ q1).trans k2), (cell_set2 _ _ _ _ (by omega)).trans ((hc _ _ q1).trans k3)⟩ | exact (unhide HKE) _ (by (first | with_reducible assumption | (repeat (first | with_reducible exact Below.refl _ _ | with_reducible assumption | refine Below.drew ?_ | (refine Below.alloc ?_ (by simp <;> omega) _) | refine belowN ?_ _))))) (first | (go_at_call 145; refine ((unhide HT) _ (below_step' hw0 (by (first | with_reducible assumption | (repeat (first | with_reducible exact Below.refl _ _ | with_reducible assumption | refine Below.drew ?_ | (refine Below.alloc ?_ (by simp <;> omega) _) | refine belowN ?_ _)))))).mono ?_; rintro e w' ⟨A5, c5, l5, rfl, hn5, hb⟩; have hbw := below_step (w := W0) (by (first | with_reducible assumption | (repeat (first | with_reducible exact Below.refl _ _ | with_reducible assumption | refine Below.drew ?_ | (refine Below.alloc ?_ (by simp <;> omega) _) | refine belowN ?_ _)))) hb; obtain ⟨hc, hfz⟩ := bcell hbw) | (go_at_call 141; refine (tsigned_any A5 c5 l5 p m1 _ (by exact hn5)).mono ?_; rw [HV.out]; rintro e w' ⟨A6, c6, l6, m6, rfl, hf6, hb⟩; have hbw := below_step (w := W0) (by (first | with_reducible assumption | (repeat (first | with_reducible exact Below.refl _ _ | with_reducible assumption | refine Below.drew ?_ | (refine Below.alloc ?_ (by simp <;> omega) _) | refine belowN ?_ _)))) hb; obtain ⟨hc, hfz⟩ := bcell hbw))
  all_goals
    have hblk : w'.heap[w.heap.size + 1 + 1]? = some (.cells #[.slice none 0 0, .bool false] 50 (0, 0)) := (hbw.block _ q2).trans NR.out
    have HBLK := Lib.hid hblk
    have hb9 : Below w.heap.size w w' := below_step' hw0 hbw
    clear hblk
    go_wp2_with fail
    exact bodyPost_ret (v := .agg #[.slice A6 l6.length c6, .bool m6]) (by simp [results, Tryz.results97, go_sem, hc, r0, r1, q2]) rfl
      ⟨A6, c6, l6, m6, rfl, hf6.upto HBLK.out (noW2_2 _ _ _ _) (set2_grown _ _ _ _), hb9.grown (set2_grown _ _ _ _) hb9.size (fun k hk => by injection hk with hk; omega)⟩

set_option maxRecDepth 100000 in
set_option maxHeartbeats 8000000 in
theorem tadd_lt (A1 : Option Addr) (c1 : Nat) (l1 : List Nat) (m1 : Bool) (z1 : Int) (A2 : Option Addr) (c2 : Nat) (l2 : List Nat) (m2 : Bool) (z2 : Int) (w : World) (h1 : WholeF w A1 c1 l1 m1 z1) (h2 : WholeF w A2 c2 l2 m2 z2) (hk : l1.length + l2.length + 1 ≤ 35184372088832) (hs : m1 ≠ m2) (ho : ¬ z2.natAbs ≤ z1.natAbs) :
    Calls Tryz.prog 97 #[.agg #[.slice A1 l1.length c1, .bool m1], .agg #[.slice A2 l2.length c2, .bool m2]] w fun e w' => WholeR w (z1 + z2) e w' := by
  have hv := add_other (Ne.symm hs) h2.sign h1.sign (by omega)
  rw [Int.add_comm z2 z1] at hv
  have HT := hide (fun W (hW : Below w.heap.size w W) => tless_any A2 A1 c2 c1 l2 l1 z2.natAbs z1.natAbs W (h2.nat.below hW) (h1.nat.below hW) (by omega) (by omega))
  have ho3 : ¬ 0 ≤ ord3 z1.natAbs z2.natAbs := by unfold ord3; (repeat' split) <;> omega
  have SG : (m1 == m2) = false := beq_eq_false_iff_ne.2 hs
  have HO := hide (fun W (hW : Below w.heap.size w W) => torder_any A1 A2 c1 c2 l1 l2 z1.natAbs z2.natAbs W (h1.nat.below hW) (h2.nat.below hW))
  obtain ⟨o, hoo⟩ : ∃ o, o = ord3 z1.natAbs z2.natAbs := ⟨_, rfl⟩
  rw [← hoo] at HO ho3
  have d1 : decide ((0 : Int) ≤ o) = false := decide_eq_false ho3
  obtain ⟨p, hp⟩ : ∃ p, p = z2.natAbs - z1.natAbs := ⟨_, rfl⟩
  obtain ⟨z, hz⟩ : ∃ z, z = z1 + z2 := ⟨_, rfl⟩
  rw [← hp] at HT hv
  rw [← hz] at hv ⊢
  have HV := Lib.hid hv
  clear h1 h2 hk hp hz hv hs ho ho3 hoo
  go_enter Tryz.func97, Tryz.ntmps97
  go_wp2_with fail
  obtain ⟨n0, n1, n2, hsz, hw0⟩ := three_new w (.cells #[.slice A1 l1.length c1, .bool m1] 50) (.cells #[.slice A2 l2.length c2, .bool m2] 50) (.cells #[.slice none 0 0, .bool false] 50)
  generalize (((w.alloc (.cells #[.slice A1 l1.length c1, .bool m1] 50)).alloc (.cells #[.slice A2 l2.length c2, .bool m2] 50)).alloc (.cells #[.slice none 0 0, .bool false] 50)) = W0 at *
  have q0 := lt_of_block n0; have q1 := lt_of_block n1; have q2 := lt_of_block n2
  have KEEP : ∀ X, Below W0.heap.size W0 X → (fun w' => w'.cell? ⟨w.heap.size, 0, none⟩ = some (.slice A1 l1.length c1) ∧ w'.cell? ⟨w.heap.size, 1, none⟩ = some (.bool m1) ∧ w'.cell? ⟨w.heap.size + 1, 0, none⟩ = some (.slice A2 l2.length c2) ∧ w'.cell? ⟨w.heap.size + 1, 1, none⟩ = some (.bool m2)) X := fun X hX => ⟨(hX.cell (p := ⟨w.heap.size, 0, none⟩) q0).trans (cells_of n0 0), (hX.cell (p := ⟨w.heap.size, 1, none⟩) q0).trans (cells_of n0 1), (hX.cell (p := ⟨w.heap.size + 1, 0, none⟩) q1).trans (cells_of n1 0), (hX.cell (p := ⟨w.heap.size + 1, 1, none⟩) q1).trans (cells_of n1 1)⟩
  obtain ⟨k0, k1, k2, k3⟩ := KEEP W0 (Below.refl _ _)
  have r0 : W0.cell? ⟨w.heap.size + 1 + 1, 0, none⟩ = some (.slice none 0 0) := cells_of n2 0
  have r1 : W0.cell? ⟨w.heap.size + 1 + 1, 1, none⟩ = some (.bool false) := cells_of n2 1
  have f0 := unfrozen_of n2 0
  have f1 := unfrozen_of n2 1
  have NR := Lib.hid n2; have HKE := hide KEEP
  clear n0 n1 n2 hsz KEEP
  go_wp2_with fail
  refine ((unhide HO) _ hw0).mono ?_
  rintro e w1 ⟨rfl, hw1⟩
  obtain ⟨kk, rfl⟩ := hw1
  have hk0 : Below W0.heap.size W0 (W0.drewN kk) := belowN (Below.refl _ _) kk
  go_wp2_with fail
  go_region_held3 (fun w' => w'.cell? ⟨w.heap.size, 0, none⟩ = some (.slice A1 l1.length c1) ∧ w'.cell? ⟨w.heap.size, 1, none⟩ = some (.bool m1) ∧ w'.cell? ⟨w.heap.size + 1, 0, none⟩ = some (.slice A2 l2.length c2) ∧ w'.cell? ⟨w.heap.size + 1, 1, none⟩ = some (.bool m2)) (first | with_reducible exact ⟨(cell_set2 _ _ _ _ (by omega)).trans ((hc _ _ q0).trans k0), (cell_set2 _ _ _ _ (by omega)).trans ((hc _ _ q0).trans k1), (cell_set2 _ _ _ _ (by omega)).trans ((hc _ _ q1).trans k2), (cell_set2 _ _ _ _ (by omega)).trans ((hc _ _ q1).trans k3)⟩ | exact (unhide HKE) _ (by (first | with_reducible assumption | (repeat (first | with_reducible exact Below.refl _ _ | with_reducible assumption | refine Below.drew ?_ | (refine Below.alloc ?_ (by simp <;> omega) _) | refine belowN ?_ _))))) (first | (go_at_call 145; refine ((unhide HT) _ (below_step' hw0 (by (first | with_reducible assumption | (repeat (first | with_reducible exact Below.refl _ _ | with_reducible assumption | refine Below.drew ?_ | (refine Below.alloc ?_ (by simp <;> omega) _) | refine belowN ?_ _)))))).mono ?_; rintro e w' ⟨A5, c5, l5, rfl, hn5, hb⟩; have hbw := below_step (w := W0) (by (first | with_reducible assumption | (repeat (first | with_reducible exact Below.refl _ _ | with_reducible assumption | refine Below.drew ?_ | (refine Below.alloc ?_ (by simp <;> omega) _) | refine belowN ?_ _)))) hb; obtain ⟨hc, hfz⟩ := bcell hbw) | (go_at_call 141; refine (tsigned_any A5 c5 l5 p m2 _ (by exact hn5)).mono ?_; rw [HV.out]; rintro e w' ⟨A6, c6, l6, m6, rfl, hf6, hb⟩; have hbw := below_step (w := W0) (by (first | with_reducible assumption | (repeat (first | with_reducible exact Below.refl _ _ | with_reducible assumption | refine Below.drew ?_ | (refine Below.alloc ?_ (by simp <;> omega) _) | refine belowN ?_ _)))) hb; obtain ⟨hc, hfz⟩ := bcell hbw))
  all_goals
    have hblk : w'.heap[w.heap.size + 1 + 1]? = some (.cells #[.slice none 0 0, .bool false] 50 (0, 0)) := (hbw.block _ q2).trans NR.out
    have HBLK := Lib.hid hblk
    have hb9 : Below w.heap.size w w' := below_step' hw0 hbw
    clear hblk
    go_wp2_with fail
    exact bodyPost_ret (v := .agg #[.slice A6 l6.length c6, .bool m6]) (by simp [results, Tryz.results97, go_sem, hc, r0, r1, q2]) rfl
      ⟨A6, c6, l6, m6, rfl, hf6.upto HBLK.out (noW2_2 _ _ _ _) (set2_grown _ _ _ _), hb9.grown (set2_grown _ _ _ _) hb9.size (fun k hk => by injection hk with hk; omega)⟩

theorem tadd_any (A1 : Option Addr) (c1 : Nat) (l1 : List Nat) (m1 : Bool) (z1 : Int) (A2 : Option Addr) (c2 : Nat) (l2 : List Nat) (m2 : Bool) (z2 : Int) (w : World) (h1 : WholeF w A1 c1 l1 m1 z1) (h2 : WholeF w A2 c2 l2 m2 z2) (hk : l1.length + l2.length + 1 ≤ 35184372088832) :
    Calls Tryz.prog 97 #[.agg #[.slice A1 l1.length c1, .bool m1], .agg #[.slice A2 l2.length c2, .bool m2]] w fun e w' => WholeR w (z1 + z2) e w' := by
  by_cases hs : m1 = m2
  · exact tadd_same A1 c1 l1 m1 z1 A2 c2 l2 m2 z2 w h1 h2 hk hs
  · by_cases ho : z2.natAbs ≤ z1.natAbs
    · exact tadd_ge A1 c1 l1 m1 z1 A2 c2 l2 m2 z2 w h1 h2 hk hs ho
    · exact tadd_lt A1 c1 l1 m1 z1 A2 c2 l2 m2 z2 w h1 h2 hk hs ho
end Go.Proofs.YtmahhmdodfimbaaGreatDoor
/- Blocks that hold whole numbers of the reference; calls of two of them. -/
namespace Go.Proofs.YtmahhmdodfimbaaGreatDoor
open Go.RowKit

/-- Block b is new beside Wp and has room for a whole number of the reference. -/
structure FrW (Wp W : World) (b : Nat) : Prop where
  old : Wp.heap.size ≤ b
  zero : W.heap[b]? = some (.cells #[.slice none 0 0, .bool false] 50 (0, 0))
theorem FrW.lt {Wp W : World} {b : Nat} (h : FrW Wp W b) : b < W.heap.size := lt_of_block h.zero
theorem FrW.drew {Wp W : World} {b : Nat} (h : FrW Wp W b) : FrW Wp W.drew b := ⟨h.old, h.zero⟩
theorem FrW.below {Wp W w' : World} {b : Nat} (h : FrW Wp W b) (hb : Below W.heap.size W w') : FrW Wp w' b := ⟨h.old, (hb.block _ h.lt).trans h.zero⟩
theorem FrW.new {Wp W : World} {b : Nat} (hb : Below Wp.heap.size Wp W) (e : b = W.heap.size) : FrW Wp (W.alloc (.cells #[.slice none 0 0, .bool false] 50 (0, 0))) b := by
  subst e; exact ⟨hb.size, heap_alloc_new W _⟩
theorem FrW.alloc {Wp W : World} {b : Nat} {o : Obj} (h : FrW Wp W b) : FrW Wp (W.alloc o) b := ⟨h.old, (Below.heap_alloc W _ b h.lt).trans h.zero⟩
structure FrW2 (Wp W : World) (b c : Nat) : Prop where
  one : FrW Wp W b
  two : FrW Wp W c
  ne : b ≠ c
theorem FrW2.newR {Wp W : World} {b c : Nat} (h : FrW Wp W b) (e : c = W.heap.size) : FrW2 Wp (W.alloc (.cells #[.slice none 0 0, .bool false] 50 (0, 0))) b c := by
  have hl := h.lt
  have ho := h.old
  subst e
  exact ⟨h.alloc, ⟨by omega, heap_alloc_new W _⟩, by omega⟩
theorem FrW2.newL {Wp W : World} {b c : Nat} (h : FrW Wp W c) (e : b = W.heap.size) : FrW2 Wp (W.alloc (.cells #[.slice none 0 0, .bool false] 50 (0, 0))) b c := by
  have hl := h.lt
  have ho := h.old
  subst e
  exact ⟨⟨by omega, heap_alloc_new W _⟩, h.alloc, by omega⟩
theorem BoxW.new {W : World} {b : Nat} {A1 : Option Addr} {c1 : Nat} {l1 : List Nat} {m1 : Bool} {z1 : Int} (h1 : WholeF W A1 c1 l1 m1 z1) (e : b = W.heap.size) : BoxW (W.alloc (.cells #[.slice A1 l1.length c1, .bool m1] 50)) b z1 := by
  subst e; exact ⟨A1, c1, l1, m1, heap_alloc_new W _, h1.below ((Below.refl _ _).alloc (Nat.le_refl _) _)⟩
theorem BoxW.alloc {W : World} {b : Nat} {z : Int} {o : Obj} (h : BoxW W b z) : BoxW (W.alloc o) b z := h.below ((Below.refl _ _).alloc (Nat.le_refl _) _)
theorem WholeF.alloc {W : World} {o : Obj} {A1 : Option Addr} {c1 : Nat} {l1 : List Nat} {m1 : Bool} {z1 : Int} (h1 : WholeF W A1 c1 l1 m1 z1) : WholeF (W.alloc o) A1 c1 l1 m1 z1 := h1.below ((Below.refl _ _).alloc (Nat.le_refl _) _)
theorem FrW.facts {Wp W : World} {b : Nat} (h : FrW Wp W b) : (W.cell? ⟨b, 0, none⟩ = some (.slice none 0 0) ∧ W.cell? ⟨b, 1, none⟩ = some (.bool false)) ∧
    (W.frozen? ⟨b, 0, none⟩ = false ∧ W.frozen? ⟨b, 1, none⟩ = false) ∧
    ((∀ o, (W.alloc o).cell? ⟨b, 0, none⟩ = some (.slice none 0 0)) ∧ (∀ o, (W.alloc o).cell? ⟨b, 1, none⟩ = some (.bool false))) ∧
    ((∀ o, (W.alloc o).frozen? ⟨b, 0, none⟩ = false) ∧ (∀ o, (W.alloc o).frozen? ⟨b, 1, none⟩ = false)) ∧
    ¬ (b = W.heap.size) ∧ ¬ (W.heap.size = b) :=
  ⟨⟨cells_of h.zero 0, cells_of h.zero 1⟩, ⟨unfrozen_of h.zero 0, unfrozen_of h.zero 1⟩,
   ⟨fun o => cells_of (h.alloc (o := o)).zero 0, fun o => cells_of (h.alloc (o := o)).zero 1⟩,
   ⟨fun o => unfrozen_of (h.alloc (o := o)).zero 0, fun o => unfrozen_of (h.alloc (o := o)).zero 1⟩, by have := h.lt; omega, by have := h.lt; omega⟩
theorem wput_one {Wp W : World} {b : Nat} {A1 : Option Addr} {c1 : Nat} {l1 : List Nat} {m1 : Bool} {z1 : Int} (hf : FrW Wp W b) (h1 : WholeF W A1 c1 l1 m1 z1) (hb : Below Wp.heap.size Wp W) :
    BoxW ((W.setCell ⟨b, 0, none⟩ (.slice A1 l1.length c1)).setCell ⟨b, 1, none⟩ (.bool m1)) b z1 ∧ Below Wp.heap.size Wp ((W.setCell ⟨b, 0, none⟩ (.slice A1 l1.length c1)).setCell ⟨b, 1, none⟩ (.bool m1)) ∧ Wp.heap.size ≤ b :=
  ⟨⟨A1, c1, l1, m1, set2_block hf.zero, h1.upto hf.zero (noW2_2 _ _ _ _) (set2_grown _ _ _ _)⟩, hb.grown (set2_grown _ _ _ _) hb.size (fun k hk => by injection hk with hk; have := hf.old; omega), hf.old⟩
theorem wput_two {Wp W : World} {b c : Nat} {A1 : Option Addr} {c1 : Nat} {l1 : List Nat} {m1 : Bool} {z1 : Int} {A2 : Option Addr} {c2 : Nat} {l2 : List Nat} {m2 : Bool} {z2 : Int} (hf : FrW2 Wp W b c) (h1 : WholeF W A1 c1 l1 m1 z1) (h2 : WholeF W A2 c2 l2 m2 z2) (hb : Below Wp.heap.size Wp W) :
    BoxW ((((W.setCell ⟨b, 0, none⟩ (.slice A1 l1.length c1)).setCell ⟨b, 1, none⟩ (.bool m1)).setCell ⟨c, 0, none⟩ (.slice A2 l2.length c2)).setCell ⟨c, 1, none⟩ (.bool m2)) b z1 ∧ BoxW ((((W.setCell ⟨b, 0, none⟩ (.slice A1 l1.length c1)).setCell ⟨b, 1, none⟩ (.bool m1)).setCell ⟨c, 0, none⟩ (.slice A2 l2.length c2)).setCell ⟨c, 1, none⟩ (.bool m2)) c z2 ∧ Below Wp.heap.size Wp ((((W.setCell ⟨b, 0, none⟩ (.slice A1 l1.length c1)).setCell ⟨b, 1, none⟩ (.bool m1)).setCell ⟨c, 0, none⟩ (.slice A2 l2.length c2)).setCell ⟨c, 1, none⟩ (.bool m2)) ∧ Wp.heap.size ≤ b ∧ Wp.heap.size ≤ c := by
  have g1 := set2_grown W b (.slice A1 l1.length c1) (.bool m1)
  have k2 := h2.upto hf.one.zero (noW2_2 _ _ _ _) g1
  have kc := (g1.block c hf.two.lt (fun e => hf.ne (by injection e with e; exact e.symm))).trans hf.two.zero
  have kb := (wput_one hf.one h1 hb)
  have ks := kb.2.1.size
  obtain ⟨⟨A, cap, l, m, e1, e2⟩, kb2, _⟩ := kb
  have g2 := set2_grown ((W.setCell ⟨b, 0, none⟩ (.slice A1 l1.length c1)).setCell ⟨b, 1, none⟩ (.bool m1)) c (.slice A2 l2.length c2) (.bool m2)
  exact ⟨⟨A, cap, l, m, (g2.block b (lt_of_block e1) (fun e => hf.ne (by injection e))).trans e1, e2.upto kc (noW2_2 _ _ _ _) g2⟩,
    ⟨A2, c2, l2, m2, set2_block kc, k2.upto kc (noW2_2 _ _ _ _) g2⟩, kb2.grown g2 ks (fun k hk => by injection hk with hk; have := hf.two.old; omega), hf.one.old, hf.two.old⟩
theorem wput_nn {Wp W : World} {b c : Nat} {A1 : Option Addr} {c1 : Nat} {l1 : List Nat} {m1 : Bool} {z1 : Int} {A2 : Option Addr} {c2 : Nat} {l2 : List Nat} {m2 : Bool} {z2 : Int} (h1 : WholeF W A1 c1 l1 m1 z1) (h2 : WholeF W A2 c2 l2 m2 z2) (hb : Below Wp.heap.size Wp W) (eb : b = W.heap.size) (ec : c = W.heap.size + 1) :
    BoxW ((W.alloc (.cells #[.slice A1 l1.length c1, .bool m1] 50)).alloc (.cells #[.slice A2 l2.length c2, .bool m2] 50)) b z1 ∧ BoxW ((W.alloc (.cells #[.slice A1 l1.length c1, .bool m1] 50)).alloc (.cells #[.slice A2 l2.length c2, .bool m2] 50)) c z2 ∧ Below Wp.heap.size Wp ((W.alloc (.cells #[.slice A1 l1.length c1, .bool m1] 50)).alloc (.cells #[.slice A2 l2.length c2, .bool m2] 50)) ∧ Wp.heap.size ≤ b ∧ Wp.heap.size ≤ c :=
  ⟨(BoxW.new h1 eb).alloc, BoxW.new h2.alloc (by rw [ec, World.size_alloc]), (hb.alloc hb.size _).alloc (hb.alloc hb.size _).size _, by have := hb.size; omega, by have := hb.size; omega⟩
theorem wput_mm {Wp W : World} {b c : Nat} {A1 : Option Addr} {c1 : Nat} {l1 : List Nat} {m1 : Bool} {z1 : Int} {A2 : Option Addr} {c2 : Nat} {l2 : List Nat} {m2 : Bool} {z2 : Int} (h1 : WholeF W A1 c1 l1 m1 z1) (h2 : WholeF W A2 c2 l2 m2 z2) (hb : Below Wp.heap.size Wp W) (ec : c = W.heap.size) (eb : b = W.heap.size + 1) :
    BoxW ((W.alloc (.cells #[.slice A2 l2.length c2, .bool m2] 50)).alloc (.cells #[.slice A1 l1.length c1, .bool m1] 50)) b z1 ∧ BoxW ((W.alloc (.cells #[.slice A2 l2.length c2, .bool m2] 50)).alloc (.cells #[.slice A1 l1.length c1, .bool m1] 50)) c z2 ∧ Below Wp.heap.size Wp ((W.alloc (.cells #[.slice A2 l2.length c2, .bool m2] 50)).alloc (.cells #[.slice A1 l1.length c1, .bool m1] 50)) ∧ Wp.heap.size ≤ b ∧ Wp.heap.size ≤ c := by
  obtain ⟨x1, x2, x3, x4, x5⟩ := wput_nn h2 h1 hb ec eb
  exact ⟨x2, x1, x3, x5, x4⟩
theorem wput_ns {Wp W : World} {b c : Nat} {A1 : Option Addr} {c1 : Nat} {l1 : List Nat} {m1 : Bool} {z1 : Int} {A2 : Option Addr} {c2 : Nat} {l2 : List Nat} {m2 : Bool} {z2 : Int} (hf : FrW Wp W c) (h1 : WholeF W A1 c1 l1 m1 z1) (h2 : WholeF W A2 c2 l2 m2 z2) (hb : Below Wp.heap.size Wp W) (eb : b = W.heap.size) :
    BoxW (((W.alloc (.cells #[.slice A1 l1.length c1, .bool m1] 50)).setCell ⟨c, 0, none⟩ (.slice A2 l2.length c2)).setCell ⟨c, 1, none⟩ (.bool m2)) b z1 ∧ BoxW (((W.alloc (.cells #[.slice A1 l1.length c1, .bool m1] 50)).setCell ⟨c, 0, none⟩ (.slice A2 l2.length c2)).setCell ⟨c, 1, none⟩ (.bool m2)) c z2 ∧ Below Wp.heap.size Wp (((W.alloc (.cells #[.slice A1 l1.length c1, .bool m1] 50)).setCell ⟨c, 0, none⟩ (.slice A2 l2.length c2)).setCell ⟨c, 1, none⟩ (.bool m2)) ∧ Wp.heap.size ≤ b ∧ Wp.heap.size ≤ c := by
  have hl := hf.lt
  have hx := wput_one hf.alloc h2.alloc (hb.alloc hb.size (.cells #[.slice A1 l1.length c1, .bool m1] 50))
  have hn := (BoxW.new h1 eb)
  obtain ⟨A, cap, l, m, e1, e2⟩ := hn
  have g2 := set2_grown (W.alloc (.cells #[.slice A1 l1.length c1, .bool m1] 50)) c (.slice A2 l2.length c2) (.bool m2)
  exact ⟨⟨A, cap, l, m, (g2.block b (lt_of_block e1) (fun e => by injection e with e; omega)).trans e1, e2.upto (hf.alloc (o := _)).zero (noW2_2 _ _ _ _) g2⟩, hx.1, hx.2.1, by have := hb.size; omega, hx.2.2⟩
/-- Function F makes of the whole numbers a and b the whole number c, in every world that holds what w holds. -/
def OpW2 (w : World) (F : Nat) (a b c : Int) : Prop := ∀ (A1 : Option Addr) (c1 : Nat) (l1 : List Nat) (m1 : Bool) (A2 : Option Addr) (c2 : Nat) (l2 : List Nat) (m2 : Bool) (W : World), Below w.heap.size w W → WholeF W A1 c1 l1 m1 a → WholeF W A2 c2 l2 m2 b → Calls Tryz.prog F #[(Value.agg #[.slice A1 l1.length c1, .bool m1]), (Value.agg #[.slice A2 l2.length c2, .bool m2])] W fun e w' => WholeR W c e w'
/-- .. and of a and b the number q. -/
def OpRQ (w : World) (F : Nat) (a b : Int) (q : Rat) : Prop := ∀ (A1 : Option Addr) (c1 : Nat) (l1 : List Nat) (m1 : Bool) (A2 : Option Addr) (c2 : Nat) (l2 : List Nat) (m2 : Bool) (W : World), Below w.heap.size w W → WholeF W A1 c1 l1 m1 a → WholeF W A2 c2 l2 m2 b → Calls Tryz.prog F #[(Value.agg #[.slice A1 l1.length c1, .bool m1]), (Value.agg #[.slice A2 l2.length c2, .bool m2])] W fun e w' => QR W q e w'
theorem cell_set4 {w : World} {g : Nat} (u0 u1 u2 u3 : Value) (b o : Nat) (h : b ≠ g) : ((((w.setCell ⟨g, 0, none⟩ u0).setCell ⟨g, 1, none⟩ u1).setCell ⟨g, 2, none⟩ u2).setCell ⟨g, 3, none⟩ u3).cell? ⟨b, o, none⟩ = w.cell? ⟨b, o, none⟩ := by
  rw [cell_set1 _ _ _ _ h, cell_set1 _ _ _ _ h, cell_set1 _ _ _ _ h, cell_set1 _ _ _ _ h]

end Go.Proofs.YtmahhmdodfimbaaGreatDoor
/- The reference: quotients in lowest terms: the walk. -/
namespace Go.Proofs.YtmahhmdodfimbaaGreatDoor
open Go.RowKit

set_option maxRecDepth 100000 in
set_option maxHeartbeats 8000000 in
theorem tratio_any (A1 : Option Addr) (c1 : Nat) (l1 : List Nat) (m1 : Bool) (n : Int) (A2 : Option Addr) (c2 : Nat) (l2 : List Nat) (m2 : Bool) (d : Int) (K : Nat) (w : World) (h1 : WholeF w A1 c1 l1 m1 n) (h2 : WholeF w A2 c2 l2 m2 d) (hd : d ≠ 0) (hn : n.natAbs < B32 ^ K) (hdK : d.natAbs < B32 ^ K) (hK : K + 1 ≤ 35184372088832) :
    Calls Tryz.prog 92 #[.agg #[.slice A1 l1.length c1, .bool m1], .agg #[.slice A2 l2.length c2, .bool m2]] w fun e w' => QR w (Rat.divInt n d) e w' := by
  have hl : ¬ l2.length = 0 := fun e => by have := h2.nat.zero_iff.2 e; omega
  have HI := hide (fun W => tisn_any A2 c2 l2.length m2 W)
  rw [decide_eq_false hl] at HI
  obtain ⟨n', d', q, hq, hq2, hd', hn', hdK', hneg⟩ : ∃ (n' d' : Int) (q : Rat), q = Rat.divInt n d ∧ q = Rat.divInt n' d' ∧ 0 < d' ∧ n'.natAbs < B32 ^ K ∧ d'.natAbs < B32 ^ K ∧ ((m2 = true ∧ n' = -n ∧ d' = -d) ∨ (m2 = false ∧ n' = n ∧ d' = d)) := by
    by_cases h : d < 0
    · exact ⟨-n, -d, _, rfl, (divInt_negneg n d hd).symm, by omega, by rw [Int.natAbs_neg]; exact hn, by rw [Int.natAbs_neg]; exact hdK, .inl ⟨by rw [h2.sign]; exact decide_eq_true h, rfl, rfl⟩⟩
    · exact ⟨n, d, _, rfl, rfl, by omega, hn, hdK, .inr ⟨by rw [h2.sign]; exact decide_eq_false h, rfl, rfl⟩⟩
  rw [← hq]
  have HQ2 := Lib.hid hq2
  have HDP := hide hd'; have HNK := hide hn'; have HDK := hide hdK'; have HNEG := hide hneg; have HK := hide hK
  have H1 := hide h1; have H2 := hide h2
  have HN1 := hide (fun W (hW : Below w.heap.size w W) => tneg_any A1 c1 l1 m1 n W (h1.below hW))
  have HN2 := hide (fun W (hW : Below w.heap.size w W) => tneg_any A2 c2 l2 m2 d W (h2.below hW))
  clear h1 h2 hd hn hdK hl hq hq2 hd' hn' hdK' hneg hK
  go_enter Tryz.func92, Tryz.ntmps92
  go_wp2_with fail
  obtain ⟨n0, n1, n2, hsz, hw0⟩ := three_new w (.cells #[.slice A1 l1.length c1, .bool m1] 50) (.cells #[.slice A2 l2.length c2, .bool m2] 50) (.cells #[.slice none 0 0, .bool false, .slice none 0 0, .bool false] 52)
  generalize (((w.alloc (.cells #[.slice A1 l1.length c1, .bool m1] 50)).alloc (.cells #[.slice A2 l2.length c2, .bool m2] 50)).alloc (.cells #[.slice none 0 0, .bool false, .slice none 0 0, .bool false] 52)) = W0 at *
  have hS0 : RaS w W0 n d := ⟨⟨_, _, _, _, n0, (unhide H1).below hw0⟩, ⟨_, _, _, _, n1, (unhide H2).below hw0⟩, n2, hw0⟩
  refine ((unhide HI) _).mono ?_
  rintro e W1 ⟨rfl, hb⟩
  have hS1 := hS0.below hb
  have j0 := (hb.block _ (lt_of_block n0)).trans n0
  have j1 := (hb.block _ (lt_of_block n1)).trans n1
  have hw1 := below_step' hw0 hb
  clear hS0 hb n0 n1 n2 hw0 hsz HI
  have k0 : W1.cell? ⟨w.heap.size, 0, none⟩ = some (.slice A1 l1.length c1) := cells_of j0 0
  have k1 : W1.cell? ⟨w.heap.size, 1, none⟩ = some (.bool m1) := cells_of j0 1
  have k2 : W1.cell? ⟨w.heap.size + 1, 0, none⟩ = some (.slice A2 l2.length c2) := cells_of j1 0
  have k3 : W1.cell? ⟨w.heap.size + 1, 1, none⟩ = some (.bool m2) := cells_of j1 1
  have HS := hide hS1; have J := hide (And.intro j0 j1); have HW1 := Lib.hid hw1
  clear hS1 hw1 j0 j1
  go_upto_if 14 with (fail)
  go_cut [] (fun wx => RaS w wx n' d')
  case first =>
    rcases unhide HNEG with ⟨e1, e2, e3⟩ | ⟨e1, e2, e3⟩
    · subst e1 e2 e3
      have q0 : w.heap.size < W1.heap.size := lt_of_block (unhide J).1
      have q1 : w.heap.size + 1 < W1.heap.size := lt_of_block (unhide J).2
      have KEEP : ∀ X, Below W1.heap.size W1 X → (fun w' => w'.cell? ⟨w.heap.size, 0, none⟩ = some (.slice A1 l1.length c1) ∧ w'.cell? ⟨w.heap.size, 1, none⟩ = some (.bool m1) ∧ w'.cell? ⟨w.heap.size + 1, 0, none⟩ = some (.slice A2 l2.length c2) ∧ w'.cell? ⟨w.heap.size + 1, 1, none⟩ = some (.bool true)) X := fun X hX => ⟨(hX.cell (p := ⟨w.heap.size, 0, none⟩) q0).trans k0, (hX.cell (p := ⟨w.heap.size, 1, none⟩) q0).trans k1, (hX.cell (p := ⟨w.heap.size + 1, 0, none⟩) q1).trans k2, (hX.cell (p := ⟨w.heap.size + 1, 1, none⟩) q1).trans k3⟩
      have HKE := hide KEEP
      have f0 := unfrozen_of (unhide J).1 0
      have f1 := unfrozen_of (unhide J).1 1
      have f2 := unfrozen_of (unhide J).2 0
      have f3 := unfrozen_of (unhide J).2 1
      clear HNEG KEEP
      go_wp2_with fail
      go_region_with (first | (go_at_call_of 138 (Value.agg #[.slice A1 l1.length c1, .bool m1]); refine ((unhide HN1) _ (below_step' HW1.out (by (first | with_reducible assumption | (repeat (first | with_reducible exact Below.refl _ _ | with_reducible assumption | refine Below.drew ?_ | (refine Below.alloc ?_ (by simp <;> omega) _))))))).mono ?_; rintro e w' ⟨A5, c5, l5, m5, rfl, hf5n, hb⟩; (try (first | replace hf5 := WholeF.below hf5 hb | replace hf5 := (WholeF.below hf5 (Below.drew (Below.refl _ _))).below hb)); (try (first | replace hf6 := WholeF.below hf6 hb | replace hf6 := (WholeF.below hf6 (Below.drew (Below.refl _ _))).below hb)); have hf5 := hf5n; clear hf5n; have hbw := below_step (w := W1) (by (first | with_reducible assumption | (repeat (first | with_reducible exact Below.refl _ _ | with_reducible assumption | refine Below.drew ?_ | (refine Below.alloc ?_ (by simp <;> omega) _))))) hb; obtain ⟨hc, hfz⟩ := bcell hbw) | (go_at_call_of 138 (Value.agg #[.slice A2 l2.length c2, .bool true]); refine ((unhide HN2) _ (below_step' HW1.out (by (first | with_reducible assumption | (repeat (first | with_reducible exact Below.refl _ _ | with_reducible assumption | refine Below.drew ?_ | (refine Below.alloc ?_ (by simp <;> omega) _))))))).mono ?_; rintro e w' ⟨A6, c6, l6, m6, rfl, hf6n, hb⟩; (try (first | replace hf5 := WholeF.below hf5 hb | replace hf5 := (WholeF.below hf5 (Below.drew (Below.refl _ _))).below hb)); (try (first | replace hf6 := WholeF.below hf6 hb | replace hf6 := (WholeF.below hf6 (Below.drew (Below.refl _ _))).below hb)); have hf6 := hf6n; clear hf6n; have hbw := below_step (w := W1) (by (first | with_reducible assumption | (repeat (first | with_reducible exact Below.refl _ _ | with_reducible assumption | refine Below.drew ?_ | (refine Below.alloc ?_ (by simp <;> omega) _))))) hb; obtain ⟨hc, hfz⟩ := bcell hbw))
      all_goals
        go_wp2_with fail
        go_meet
        case rel =>
          have HS9 := (unhide HS).below hbw
          exact HS9.put hf5 hf6
    · subst e1 e2 e3
      clear HNEG
      go_wp2_with fail
      go_meet
      case rel => exact unhide HS
  case rest =>
    clear HNEG k0 k1 k2 k3 HS J HW1 HN1 HN2 H1 H2
    obtain ⟨⟨A3, c3, l3, m3, kn, fn⟩, ⟨A4, c4, l4, m4, kd, fd⟩, kq, hb⟩ := hcut
    have w0 : wc.cell? ⟨w.heap.size, 0, none⟩ = some (.slice A3 l3.length c3) := cells_of kn 0
    have w1 : wc.cell? ⟨w.heap.size, 1, none⟩ = some (.bool m3) := cells_of kn 1
    have w2 : wc.cell? ⟨w.heap.size + 1, 0, none⟩ = some (.slice A4 l4.length c4) := cells_of kd 0
    have w3 : wc.cell? ⟨w.heap.size + 1, 1, none⟩ = some (.bool m4) := cells_of kd 1
    have p0 : wc.cell? ⟨w.heap.size + 1 + 1, 0, none⟩ = some (.slice none 0 0) := cells_of kq 0
    have p1 : wc.cell? ⟨w.heap.size + 1 + 1, 1, none⟩ = some (.bool false) := cells_of kq 1
    have p2 : wc.cell? ⟨w.heap.size + 1 + 1, 2, none⟩ = some (.slice none 0 0) := cells_of kq 2
    have p3 : wc.cell? ⟨w.heap.size + 1 + 1, 3, none⟩ = some (.bool false) := cells_of kq 3
    have u0 := unfrozen_of kn 0; have u1 := unfrozen_of kn 1; have u2 := unfrozen_of kd 0; have u3 := unfrozen_of kd 1
    have v0 := unfrozen_of kq 0; have v1 := unfrozen_of kq 1; have v2 := unfrozen_of kq 2; have v3 := unfrozen_of kq 3
    have q0 := lt_of_block kn; have q1 := lt_of_block kd; have q2 := lt_of_block kq
    have hSW : RaS w wc n' d' := ⟨⟨A3, c3, l3, m3, kn, fn⟩, ⟨A4, c4, l4, m4, kd, fd⟩, kq, hb⟩
    have ho := tisOne_any A4 c4 l4 m4 d' wc fd
    have FN := hide fn; have FD := hide fd; have KQ := Lib.hid kq; have HB := hide hb; have HSW := hide hSW
    obtain ⟨hnum, hden⟩ := divInt_pos n' d' (unhide HDP)
    rw [← HQ2.out] at hnum hden
    obtain ⟨g, hg⟩ : ∃ g, g = n'.natAbs.gcd d'.natAbs := ⟨_, rfl⟩
    rw [← hg] at hnum hden
    have HNUM := Lib.hid hnum.symm; have HDEN := Lib.hid hden.symm; have HGG := Lib.hid hg
    clear kn kd kq fn fd hb hSW hnum hden
    by_cases hd1 : d' = 1
    · rw [decide_eq_true hd1] at ho
      have HO := hide ho
      have hg1 : g = 1 := by rw [hg, hd1]; simp
      have e1 : q.num = n' := by
        rw [← HNUM.out, hg1, Nat.div_one]
        by_cases h : n' < 0
        · rw [if_pos (decide_eq_true h)]; omega
        · rw [if_neg (by simpa using h)]; omega
      have e2 : (q.den : Int) = d' := by
        rw [← HDEN.out, hg1, Nat.div_one]; have := unhide HDP; omega
      have E := hide (And.intro e1 e2)
      clear ho hg hg1 hd1 e1 e2
      go_wp2_with fail
      refine (unhide HO).mono ?_
      rintro e W2 ⟨rfl, hb2⟩
      obtain ⟨hc, hfz⟩ := bcell hb2
      have hblk := (hb2.block _ q2).trans KQ.out
      have HBLK := Lib.hid hblk; have HB2 := hide hb2
      clear hblk hb2
      go_wp2_with fail
      exact bodyPost_ret (v := .agg #[.slice A3 l3.length c3, .bool m3, .slice A4 l4.length c4, .bool m4]) (by simp [results, Tryz.results92, go_sem, hc, p0, p1, p2, p3, q2]) rfl
        ⟨A3, c3, l3, m3, A4, c4, l4, m4, rfl, by rw [(unhide E).1]; exact ((unhide FN).below (unhide HB2)).upto HBLK.out (noW2_4 _ _ _ _ _ _ _ _) (set4_grown _ _ _ _ _ _), by rw [(unhide E).2]; exact ((unhide FD).below (unhide HB2)).upto HBLK.out (noW2_4 _ _ _ _ _ _ _ _) (set4_grown _ _ _ _ _ _), (below_step' (unhide HB) (unhide HB2)).grown (set4_grown _ _ _ _ _ _) (below_step' (unhide HB) (unhide HB2)).size (fun k hk => by injection hk with hk; omega)⟩
    · rw [decide_eq_false hd1] at ho
      have hdv := fun W (hW : Below wc.heap.size wc W) => divisor_any A3 A4 c3 c4 l3 l4 n'.natAbs d'.natAbs K W ((unhide FN).nat.below hW) ((unhide FD).nat.below hW) (unhide HNK) (unhide HDK) (unhide HK)
      rw [← hg] at hdv
      have HO := hide ho; have HDV := hide hdv
      have hg0 : 0 < g := by rw [hg]; exact Nat.gcd_pos_of_pos_right _ (by have := unhide HDP; omega)
      have hgl : g ≤ d'.natAbs := by rw [hg]; exact Nat.gcd_le_right _ (by have := unhide HDP; omega)
      have HG0 := hide hg0; have HGL := hide hgl
      have hln := (unhide FN).nat.len (unhide HNK); have hld := (unhide FD).nat.len (unhide HDK)
      have HLN := hide hln; have HLD := hide hld
      clear ho hdv hg hg0 hgl hd1 hln hld
      go_wp2_with fail
      refine (unhide HO).mono ?_
      rintro e W2 ⟨rfl, hb2⟩
      obtain ⟨hc2, hf2⟩ := bcell hb2
      have HB2 := hide hb2
      clear hb2
      go_wp2_with fail
      refine ((unhide HDV) _ (unhide HB2)).mono ?_
      rintro e W3 ⟨A5, c5, l5, rfl, h5, hb3⟩
      have hb3' := below_step' (unhide HB2) hb3
      replace hb3 := hb3'
      obtain ⟨hc3, hf3⟩ := bcell hb3
      have hlg := h5.len (Nat.lt_of_le_of_lt (unhide HGL) (unhide HDK))
      have H5 := hide h5; have HLG := hide hlg; have HB3 := hide hb3
      clear hc2 hf2 hb3' hlg HDV HO HB2
      by_cases hl5 : l5.length = 1
      · obtain ⟨b5, o5, rfl, hb5, hc5⟩ := h5.ws (by omega)
        have hcell := hc5 0 (by omega)
        rw [Nat.add_zero, show Wd.g l5 0 = g by rw [one_word B32 l5 hl5]; exact h5.val] at hcell
        have hl5b : ((l5.length : Int) != 1) = false := by rw [hl5]; rfl
        have hl50 : 0 < l5.length := by omega
        have hcap := h5.cap1; have hcap2 := h5.cap2
        by_cases hg1 : g = 1
        · have e1 : q.num = n' := by
            rw [← HNUM.out, hg1, Nat.div_one]
            by_cases h : n' < 0
            · rw [if_pos (decide_eq_true h)]; omega
            · rw [if_neg (by simpa using h)]; omega
          have e2 : (q.den : Int) = d' := by
            rw [← HDEN.out, hg1, Nat.div_one]; have := unhide HDP; omega
          have E := hide (And.intro e1 e2)
          have hblk := (hb3.block _ q2).trans KQ.out
          have HBLK := Lib.hid hblk
          rw [hg1] at hcell
          clear hblk hg1 e1 e2 h5 hc5 hb3 hl5 hb5
          go_wp2_with fail
          exact bodyPost_ret (v := .agg #[.slice A3 l3.length c3, .bool m3, .slice A4 l4.length c4, .bool m4]) (by simp [results, Tryz.results92, go_sem, hc3, p0, p1, p2, p3, q2]) rfl
            ⟨A3, c3, l3, m3, A4, c4, l4, m4, rfl, by rw [(unhide E).1]; exact ((unhide FN).below (unhide HB3)).upto HBLK.out (noW2_4 _ _ _ _ _ _ _ _) (set4_grown _ _ _ _ _ _), by rw [(unhide E).2]; exact ((unhide FD).below (unhide HB3)).upto HBLK.out (noW2_4 _ _ _ _ _ _ _ _) (set4_grown _ _ _ _ _ _), (below_step' (unhide HB) (unhide HB3)).grown (set4_grown _ _ _ _ _ _) (below_step' (unhide HB) (unhide HB3)).size (fun k hk => by injection hk with hk; omega)⟩
        · have hgb : ((g : Int) == 1) = false := beq_eq_false_iff_ne.2 (by omega)
          have hgb2 : ((g : Int) != 1) = true := by simp; omega
          obtain ⟨AG, hAG⟩ : ∃ A : Option Addr, A = some ⟨b5, o5, none⟩ := ⟨_, rfl⟩
          have hp1 := parts_any A3 (some ⟨b5, o5, none⟩) c3 c5 l3 l5 n'.natAbs g W3 ((unhide FN).nat.below hb3) (unhide H5) (unhide HG0) (by have := unhide HLN; have := unhide HK; omega) (by have := unhide HLG; have := unhide HK; omega)
          have HP1 := hide hp1
          clear hg1 h5 hc5 hb3 hl5 hb5 hp1 hAG AG
          go_wp2_with fail
          refine (unhide HP1).mono ?_
          rintro e W4 ⟨A6, c6, l6, A7, c7, l7, rfl, h6, h7, hb4⟩
          have hb4' := below_step' (unhide HB3) hb4
          have h5' := (unhide H5).below hb4
          obtain ⟨hc4, hf4⟩ := bcell hb4'
          have hp2 := parts_any A4 (some ⟨b5, o5, none⟩) c4 c5 l4 l5 d'.natAbs g W4 ((unhide FD).nat.below hb4') h5' (unhide HG0) (by have := unhide HLD; have := unhide HK; omega) (by have := unhide HLG; have := unhide HK; omega)
          have HP2 := hide hp2; have H6 := hide h6; have HB4 := hide hb4'
          clear hp2 h6 h7 hb4 hb4' h5' hc3 hf3 HP1
          go_wp2_with fail
          refine (unhide HP2).mono ?_
          rintro e W5 ⟨A8, c8, l8, A9, c9, l9, rfl, h8, h9, hb5⟩
          have hb5' := below_step' (unhide HB4) hb5
          obtain ⟨hc5, hf5⟩ := bcell hb5'
          have hs1 := tsigned_any A6 c6 l6 (n'.natAbs / g) m3 W5 ((unhide H6).below hb5)
          have hm3 : (if m3 = true then -((n'.natAbs / g : Nat) : Int) else ((n'.natAbs / g : Nat) : Int)) = q.num := by rw [(unhide FN).sign]; exact HNUM.out
          rw [hm3] at hs1
          have HS1 := hide hs1; have H8 := hide h8; have HB5 := hide hb5'
          clear hs1 h8 h9 hb5 hb5' hc4 hf4 hm3 HP2
          go_wp2_with fail
          refine (unhide HS1).mono ?_
          rintro e W6 ⟨A10, c10, l10, m10, rfl, h10, hb6⟩
          have hb6' := below_step' (unhide HB5) hb6
          obtain ⟨hc6, hf6⟩ := bcell hb6'
          have hs2 := tsigned_any A8 c8 l8 (d'.natAbs / g) false W6 ((unhide H8).below hb6)
          rw [if_neg Bool.false_ne_true, HDEN.out] at hs2
          have HS2 := hide hs2; have H10 := hide h10; have HB6 := hide hb6'
          clear hs2 h10 hb6 hb6' hc5 hf5 HS1
          go_wp2_with fail
          refine (unhide HS2).mono ?_
          rintro e W7 ⟨A11, c11, l11, m11, rfl, h11, hb7⟩
          have hb7' := below_step' (unhide HB6) hb7
          obtain ⟨hc7, hf7⟩ := bcell hb7'
          have hsw7 := (unhide HSW).below hb7'
          have HSW7 := hide hsw7
          have H10' := hide ((unhide H10).below hb7); have H11 := hide h11
          clear h11 hb7 hb7' hc6 hf6 hsw7 HS2
          go_wp2_with fail
          have hS9 := (unhide HSW7).put (unhide H10') (unhide H11)
          have hk1 := (unhide HSW7).keep (.slice A10 l10.length c10) (.bool m10) (.slice A11 l11.length c11) (.bool m11) (unhide H10')
          have hk2 := (unhide HSW7).keep (.slice A10 l10.length c10) (.bool m10) (.slice A11 l11.length c11) (.bool m11) (unhide H11)
          exact bodyPost_ret (v := .agg #[.slice A10 l10.length c10, .bool m10, .slice A11 l11.length c11, .bool m11]) (by simp [results, Tryz.results92, go_sem, hc7, p0, p1, p2, p3, q2]) rfl
            ⟨A10, c10, l10, m10, A11, c11, l11, m11, rfl, hk1.upto hS9.bq (noW2_4 _ _ _ _ _ _ _ _) (set4_grown _ _ _ _ _ _), hk2.upto hS9.bq (noW2_4 _ _ _ _ _ _ _ _) (set4_grown _ _ _ _ _ _), hS9.hb.grown (set4_grown _ _ _ _ _ _) hS9.hb.size (fun k hk => by injection hk with hk; omega)⟩
      · have hl5b : ((l5.length : Int) != 1) = true := by simp; omega
        have hl5c : ((l5.length : Int) == 1) = false := beq_eq_false_iff_ne.2 (by omega)
        have hcap := h5.cap1; have hcap2 := h5.cap2
        have hp1 := parts_any A3 A5 c3 c5 l3 l5 n'.natAbs g W3 ((unhide FN).nat.below hb3) (unhide H5) (unhide HG0) (by have := unhide HLN; have := unhide HK; omega) (by have := unhide HLG; have := unhide HK; omega)
        have HP1 := hide hp1
        clear h5 hb3 hl5 hp1
        go_wp2_with fail
        refine (unhide HP1).mono ?_
        rintro e W4 ⟨A6, c6, l6, A7, c7, l7, rfl, h6, h7, hb4⟩
        have hb4' := below_step' (unhide HB3) hb4
        have h5' := (unhide H5).below hb4
        obtain ⟨hc4, hf4⟩ := bcell hb4'
        have hp2 := parts_any A4 A5 c4 c5 l4 l5 d'.natAbs g W4 ((unhide FD).nat.below hb4') h5' (unhide HG0) (by have := unhide HLD; have := unhide HK; omega) (by have := unhide HLG; have := unhide HK; omega)
        have HP2 := hide hp2; have H6 := hide h6; have HB4 := hide hb4'
        clear hp2 h6 h7 hb4 hb4' h5' hc3 hf3 HP1
        go_wp2_with fail
        refine (unhide HP2).mono ?_
        rintro e W5 ⟨A8, c8, l8, A9, c9, l9, rfl, h8, h9, hb5⟩
        have hb5' := below_step' (unhide HB4) hb5
        obtain ⟨hc5, hf5⟩ := bcell hb5'
        have hs1 := tsigned_any A6 c6 l6 (n'.natAbs / g) m3 W5 ((unhide H6).below hb5)
        have hm3 : (if m3 = true then -((n'.natAbs / g : Nat) : Int) else ((n'.natAbs / g : Nat) : Int)) = q.num := by rw [(unhide FN).sign]; exact HNUM.out
        rw [hm3] at hs1
        have HS1 := hide hs1; have H8 := hide h8; have HB5 := hide hb5'
        clear hs1 h8 h9 hb5 hb5' hc4 hf4 hm3 HP2
        go_wp2_with fail
        refine (unhide HS1).mono ?_
        rintro e W6 ⟨A10, c10, l10, m10, rfl, h10, hb6⟩
        have hb6' := below_step' (unhide HB5) hb6
        obtain ⟨hc6, hf6⟩ := bcell hb6'
        have hs2 := tsigned_any A8 c8 l8 (d'.natAbs / g) false W6 ((unhide H8).below hb6)
        rw [if_neg Bool.false_ne_true, HDEN.out] at hs2
        have HS2 := hide hs2; have H10 := hide h10; have HB6 := hide hb6'
        clear hs2 h10 hb6 hb6' hc5 hf5 HS1
        go_wp2_with fail
        refine (unhide HS2).mono ?_
        rintro e W7 ⟨A11, c11, l11, m11, rfl, h11, hb7⟩
        have hb7' := below_step' (unhide HB6) hb7
        obtain ⟨hc7, hf7⟩ := bcell hb7'
        have hsw7 := (unhide HSW).below hb7'
        have HSW7 := hide hsw7
        have H10' := hide ((unhide H10).below hb7); have H11 := hide h11
        clear h11 hb7 hb7' hc6 hf6 hsw7 HS2
        go_wp2_with fail
        have hS9 := (unhide HSW7).put (unhide H10') (unhide H11)
        have hk1 := (unhide HSW7).keep (.slice A10 l10.length c10) (.bool m10) (.slice A11 l11.length c11) (.bool m11) (unhide H10')
        have hk2 := (unhide HSW7).keep (.slice A10 l10.length c10) (.bool m10) (.slice A11 l11.length c11) (.bool m11) (unhide H11)
        exact bodyPost_ret (v := .agg #[.slice A10 l10.length c10, .bool m10, .slice A11 l11.length c11, .bool m11]) (by simp [results, Tryz.results92, go_sem, hc7, p0, p1, p2, p3, q2]) rfl
          ⟨A10, c10, l10, m10, A11, c11, l11, m11, rfl, hk1.upto hS9.bq (noW2_4 _ _ _ _ _ _ _ _) (set4_grown _ _ _ _ _ _), hk2.upto hS9.bq (noW2_4 _ _ _ _ _ _ _ _) (set4_grown _ _ _ _ _ _), hS9.hb.grown (set4_grown _ _ _ _ _ _) hS9.hb.size (fun k hk => by injection hk with hk; omega)⟩
end Go.Proofs.YtmahhmdodfimbaaGreatDoor
/- The reference: the quotient of two ints. -/
namespace Go.Proofs.YtmahhmdodfimbaaGreatDoor
open Go.RowKit

set_option maxRecDepth 100000 in
set_option maxHeartbeats 2000000 in
theorem thalf_any (n d : Int) (w : World) (b1 : -9223372036854775808 ≤ n) (b2 : n ≤ 9223372036854775807) (b3 : -9223372036854775808 ≤ d) (b4 : d ≤ 9223372036854775807) (hd : d ≠ 0) :
    Calls Tryz.prog 110 #[.int .i64 n, .int .i64 d] w fun e w' => QR w (Rat.divInt n d) e w' := by
  have HO1 := hide (fun W => (tofInt_any n W b1 b2).mono (fun e w' h => h.1))
  have HO2 := hide (fun W => (tofInt_any d W b3 b4).mono (fun e w' h => h.1))
  have k1 : n.natAbs < B32 ^ 2 := by rw [B32_eq]; omega
  have k2 : d.natAbs < B32 ^ 2 := by rw [B32_eq]; omega
  obtain ⟨q, hq⟩ : ∃ q, q = Rat.divInt n d := ⟨_, rfl⟩
  have HR := hide (fun (A1 : Option Addr) (c1 : Nat) (l1 : List Nat) (m1 : Bool) (A2 : Option Addr) (c2 : Nat) (l2 : List Nat) (m2 : Bool) (W : World) (f1 : WholeF W A1 c1 l1 m1 n) (f2 : WholeF W A2 c2 l2 m2 d) => tratio_any A1 c1 l1 m1 n A2 c2 l2 m2 d 2 W f1 f2 hd k1 k2 (by omega))
  rw [← hq] at HR ⊢
  clear b1 b2 b3 b4 hd k1 k2 hq
  go_enter Tryz.func110, Tryz.ntmps110
  go_wp2_with fail
  obtain ⟨n0, hsz, hw0⟩ := one_new w (.cells #[.slice none 0 0, .bool false, .slice none 0 0, .bool false] 52)
  generalize (w.alloc (.cells #[.slice none 0 0, .bool false, .slice none 0 0, .bool false] 52)) = W0 at *
  have p0 : W0.cell? ⟨w.heap.size, 0, none⟩ = some (.slice none 0 0) := cells_of n0 0
  have p1 : W0.cell? ⟨w.heap.size, 1, none⟩ = some (.bool false) := cells_of n0 1
  have p2 : W0.cell? ⟨w.heap.size, 2, none⟩ = some (.slice none 0 0) := cells_of n0 2
  have p3 : W0.cell? ⟨w.heap.size, 3, none⟩ = some (.bool false) := cells_of n0 3
  have v0 := unfrozen_of n0 0; have v1 := unfrozen_of n0 1; have v2 := unfrozen_of n0 2; have v3 := unfrozen_of n0 3
  have q0 := lt_of_block n0
  have NR := Lib.hid n0
  clear n0 hsz
  refine ((unhide HO1) _).mono ?_
  rintro e W1 ⟨A1, c1, l1, m1, rfl, f1, hb1⟩
  have F1 := hide f1; have HB1 := hide hb1
  clear f1 hb1
  go_wp2_with fail
  refine ((unhide HO2) _).mono ?_
  rintro e W2 ⟨A2, c2, l2, m2, rfl, f2, hb2⟩
  have f1' := (unhide F1).below hb2
  have hr := (unhide HR) A1 c1 l1 m1 A2 c2 l2 m2 W2 f1' f2
  have HRR := hide hr
  have hb2' := below_step' (unhide HB1) hb2
  have HB2 := hide hb2'
  clear f1' f2 hb2 hr hb2'
  go_wp2_with fail
  refine (unhide HRR).mono ?_
  rintro e W3 ⟨A3, c3, l3, m3, A4, c4, l4, m4, rfl, f3, f4, hb3⟩
  have hb3' := below_step' (unhide HB2) hb3
  obtain ⟨hc, hfz⟩ := bcell hb3'
  have hblk := (hb3'.block _ q0).trans NR.out
  have HBLK := Lib.hid hblk
  have F3 := hide f3; have F4 := hide f4; have hb9 := below_step' hw0 hb3'
  have HB9 := hide hb9
  clear f3 f4 hb3 hb3' hblk hb9
  go_wp2_with fail
  exact bodyPost_ret (v := .agg #[.slice A3 l3.length c3, .bool m3, .slice A4 l4.length c4, .bool m4]) (by simp [results, Tryz.results110, go_sem, hc, p0, p1, p2, p3, q0]) rfl
    ⟨A3, c3, l3, m3, A4, c4, l4, m4, rfl, (unhide F3).upto HBLK.out (noW2_4 _ _ _ _ _ _ _ _) (set4_grown _ _ _ _ _ _), (unhide F4).upto HBLK.out (noW2_4 _ _ _ _ _ _ _ _) (set4_grown _ _ _ _ _ _), (unhide HB9).grown (set4_grown _ _ _ _ _ _) (unhide HB9).size (fun k hk => by injection hk with hk; omega)⟩
end Go.Proofs.YtmahhmdodfimbaaGreatDoor
/- The reference: numbers as they are told. -/
namespace Go.Proofs.YtmahhmdodfimbaaGreatDoor
open Go.RowKit

/-- A number as it is returned, and whether it is one. -/
def RatP (w : World) (q : Rat) (e : Ending) (w' : World) : Prop := ∃ (n d : Int) (ok : Bool), e = .returned (.tuple #[.agg #[.int .i64 n, .int .i64 d], .bool ok]) ∧ Below w.heap.size w w' ∧ ((ok = true ∧ Wd.told q = ⟨n, d, 0⟩) ∨ (ok = false ∧ Wd.told q = ⟨0, 0, 3⟩))

set_option maxRecDepth 100000 in
set_option maxHeartbeats 2000000 in
theorem tRat_any (A1 : Option Addr) (c1 : Nat) (l1 : List Nat) (m1 : Bool) (A2 : Option Addr) (c2 : Nat) (l2 : List Nat) (m2 : Bool) (q : Rat) (w : World) (h1 : WholeF w A1 c1 l1 m1 q.num) (h2 : WholeF w A2 c2 l2 m2 (q.den : Int)) :
    Calls Tryz.prog 94 #[.agg #[.slice A1 l1.length c1, .bool m1, .slice A2 l2.length c2, .bool m2]] w fun e w' => RatP w q e w' := by
  have hd0 : (q.den : Int) ≠ 0 := by have := q.den_nz; omega
  have HS1 := hide (fun W (hW : Below w.heap.size w W) => tsmall_any A1 c1 l1 m1 q.num W (h1.below hW))
  have HS2 := hide (fun W (hW : Below w.heap.size w W) => tsmall_any A2 c2 l2 m2 (q.den : Int) W (h2.below hW))
  have HD := hide (fun W (hW : Below w.heap.size w W) => tden_any A1 c1 l1 m1 A2 c2 l2 m2 (q.den : Int) W (h2.below hW) hd0)
  have ht : (Wd.fits q → Wd.told q = ⟨q.num, q.den, 0⟩) ∧ (¬ Wd.fits q → Wd.told q = ⟨0, 0, 3⟩) := ⟨fun h => if_pos h, fun h => if_neg h⟩
  have hfi : Wd.fits q ↔ q.num.natAbs ≤ 1000000000000 ∧ q.den ≤ 1000000000000 := Iff.rfl
  have HT := hide (And.intro ht hfi)
  clear h1 h2 hd0 ht hfi
  go_enter Tryz.func94, Tryz.ntmps94
  go_wp2_with fail
  obtain ⟨n0, n1, hsz, hw0⟩ := two_new w (.cells #[.slice A1 l1.length c1, .bool m1, .slice A2 l2.length c2, .bool m2] 52) (.cells #[.int .i64 0, .int .i64 0] 23)
  generalize ((w.alloc (.cells #[.slice A1 l1.length c1, .bool m1, .slice A2 l2.length c2, .bool m2] 52)).alloc (.cells #[.int .i64 0, .int .i64 0] 23)) = W0 at *
  have k0 : W0.cell? ⟨w.heap.size, 0, none⟩ = some (.slice A1 l1.length c1) := cells_of n0 0
  have k1 : W0.cell? ⟨w.heap.size, 1, none⟩ = some (.bool m1) := cells_of n0 1
  have k2 : W0.cell? ⟨w.heap.size, 2, none⟩ = some (.slice A2 l2.length c2) := cells_of n0 2
  have k3 : W0.cell? ⟨w.heap.size, 3, none⟩ = some (.bool m2) := cells_of n0 3
  have p0 : W0.cell? ⟨w.heap.size + 1, 0, none⟩ = some (.int .i64 0) := cells_of n1 0
  have p1 : W0.cell? ⟨w.heap.size + 1, 1, none⟩ = some (.int .i64 0) := cells_of n1 1
  have v0 := unfrozen_of n1 0; have v1 := unfrozen_of n1 1
  have q0 := lt_of_block n0; have q1 := lt_of_block n1
  clear n0 n1 hsz
  refine ((unhide HS1) _ hw0).mono ?_
  rintro e W1 ⟨x1, ok1, rfl, hok1, hx1, hb1⟩
  obtain ⟨hc1, hf1⟩ := bcell hb1
  have hw1 := below_step' hw0 hb1
  have OK1 := Lib.hid hok1; have X1 := hide hx1; have HB1 := hide hb1; have HW1 := hide hw1
  clear hok1 hx1 hb1 hw1
  go_wp2_with fail
  refine ((unhide HD) _ (unhide HW1)).mono ?_
  rintro e W2 ⟨rfl, hb2⟩
  have hb2' := below_step' (unhide HB1) hb2
  obtain ⟨hc2, hf2⟩ := bcell hb2'
  have hw2 := below_step' hw0 hb2'
  have HB2 := hide hb2'; have HW2 := hide hw2
  clear hb2 hb2' hw2 hc1 hf1
  go_wp2_with fail
  refine ((unhide HS2) _ (unhide HW2)).mono ?_
  rintro e W3 ⟨x2, ok2, rfl, hok2, hx2, hb3⟩
  have hb3' := below_step' (unhide HB2) hb3
  obtain ⟨hc3, hf3⟩ := bcell hb3'
  have hw3 := below_step' hw0 hb3'
  have OK2 := Lib.hid hok2; have X2 := hide hx2; have HW3 := hide hw3
  have hg9 : ∀ u0 u1 : Value, Below w.heap.size w ((W3.setCell ⟨w.heap.size + 1, 0, none⟩ u0).setCell ⟨w.heap.size + 1, 1, none⟩ u1) := fun u0 u1 => hw3.grown (set2_grown _ _ _ _) hw3.size (fun k hk => by injection hk with hk; omega)
  have HG9 := hide hg9
  clear hok2 hx2 hb3 hb3' hw3 hc2 hf2 hg9 HS1 HS2 HD HB1 HB2 HW1 HW2
  cases ok1 <;> cases ok2
  · have hn : ¬ Wd.fits q := fun h => by have := (unhide HT).2.1 h; have h2 := of_decide_eq_false OK1.out.symm; omega
    have HN := Lib.hid ((unhide HT).1.2 hn)
    clear hn
    go_wp2_with fail
    exact bodyPost_ret (v := .tuple #[.agg #[.int .i64 0, .int .i64 0], .bool false]) (by simp [results, Tryz.results94, go_sem, hc3, p0, p1, q1]) rfl ⟨0, 0, false, rfl, (unhide HG9) _ _, .inr ⟨rfl, HN.out⟩⟩
  · have hn : ¬ Wd.fits q := fun h => by have := (unhide HT).2.1 h; have h2 := of_decide_eq_false OK1.out.symm; omega
    have HN := Lib.hid ((unhide HT).1.2 hn)
    clear hn
    go_wp2_with fail
    exact bodyPost_ret (v := .tuple #[.agg #[.int .i64 0, .int .i64 0], .bool false]) (by simp [results, Tryz.results94, go_sem, hc3, p0, p1, q1]) rfl ⟨0, 0, false, rfl, (unhide HG9) _ _, .inr ⟨rfl, HN.out⟩⟩
  · have hn : ¬ Wd.fits q := fun h => by have := (unhide HT).2.1 h; have h2 := of_decide_eq_false OK2.out.symm; omega
    have HN := Lib.hid ((unhide HT).1.2 hn)
    clear hn
    go_wp2_with fail
    exact bodyPost_ret (v := .tuple #[.agg #[.int .i64 0, .int .i64 0], .bool false]) (by simp [results, Tryz.results94, go_sem, hc3, p0, p1, q1]) rfl ⟨0, 0, false, rfl, (unhide HG9) _ _, .inr ⟨rfl, HN.out⟩⟩
  · have e1 := (unhide X1) rfl
    have e2 := (unhide X2) rfl
    subst e1 e2
    by_cases hfit : Wd.fits q
    · have HN := Lib.hid ((unhide HT).1.1 hfit)
      obtain ⟨a1, a2⟩ := (unhide HT).2.1 hfit
      have d1 : decide (q.num < -1000000000000) = false := decide_eq_false (by omega)
      have d2 : decide (1000000000000 < q.num) = false := decide_eq_false (by omega)
      have d3 : decide ((1000000000000 : Int) < (q.den : Int)) = false := decide_eq_false (by omega)
      clear hfit
      go_wp2_with fail
      all_goals first | omega | skip
      exact bodyPost_ret (v := .tuple #[.agg #[.int .i64 q.num, .int .i64 q.den], .bool true]) (by simp [results, Tryz.results94, go_sem, hc3, p0, p1, q1]) rfl ⟨q.num, q.den, true, rfl, (unhide HG9) _ _, .inl ⟨rfl, HN.out⟩⟩
    · have HN := Lib.hid ((unhide HT).1.2 hfit)
      have hor : q.num < -1000000000000 ∨ 1000000000000 < q.num ∨ (1000000000000 : Int) < (q.den : Int) := by
        have h1 := (unhide HT).2.2
        by_cases a : q.num < -1000000000000
        · exact .inl a
        by_cases b : 1000000000000 < q.num
        · exact .inr (.inl b)
        by_cases c : (1000000000000 : Int) < (q.den : Int)
        · exact .inr (.inr c)
        exact absurd (h1 ⟨by omega, by omega⟩) hfit
      clear hfit
      go_wp2_with fail
      all_goals first | omega | skip
      all_goals exact bodyPost_ret (v := .tuple #[.agg #[.int .i64 0, .int .i64 0], .bool false]) (by simp [results, Tryz.results94, go_sem, hc3, p0, p1, q1]) rfl ⟨0, 0, false, rfl, (unhide HG9) _ _, .inr ⟨rfl, HN.out⟩⟩
end Go.Proofs.YtmahhmdodfimbaaGreatDoor
/- The reference: what is told; the number of two ints. -/
namespace Go.Proofs.YtmahhmdodfimbaaGreatDoor
open Go.RowKit

set_option maxRecDepth 100000 in
set_option maxHeartbeats 2000000 in
theorem ttold_any (A1 : Option Addr) (c1 : Nat) (l1 : List Nat) (m1 : Bool) (A2 : Option Addr) (c2 : Nat) (l2 : List Nat) (m2 : Bool) (q : Rat) (w : World) (h1 : WholeF w A1 c1 l1 m1 q.num) (h2 : WholeF w A2 c2 l2 m2 (q.den : Int)) :
    Calls Tryz.prog 42 #[.agg #[.slice A1 l1.length c1, .bool m1, .slice A2 l2.length c2, .bool m2]] w fun e w' => TolR w (Wd.told q) e w' := by
  have HR := hide (fun W (hW : Below w.heap.size w W) => tRat_any A1 c1 l1 m1 A2 c2 l2 m2 q W (h1.below hW) (h2.below hW))
  clear h1 h2
  go_enter Tryz.func42, Tryz.ntmps42
  go_wp2_with fail
  obtain ⟨n0, n1, hsz, hw0⟩ := two_new w (.cells #[.slice A1 l1.length c1, .bool m1, .slice A2 l2.length c2, .bool m2] 52) (.cells #[.int .i64 0, .int .i64 0] 23)
  generalize ((w.alloc (.cells #[.slice A1 l1.length c1, .bool m1, .slice A2 l2.length c2, .bool m2] 52)).alloc (.cells #[.int .i64 0, .int .i64 0] 23)) = W0 at *
  have p0 : W0.cell? ⟨w.heap.size + 1, 0, none⟩ = some (.int .i64 0) := cells_of n1 0
  have p1 : W0.cell? ⟨w.heap.size + 1, 1, none⟩ = some (.int .i64 0) := cells_of n1 1
  have v0 := unfrozen_of n1 0; have v1 := unfrozen_of n1 1
  have q1 := lt_of_block n1
  clear n0 n1 hsz
  refine ((unhide HR) _ hw0).mono ?_
  rintro e W1 ⟨n, d, ok, rfl, hb, hor⟩
  rcases hor with ⟨rfl, ht⟩ | ⟨rfl, ht⟩
  · have HT9 := Lib.hid ht
    clear ht
    have hbA := hb.alloc hb.size (.cells #[.int .i64 n, .int .i64 d] 23)
    obtain ⟨hc, hf⟩ := bcell hbA
    obtain ⟨hc', hf'⟩ := bcell hb
    have hwA := below_step' hw0 hbA
    have HWA := hide hwA
    clear hbA hb hwA
    go_wp2_with fail
    exact bodyPost_ret (v := .tuple #[.agg #[.int .i64 n, .int .i64 d], .int .i64 0]) (by simp [results, Tryz.results42, go_sem, hc, hc', p0, p1, q1]) rfl
      ⟨by rw [HT9.out], (unhide HWA).grown (set2_grown _ _ _ _) (unhide HWA).size (fun k hk => by injection hk with hk; omega)⟩
  · have HT9 := Lib.hid ht
    clear ht
    have hbA := hb.alloc hb.size (.cells #[.int .i64 n, .int .i64 d] 23)
    obtain ⟨hc, hf⟩ := bcell hbA
    obtain ⟨hc', hf'⟩ := bcell hb
    have hwA := below_step' hw0 hbA
    have HWA := hide hwA
    clear hbA hb hwA
    go_wp2_with fail
    exact bodyPost_ret (v := .tuple #[.agg #[.int .i64 0, .int .i64 0], .int .i64 3]) (by simp [results, Tryz.results42, go_sem, hc, hc', p0, p1, q1]) rfl
      ⟨by rw [HT9.out], (unhide HWA).grown (set2_grown _ _ _ _) (unhide HWA).size (fun k hk => by injection hk with hk; omega)⟩
end Go.Proofs.YtmahhmdodfimbaaGreatDoor
/- Blocks that hold numbers of the reference; whether one is nought. -/
namespace Go.Proofs.YtmahhmdodfimbaaGreatDoor
open Go.RowKit

/-- Block b is new beside Wp and has room for a number of the reference. -/
structure FrQ (Wp W : World) (b : Nat) : Prop where
  old : Wp.heap.size ≤ b
  zero : W.heap[b]? = some (.cells #[.slice none 0 0, .bool false, .slice none 0 0, .bool false] 52 (0, 0))
theorem FrQ.lt {Wp W : World} {b : Nat} (h : FrQ Wp W b) : b < W.heap.size := lt_of_block h.zero
theorem FrQ.drew {Wp W : World} {b : Nat} (h : FrQ Wp W b) : FrQ Wp W.drew b := ⟨h.old, h.zero⟩
theorem FrQ.below {Wp W w' : World} {b : Nat} (h : FrQ Wp W b) (hb : Below W.heap.size W w') : FrQ Wp w' b := ⟨h.old, (hb.block _ h.lt).trans h.zero⟩
theorem FrQ.new {Wp W : World} {b : Nat} (hb : Below Wp.heap.size Wp W) (e : b = W.heap.size) : FrQ Wp (W.alloc (.cells #[.slice none 0 0, .bool false, .slice none 0 0, .bool false] 52 (0, 0))) b := by
  subst e; exact ⟨hb.size, heap_alloc_new W _⟩
theorem FrQ.alloc {Wp W : World} {b : Nat} {o : Obj} (h : FrQ Wp W b) : FrQ Wp (W.alloc o) b := ⟨h.old, (Below.heap_alloc W _ b h.lt).trans h.zero⟩
structure FrQ2 (Wp W : World) (b c : Nat) : Prop where
  one : FrQ Wp W b
  two : FrQ Wp W c
  ne : b ≠ c
theorem FrQ2.newR {Wp W : World} {b c : Nat} (h : FrQ Wp W b) (e : c = W.heap.size) : FrQ2 Wp (W.alloc (.cells #[.slice none 0 0, .bool false, .slice none 0 0, .bool false] 52 (0, 0))) b c := by
  have hl := h.lt
  have ho := h.old
  subst e
  exact ⟨h.alloc, ⟨by omega, heap_alloc_new W _⟩, by omega⟩
theorem FrQ2.newL {Wp W : World} {b c : Nat} (h : FrQ Wp W c) (e : b = W.heap.size) : FrQ2 Wp (W.alloc (.cells #[.slice none 0 0, .bool false, .slice none 0 0, .bool false] 52 (0, 0))) b c := by
  have hl := h.lt
  have ho := h.old
  subst e
  exact ⟨⟨by omega, heap_alloc_new W _⟩, h.alloc, by omega⟩
theorem QV.upto {w w' : World} {g : Nat} {A1a : Option Addr} {c1a : Nat} {l1a : List Nat} {m1a : Bool} {A1b : Option Addr} {c1b : Nat} {l1b : List Nat} {m1b : Bool} {x1 : Rat} {T : TypeId} {cs : Array Value} (h : QV w A1a c1a l1a m1a A1b c1b l1b m1b x1) (hg : w.heap[g]? = some (.cells cs T (0, 0))) (hn : NoW2 cs) (hgr : w.grownBy w' (some g)) : QV w' A1a c1a l1a m1a A1b c1b l1b m1b x1 := by
  obtain ⟨d, h2, h3⟩ := h.den
  exact ⟨h.num.upto hg hn hgr, d, h2.upto hg hn hgr, h3⟩
theorem QV.alloc {W : World} {o : Obj} {A1a : Option Addr} {c1a : Nat} {l1a : List Nat} {m1a : Bool} {A1b : Option Addr} {c1b : Nat} {l1b : List Nat} {m1b : Bool} {x1 : Rat} (h1 : QV W A1a c1a l1a m1a A1b c1b l1b m1b x1) : QV (W.alloc o) A1a c1a l1a m1a A1b c1b l1b m1b x1 := h1.below ((Below.refl _ _).alloc (Nat.le_refl _) _)
/-- Block b holds a number. -/
def BoxQ (w : World) (b : Nat) (x : Rat) : Prop := ∃ A c l m A' c' l' m', w.heap[b]? = some (.cells #[.slice A (List.length l) c, .bool m, .slice A' (List.length l') c', .bool m'] 52 (0, 0)) ∧ QV w A c l m A' c' l' m' x
theorem BoxQ.below {w w' : World} {b : Nat} {x : Rat} (h : BoxQ w b x) (hb : Below w.heap.size w w') : BoxQ w' b x := by
  obtain ⟨A, c, l, m, A', c', l', m', h1, h2⟩ := h
  exact ⟨A, c, l, m, A', c', l', m', (hb.block _ (lt_of_block h1)).trans h1, h2.below hb⟩
theorem BoxQ.new {W : World} {b : Nat} {A1a : Option Addr} {c1a : Nat} {l1a : List Nat} {m1a : Bool} {A1b : Option Addr} {c1b : Nat} {l1b : List Nat} {m1b : Bool} {x1 : Rat} (h1 : QV W A1a c1a l1a m1a A1b c1b l1b m1b x1) (e : b = W.heap.size) : BoxQ (W.alloc (.cells #[.slice A1a l1a.length c1a, .bool m1a, .slice A1b l1b.length c1b, .bool m1b] 52)) b x1 := by
  subst e; exact ⟨_, _, _, _, _, _, _, _, heap_alloc_new W _, h1.alloc⟩
theorem BoxQ.alloc {W : World} {b : Nat} {x : Rat} {o : Obj} (h : BoxQ W b x) : BoxQ (W.alloc o) b x := h.below ((Below.refl _ _).alloc (Nat.le_refl _) _)
theorem FrQ.facts {Wp W : World} {b : Nat} (h : FrQ Wp W b) : (W.cell? ⟨b, 0, none⟩ = some (.slice none 0 0) ∧ W.cell? ⟨b, 1, none⟩ = some (.bool false) ∧ W.cell? ⟨b, 2, none⟩ = some (.slice none 0 0) ∧ W.cell? ⟨b, 3, none⟩ = some (.bool false)) ∧
    (W.frozen? ⟨b, 0, none⟩ = false ∧ W.frozen? ⟨b, 1, none⟩ = false ∧ W.frozen? ⟨b, 2, none⟩ = false ∧ W.frozen? ⟨b, 3, none⟩ = false) ∧
    ((∀ o, (W.alloc o).cell? ⟨b, 0, none⟩ = some (.slice none 0 0)) ∧ (∀ o, (W.alloc o).cell? ⟨b, 1, none⟩ = some (.bool false)) ∧ (∀ o, (W.alloc o).cell? ⟨b, 2, none⟩ = some (.slice none 0 0)) ∧ (∀ o, (W.alloc o).cell? ⟨b, 3, none⟩ = some (.bool false))) ∧
    ((∀ o, (W.alloc o).frozen? ⟨b, 0, none⟩ = false) ∧ (∀ o, (W.alloc o).frozen? ⟨b, 1, none⟩ = false) ∧ (∀ o, (W.alloc o).frozen? ⟨b, 2, none⟩ = false) ∧ (∀ o, (W.alloc o).frozen? ⟨b, 3, none⟩ = false)) ∧
    ¬ (b = W.heap.size) ∧ ¬ (W.heap.size = b) :=
  ⟨⟨cells_of h.zero 0, cells_of h.zero 1, cells_of h.zero 2, cells_of h.zero 3⟩, ⟨unfrozen_of h.zero 0, unfrozen_of h.zero 1, unfrozen_of h.zero 2, unfrozen_of h.zero 3⟩,
   ⟨fun o => cells_of (h.alloc (o := o)).zero 0, fun o => cells_of (h.alloc (o := o)).zero 1, fun o => cells_of (h.alloc (o := o)).zero 2, fun o => cells_of (h.alloc (o := o)).zero 3⟩,
   ⟨fun o => unfrozen_of (h.alloc (o := o)).zero 0, fun o => unfrozen_of (h.alloc (o := o)).zero 1, fun o => unfrozen_of (h.alloc (o := o)).zero 2, fun o => unfrozen_of (h.alloc (o := o)).zero 3⟩, by have := h.lt; omega, by have := h.lt; omega⟩
theorem set4_block {W : World} {b : Nat} {a0 a1 a2 a3 u0 u1 u2 u3 : Value} {T : TypeId} (h : W.heap[b]? = some (.cells #[a0, a1, a2, a3] T (0, 0))) : ((((W.setCell ⟨b, 0, none⟩ u0).setCell ⟨b, 1, none⟩ u1).setCell ⟨b, 2, none⟩ u2).setCell ⟨b, 3, none⟩ u3).heap[b]? = some (.cells #[u0, u1, u2, u3] T (0, 0)) := by
  simp [World.setCell, Array.getElem?_modify, h]
theorem qput_one {Wp W : World} {b : Nat} {A1a : Option Addr} {c1a : Nat} {l1a : List Nat} {m1a : Bool} {A1b : Option Addr} {c1b : Nat} {l1b : List Nat} {m1b : Bool} {x1 : Rat} (hf : FrQ Wp W b) (h1 : QV W A1a c1a l1a m1a A1b c1b l1b m1b x1) (hb : Below Wp.heap.size Wp W) :
    BoxQ ((((W.setCell ⟨b, 0, none⟩ (.slice A1a l1a.length c1a)).setCell ⟨b, 1, none⟩ (.bool m1a)).setCell ⟨b, 2, none⟩ (.slice A1b l1b.length c1b)).setCell ⟨b, 3, none⟩ (.bool m1b)) b x1 ∧ Below Wp.heap.size Wp ((((W.setCell ⟨b, 0, none⟩ (.slice A1a l1a.length c1a)).setCell ⟨b, 1, none⟩ (.bool m1a)).setCell ⟨b, 2, none⟩ (.slice A1b l1b.length c1b)).setCell ⟨b, 3, none⟩ (.bool m1b)) ∧ Wp.heap.size ≤ b :=
  ⟨⟨_, _, _, _, _, _, _, _, set4_block hf.zero, h1.upto hf.zero (noW2_4 _ _ _ _ _ _ _ _) (set4_grown _ _ _ _ _ _)⟩, hb.grown (set4_grown _ _ _ _ _ _) hb.size (fun k hk => by injection hk with hk; have := hf.old; omega), hf.old⟩
theorem qput_two {Wp W : World} {b c : Nat} {A1a : Option Addr} {c1a : Nat} {l1a : List Nat} {m1a : Bool} {A1b : Option Addr} {c1b : Nat} {l1b : List Nat} {m1b : Bool} {x1 : Rat} {A2a : Option Addr} {c2a : Nat} {l2a : List Nat} {m2a : Bool} {A2b : Option Addr} {c2b : Nat} {l2b : List Nat} {m2b : Bool} {x2 : Rat} (hf : FrQ2 Wp W b c) (h1 : QV W A1a c1a l1a m1a A1b c1b l1b m1b x1) (h2 : QV W A2a c2a l2a m2a A2b c2b l2b m2b x2) (hb : Below Wp.heap.size Wp W) :
    BoxQ ((((((((W.setCell ⟨b, 0, none⟩ (.slice A1a l1a.length c1a)).setCell ⟨b, 1, none⟩ (.bool m1a)).setCell ⟨b, 2, none⟩ (.slice A1b l1b.length c1b)).setCell ⟨b, 3, none⟩ (.bool m1b)).setCell ⟨c, 0, none⟩ (.slice A2a l2a.length c2a)).setCell ⟨c, 1, none⟩ (.bool m2a)).setCell ⟨c, 2, none⟩ (.slice A2b l2b.length c2b)).setCell ⟨c, 3, none⟩ (.bool m2b)) b x1 ∧ BoxQ ((((((((W.setCell ⟨b, 0, none⟩ (.slice A1a l1a.length c1a)).setCell ⟨b, 1, none⟩ (.bool m1a)).setCell ⟨b, 2, none⟩ (.slice A1b l1b.length c1b)).setCell ⟨b, 3, none⟩ (.bool m1b)).setCell ⟨c, 0, none⟩ (.slice A2a l2a.length c2a)).setCell ⟨c, 1, none⟩ (.bool m2a)).setCell ⟨c, 2, none⟩ (.slice A2b l2b.length c2b)).setCell ⟨c, 3, none⟩ (.bool m2b)) c x2 ∧ Below Wp.heap.size Wp ((((((((W.setCell ⟨b, 0, none⟩ (.slice A1a l1a.length c1a)).setCell ⟨b, 1, none⟩ (.bool m1a)).setCell ⟨b, 2, none⟩ (.slice A1b l1b.length c1b)).setCell ⟨b, 3, none⟩ (.bool m1b)).setCell ⟨c, 0, none⟩ (.slice A2a l2a.length c2a)).setCell ⟨c, 1, none⟩ (.bool m2a)).setCell ⟨c, 2, none⟩ (.slice A2b l2b.length c2b)).setCell ⟨c, 3, none⟩ (.bool m2b)) ∧ Wp.heap.size ≤ b ∧ Wp.heap.size ≤ c := by
  have g1 := set4_grown W b (.slice A1a l1a.length c1a) (.bool m1a) (.slice A1b l1b.length c1b) (.bool m1b)
  have k2 := h2.upto hf.one.zero (noW2_4 _ _ _ _ _ _ _ _) g1
  have kc := (g1.block c hf.two.lt (fun e => hf.ne (by injection e with e; exact e.symm))).trans hf.two.zero
  have kb := (qput_one hf.one h1 hb)
  have ks := kb.2.1.size
  obtain ⟨⟨A, cap, l, m, A', cap', l', m', e1, e2⟩, kb2, _⟩ := kb
  have g2 := set4_grown ((((W.setCell ⟨b, 0, none⟩ (.slice A1a l1a.length c1a)).setCell ⟨b, 1, none⟩ (.bool m1a)).setCell ⟨b, 2, none⟩ (.slice A1b l1b.length c1b)).setCell ⟨b, 3, none⟩ (.bool m1b)) c (.slice A2a l2a.length c2a) (.bool m2a) (.slice A2b l2b.length c2b) (.bool m2b)
  exact ⟨⟨A, cap, l, m, A', cap', l', m', (g2.block b (lt_of_block e1) (fun e => hf.ne (by injection e))).trans e1, e2.upto kc (noW2_4 _ _ _ _ _ _ _ _) g2⟩,
    ⟨_, _, _, _, _, _, _, _, set4_block kc, k2.upto kc (noW2_4 _ _ _ _ _ _ _ _) g2⟩, kb2.grown g2 ks (fun k hk => by injection hk with hk; have := hf.two.old; omega), hf.one.old, hf.two.old⟩
theorem qput_nn {Wp W : World} {b c : Nat} {A1a : Option Addr} {c1a : Nat} {l1a : List Nat} {m1a : Bool} {A1b : Option Addr} {c1b : Nat} {l1b : List Nat} {m1b : Bool} {x1 : Rat} {A2a : Option Addr} {c2a : Nat} {l2a : List Nat} {m2a : Bool} {A2b : Option Addr} {c2b : Nat} {l2b : List Nat} {m2b : Bool} {x2 : Rat} (h1 : QV W A1a c1a l1a m1a A1b c1b l1b m1b x1) (h2 : QV W A2a c2a l2a m2a A2b c2b l2b m2b x2) (hb : Below Wp.heap.size Wp W) (eb : b = W.heap.size) (ec : c = W.heap.size + 1) :
    BoxQ ((W.alloc (.cells #[.slice A1a l1a.length c1a, .bool m1a, .slice A1b l1b.length c1b, .bool m1b] 52)).alloc (.cells #[.slice A2a l2a.length c2a, .bool m2a, .slice A2b l2b.length c2b, .bool m2b] 52)) b x1 ∧ BoxQ ((W.alloc (.cells #[.slice A1a l1a.length c1a, .bool m1a, .slice A1b l1b.length c1b, .bool m1b] 52)).alloc (.cells #[.slice A2a l2a.length c2a, .bool m2a, .slice A2b l2b.length c2b, .bool m2b] 52)) c x2 ∧ Below Wp.heap.size Wp ((W.alloc (.cells #[.slice A1a l1a.length c1a, .bool m1a, .slice A1b l1b.length c1b, .bool m1b] 52)).alloc (.cells #[.slice A2a l2a.length c2a, .bool m2a, .slice A2b l2b.length c2b, .bool m2b] 52)) ∧ Wp.heap.size ≤ b ∧ Wp.heap.size ≤ c :=
  ⟨(BoxQ.new h1 eb).alloc, BoxQ.new h2.alloc (by rw [ec, World.size_alloc]), (hb.alloc hb.size _).alloc (hb.alloc hb.size _).size _, by have := hb.size; omega, by have := hb.size; omega⟩
theorem qput_mm {Wp W : World} {b c : Nat} {A1a : Option Addr} {c1a : Nat} {l1a : List Nat} {m1a : Bool} {A1b : Option Addr} {c1b : Nat} {l1b : List Nat} {m1b : Bool} {x1 : Rat} {A2a : Option Addr} {c2a : Nat} {l2a : List Nat} {m2a : Bool} {A2b : Option Addr} {c2b : Nat} {l2b : List Nat} {m2b : Bool} {x2 : Rat} (h1 : QV W A1a c1a l1a m1a A1b c1b l1b m1b x1) (h2 : QV W A2a c2a l2a m2a A2b c2b l2b m2b x2) (hb : Below Wp.heap.size Wp W) (ec : c = W.heap.size) (eb : b = W.heap.size + 1) :
    BoxQ ((W.alloc (.cells #[.slice A2a l2a.length c2a, .bool m2a, .slice A2b l2b.length c2b, .bool m2b] 52)).alloc (.cells #[.slice A1a l1a.length c1a, .bool m1a, .slice A1b l1b.length c1b, .bool m1b] 52)) b x1 ∧ BoxQ ((W.alloc (.cells #[.slice A2a l2a.length c2a, .bool m2a, .slice A2b l2b.length c2b, .bool m2b] 52)).alloc (.cells #[.slice A1a l1a.length c1a, .bool m1a, .slice A1b l1b.length c1b, .bool m1b] 52)) c x2 ∧ Below Wp.heap.size Wp ((W.alloc (.cells #[.slice A2a l2a.length c2a, .bool m2a, .slice A2b l2b.length c2b, .bool m2b] 52)).alloc (.cells #[.slice A1a l1a.length c1a, .bool m1a, .slice A1b l1b.length c1b, .bool m1b] 52)) ∧ Wp.heap.size ≤ b ∧ Wp.heap.size ≤ c := by
  obtain ⟨y1, y2, y3, y4, y5⟩ := qput_nn h2 h1 hb ec eb
  exact ⟨y2, y1, y3, y5, y4⟩
theorem qput_ns {Wp W : World} {b c : Nat} {A1a : Option Addr} {c1a : Nat} {l1a : List Nat} {m1a : Bool} {A1b : Option Addr} {c1b : Nat} {l1b : List Nat} {m1b : Bool} {x1 : Rat} {A2a : Option Addr} {c2a : Nat} {l2a : List Nat} {m2a : Bool} {A2b : Option Addr} {c2b : Nat} {l2b : List Nat} {m2b : Bool} {x2 : Rat} (hf : FrQ Wp W c) (h1 : QV W A1a c1a l1a m1a A1b c1b l1b m1b x1) (h2 : QV W A2a c2a l2a m2a A2b c2b l2b m2b x2) (hb : Below Wp.heap.size Wp W) (eb : b = W.heap.size) :
    BoxQ (((((W.alloc (.cells #[.slice A1a l1a.length c1a, .bool m1a, .slice A1b l1b.length c1b, .bool m1b] 52)).setCell ⟨c, 0, none⟩ (.slice A2a l2a.length c2a)).setCell ⟨c, 1, none⟩ (.bool m2a)).setCell ⟨c, 2, none⟩ (.slice A2b l2b.length c2b)).setCell ⟨c, 3, none⟩ (.bool m2b)) b x1 ∧ BoxQ (((((W.alloc (.cells #[.slice A1a l1a.length c1a, .bool m1a, .slice A1b l1b.length c1b, .bool m1b] 52)).setCell ⟨c, 0, none⟩ (.slice A2a l2a.length c2a)).setCell ⟨c, 1, none⟩ (.bool m2a)).setCell ⟨c, 2, none⟩ (.slice A2b l2b.length c2b)).setCell ⟨c, 3, none⟩ (.bool m2b)) c x2 ∧ Below Wp.heap.size Wp (((((W.alloc (.cells #[.slice A1a l1a.length c1a, .bool m1a, .slice A1b l1b.length c1b, .bool m1b] 52)).setCell ⟨c, 0, none⟩ (.slice A2a l2a.length c2a)).setCell ⟨c, 1, none⟩ (.bool m2a)).setCell ⟨c, 2, none⟩ (.slice A2b l2b.length c2b)).setCell ⟨c, 3, none⟩ (.bool m2b)) ∧ Wp.heap.size ≤ b ∧ Wp.heap.size ≤ c := by
  have hl := hf.lt
  have hx := qput_one hf.alloc h2.alloc (hb.alloc hb.size (.cells #[.slice A1a l1a.length c1a, .bool m1a, .slice A1b l1b.length c1b, .bool m1b] 52))
  have hn := (BoxQ.new h1 eb)
  obtain ⟨A, cap, l, m, A', cap', l', m', e1, e2⟩ := hn
  have g2 := set4_grown (W.alloc (.cells #[.slice A1a l1a.length c1a, .bool m1a, .slice A1b l1b.length c1b, .bool m1b] 52)) c (.slice A2a l2a.length c2a) (.bool m2a) (.slice A2b l2b.length c2b) (.bool m2b)
  exact ⟨⟨A, cap, l, m, A', cap', l', m', (g2.block b (lt_of_block e1) (fun e => by injection e with e; omega)).trans e1, e2.upto (hf.alloc (o := _)).zero (noW2_4 _ _ _ _ _ _ _ _) g2⟩, hx.1, hx.2.1, by have := hb.size; omega, hx.2.2⟩
set_option maxRecDepth 100000 in
set_option maxHeartbeats 1000000 in
theorem tqzero_any (A1 : Option Addr) (c1 : Nat) (l1 : List Nat) (m1 : Bool) (A2 : Option Addr) (c2 : Nat) (l2 : List Nat) (m2 : Bool) (q : Rat) (w : World) (h : QV w A1 c1 l1 m1 A2 c2 l2 m2 q) :
    Calls Tryz.prog 46 #[(Value.agg #[.slice A1 l1.length c1, .bool m1, .slice A2 l2.length c2, .bool m2])] w fun e w' => e = .returned (.bool (decide (q.num = 0))) ∧ Below w.heap.size w w' := by
  have hd : decide (q.num = 0) = decide (l1.length = 0) := decide_eq_decide.2 (by rw [← h.num.nat.zero_iff]; omega)
  rw [hd]
  have HI := hide (fun W => tisn_any A1 c1 l1.length m1 W)
  obtain ⟨o, ho⟩ : ∃ o, o = decide (l1.length = 0) := ⟨_, rfl⟩
  rw [← ho] at HI ⊢
  clear h hd ho
  go_enter Tryz.func46, Tryz.ntmps46
  go_wp2_with fail
  refine ((unhide HI) _).mono ?_
  rintro e w' ⟨rfl, hb⟩
  have hb9 := below_step' ((Below.refl _ _).alloc (Nat.le_refl _) (.cells #[.slice A1 l1.length c1, .bool m1, .slice A2 l2.length c2, .bool m2] 52)) hb
  clear hb
  go_wp2_with fail
  all_goals first | go_ret | skip
  exact ⟨rfl, hb9⟩

end Go.Proofs.YtmahhmdodfimbaaGreatDoor
/- The walk through the reference: two numbers put together (Add) and told. -/
namespace Go.Proofs.YtmahhmdodfimbaaGreatDoor
open Go.RowKit

set_option maxRecDepth 100000 in
set_option maxHeartbeats 16000000 in
theorem do_walk0 (n1 d1 n2 d2 rn rd re : Int) (x y q : Rat) (w : World)
    (ha : ∀ g W, g < W.heap.size → W.cell? ⟨g, 0, none⟩ = some (.int .i64 n1) → W.cell? ⟨g, 1, none⟩ = some (.int .i64 d1) → W.cell? ⟨g, 2, none⟩ = some (.int .i64 n2) → W.cell? ⟨g, 3, none⟩ = some (.int .i64 d2) → Calls Tryz.prog 40 #[.slice (some ⟨g, 0, none⟩) 2 2] W fun e w' => e = .returned (.int .i64 0) ∧ Below W.heap.size W w')
    (ho1 : ∀ W, Calls Tryz.prog 41 #[(Value.agg #[.int .i64 n1, .int .i64 d1])] W fun e w' => QR W x e w')
    (ho2 : ∀ W, Calls Tryz.prog 41 #[(Value.agg #[.int .i64 n2, .int .i64 d2])] W fun e w' => QR W y e w')
    (hop : ∀ (A1a : Option Addr) (c1a : Nat) (l1a : List Nat) (m1a : Bool) (A1b : Option Addr) (c1b : Nat) (l1b : List Nat) (m1b : Bool) (A2a : Option Addr) (c2a : Nat) (l2a : List Nat) (m2a : Bool) (A2b : Option Addr) (c2b : Nat) (l2b : List Nat) (m2b : Bool) W, QV W A1a c1a l1a m1a A1b c1b l1b m1b x → QV W A2a c2a l2a m2a A2b c2b l2b m2b y → Calls Tryz.prog 43 #[(Value.agg #[.slice A1a l1a.length c1a, .bool m1a, .slice A1b l1b.length c1b, .bool m1b]), (Value.agg #[.slice A2a l2a.length c2a, .bool m2a, .slice A2b l2b.length c2b, .bool m2b])] W fun e w' => QR W q e w')
    (hto : ∀ (A5 : Option Addr) (c5 : Nat) (l5 : List Nat) (m5 : Bool) (A6 : Option Addr) (c6 : Nat) (l6 : List Nat) (m6 : Bool) W, WholeF W A5 c5 l5 m5 q.num → WholeF W A6 c6 l6 m6 (q.den : Int) → Calls Tryz.prog 42 #[(Value.agg #[.slice A5 l5.length c5, .bool m5, .slice A6 l6.length c6, .bool m6])] W fun e w' => e = .returned (.tuple #[.agg #[.int .i64 rn, .int .i64 rd], .int .i64 re]) ∧ Below W.heap.size W w') :
    Calls Tryz.prog 10 #[.int .i64 0, .agg #[.int .i64 n1, .int .i64 d1], .agg #[.int .i64 n2, .int .i64 d2]] w fun e w' => e = .returned (.tuple #[.agg #[.int .i64 rn, .int .i64 rd], .int .i64 re]) ∧ Below w.heap.size w w' := by
  have HA := hide ha; have HO1 := hide ho1; have HO2 := hide ho2; have HOP := hide hop; have HTO := hide hto
  clear ha ho1 ho2 hop hto
  go_enter Tryz.func10, Tryz.ntmps10
  go_wp2_with fail
  obtain ⟨n0, n1_, n2_, hsz, hw0⟩ := three_new w (.cells #[.int .i64 n1, .int .i64 d1] 23) (.cells #[.int .i64 n2, .int .i64 d2] 23) (.cells #[.int .i64 0, .int .i64 0] 23)
  generalize (((w.alloc (.cells #[.int .i64 n1, .int .i64 d1] 23)).alloc (.cells #[.int .i64 n2, .int .i64 d2] 23)).alloc (.cells #[.int .i64 0, .int .i64 0] 23)) = Wz at *
  have n3_ := heap_alloc_new Wz (.cells #[.int .i64 n1, .int .i64 d1, .int .i64 n2, .int .i64 d2] 23)
  have hwb := (Below.refl Wz.heap.size Wz).alloc (Nat.le_refl _) (.cells #[.int .i64 n1, .int .i64 d1, .int .i64 n2, .int .i64 d2] 23)
  have hgz : Wz.heap.size = w.heap.size + 1 + 1 + 1 := by omega
  rw [hgz] at n3_
  refine ((unhide HA) (w.heap.size + 1 + 1 + 1) (Wz.alloc (.cells #[.int .i64 n1, .int .i64 d1, .int .i64 n2, .int .i64 d2] 23)) (lt_of_block n3_) (cells_of n3_ 0) (cells_of n3_ 1) (cells_of n3_ 2) (cells_of n3_ 3)).mono ?_
  rintro e W0 ⟨rfl, hb0⟩
  replace hb0 := below_step' hwb hb0
  replace n0 := (hb0.block _ (lt_of_block n0)).trans n0
  replace n1_ := (hb0.block _ (lt_of_block n1_)).trans n1_
  replace n2_ := (hb0.block _ (lt_of_block n2_)).trans n2_
  replace hw0 := below_step' hw0 hb0
  clear hb0 hwb n3_ hsz hgz HA
  have q0 := lt_of_block n0
  have k0_0 : W0.cell? ⟨w.heap.size, 0, none⟩ = some (.int .i64 n1) := cells_of n0 0
  have k0_1 : W0.cell? ⟨w.heap.size, 1, none⟩ = some (.int .i64 d1) := cells_of n0 1
  have q1 := lt_of_block n1_
  have k1_0 : W0.cell? ⟨w.heap.size + 1, 0, none⟩ = some (.int .i64 n2) := cells_of n1_ 0
  have k1_1 : W0.cell? ⟨w.heap.size + 1, 1, none⟩ = some (.int .i64 d2) := cells_of n1_ 1
  have q2 := lt_of_block n2_
  have k2_0 : W0.cell? ⟨w.heap.size + 1 + 1, 0, none⟩ = some (.int .i64 0) := cells_of n2_ 0
  have k2_1 : W0.cell? ⟨w.heap.size + 1 + 1, 1, none⟩ = some (.int .i64 0) := cells_of n2_ 1
  have f2_0 := unfrozen_of n2_ 0; have f2_1 := unfrozen_of n2_ 1
  clear n0 n1_ n2_
  go_upto_region 4 with fail
  go_cut [9, 10] (fun s9_ s10_ wx => ∃ b9 b10 : Nat, s9_ = .pointer (some ⟨b9, 0, none⟩) ∧ s10_ = .pointer (some ⟨b10, 0, none⟩) ∧ BoxQ wx b9 x ∧ BoxQ wx b10 y ∧ Below W0.heap.size W0 wx ∧ W0.heap.size ≤ b9 ∧ W0.heap.size ≤ b10)
  case first =>
    have KEEP := hide (show ∀ X, Below W0.heap.size W0 X → X.cell? ⟨w.heap.size, 0, none⟩ = some (.int .i64 n1) ∧ X.cell? ⟨w.heap.size, 1, none⟩ = some (.int .i64 d1) ∧ X.cell? ⟨w.heap.size + 1, 0, none⟩ = some (.int .i64 n2) ∧ X.cell? ⟨w.heap.size + 1, 1, none⟩ = some (.int .i64 d2) from fun X hB => ⟨keep_cell hB q0 k0_0, keep_cell hB q0 k0_1, keep_cell hB q1 k1_0, keep_cell hB q1 k1_1⟩)
    go_region_held3 (fun w' => w'.cell? ⟨w.heap.size, 0, none⟩ = some (.int .i64 n1) ∧ w'.cell? ⟨w.heap.size, 1, none⟩ = some (.int .i64 d1) ∧ w'.cell? ⟨w.heap.size + 1, 0, none⟩ = some (.int .i64 n2) ∧ w'.cell? ⟨w.heap.size + 1, 1, none⟩ = some (.int .i64 d2)) (exact (unhide KEEP) _ (by (repeat (first | with_reducible exact Below.refl _ _ | with_reducible assumption | with_reducible refine Below.drew ?_ | with_reducible refine below_alloc ?_ _ | (with_reducible refine below_set ?_ ?_ _ _; rotate_left; (first | omega | (simp <;> omega))))))) (first | (go_at_call_of 41 (Value.agg #[.int .i64 n1, .int .i64 d1]); refine ((unhide HO1) _).mono ?_; rintro e w' ⟨A1a, c1a, l1a, m1a, A1b, c1b, l1b, m1b, rfl, ha1, hd1, hb1⟩; have hf1 := QV.of ha1 hd1; clear ha1 hd1; have hbw := below_step (w := W0) (by (repeat (first | with_reducible exact Below.refl _ _ | with_reducible assumption | with_reducible refine Below.drew ?_ | with_reducible refine below_alloc ?_ _))) hb1; have hsw := hbw.size; obtain ⟨hc, hfz⟩ := bcell hbw; (try ((first | have u1a : FrQ W0 w' _ := FrQ.below (FrQ.new (by (repeat (first | with_reducible exact Below.refl _ _ | with_reducible assumption | with_reducible refine Below.drew ?_ | with_reducible refine below_alloc ?_ _))) rfl) hb1 | have u1a : FrQ W0 w' _ := FrQ.below (FrQ.drew (FrQ.new (by (repeat (first | with_reducible exact Below.refl _ _ | with_reducible assumption | with_reducible refine Below.drew ?_ | with_reducible refine below_alloc ?_ _))) rfl)) hb1); (try simp only [World.size_alloc] at u1a); (try dsimp only [World.drew] at u1a); (try simp only [World.size_alloc] at u1a); obtain ⟨⟨u1a0, u1a1, u1a2, u1a3⟩, ⟨u1a4, u1a5, u1a6, u1a7⟩, ⟨u1a8, u1a9, u1a10, u1a11⟩, ⟨u1a12, u1a13, u1a14, u1a15⟩, u1a16, u1a17⟩ := FrQ.facts u1a)); (try ((first | have u1b : FrQ W0 w' _ := FrQ.below (FrQ.alloc (FrQ.new (by (repeat (first | with_reducible exact Below.refl _ _ | with_reducible assumption | with_reducible refine Below.drew ?_ | with_reducible refine below_alloc ?_ _))) rfl)) hb1 | have u1b : FrQ W0 w' _ := FrQ.below (FrQ.drew (FrQ.alloc (FrQ.new (by (repeat (first | with_reducible exact Below.refl _ _ | with_reducible assumption | with_reducible refine Below.drew ?_ | with_reducible refine below_alloc ?_ _))) rfl))) hb1); (try simp only [World.size_alloc] at u1b); (try dsimp only [World.drew] at u1b); (try simp only [World.size_alloc] at u1b); obtain ⟨⟨u1b0, u1b1, u1b2, u1b3⟩, ⟨u1b4, u1b5, u1b6, u1b7⟩, ⟨u1b8, u1b9, u1b10, u1b11⟩, ⟨u1b12, u1b13, u1b14, u1b15⟩, u1b16, u1b17⟩ := FrQ.facts u1b))) | (go_at_call_of 41 (Value.agg #[.int .i64 n2, .int .i64 d2]); refine ((unhide HO2) _).mono ?_; rintro e w' ⟨A2a, c2a, l2a, m2a, A2b, c2b, l2b, m2b, rfl, ha2, hd2, hb2⟩; have hf2 := QV.of ha2 hd2; clear ha2 hd2; have hf1 := QV.below (QV.below hf1 (by (repeat (first | with_reducible exact Below.refl _ _ | with_reducible assumption | with_reducible refine Below.drew ?_ | with_reducible refine below_alloc ?_ _)))) hb2; have hbw := below_step (w := W0) (by (repeat (first | with_reducible exact Below.refl _ _ | with_reducible assumption | with_reducible refine Below.drew ?_ | with_reducible refine below_alloc ?_ _))) hb2; have hsw := hbw.size; obtain ⟨hc, hfz⟩ := bcell hbw; (try ((first | have u2a : FrQ W0 w' _ := FrQ.below (FrQ.new (by (repeat (first | with_reducible exact Below.refl _ _ | with_reducible assumption | with_reducible refine Below.drew ?_ | with_reducible refine below_alloc ?_ _))) rfl) hb2 | have u2a : FrQ W0 w' _ := FrQ.below (FrQ.drew (FrQ.new (by (repeat (first | with_reducible exact Below.refl _ _ | with_reducible assumption | with_reducible refine Below.drew ?_ | with_reducible refine below_alloc ?_ _))) rfl)) hb2); (try simp only [World.size_alloc] at u2a); (try dsimp only [World.drew] at u2a); (try simp only [World.size_alloc] at u2a); obtain ⟨⟨u2a0, u2a1, u2a2, u2a3⟩, ⟨u2a4, u2a5, u2a6, u2a7⟩, ⟨u2a8, u2a9, u2a10, u2a11⟩, ⟨u2a12, u2a13, u2a14, u2a15⟩, u2a16, u2a17⟩ := FrQ.facts u2a)); (try ((first | have u2b : FrQ W0 w' _ := FrQ.below (FrQ.alloc (FrQ.new (by (repeat (first | with_reducible exact Below.refl _ _ | with_reducible assumption | with_reducible refine Below.drew ?_ | with_reducible refine below_alloc ?_ _))) rfl)) hb2 | have u2b : FrQ W0 w' _ := FrQ.below (FrQ.drew (FrQ.alloc (FrQ.new (by (repeat (first | with_reducible exact Below.refl _ _ | with_reducible assumption | with_reducible refine Below.drew ?_ | with_reducible refine below_alloc ?_ _))) rfl))) hb2); (try simp only [World.size_alloc] at u2b); (try dsimp only [World.drew] at u2b); (try simp only [World.size_alloc] at u2b); obtain ⟨⟨u2b0, u2b1, u2b2, u2b3⟩, ⟨u2b4, u2b5, u2b6, u2b7⟩, ⟨u2b8, u2b9, u2b10, u2b11⟩, ⟨u2b12, u2b13, u2b14, u2b15⟩, u2b16, u2b17⟩ := FrQ.facts u2b)); (try ((first | have u2c : FrQ W0 w' _ := FrQ.below u1a hb2 | have u2c : FrQ W0 w' _ := FrQ.below (FrQ.alloc u1a) hb2 | have u2c : FrQ W0 w' _ := FrQ.below (FrQ.alloc (FrQ.alloc u1a)) hb2); (try simp only [World.size_alloc] at u2c); (try dsimp only [World.drew] at u2c); (try simp only [World.size_alloc] at u2c); obtain ⟨⟨u2c0, u2c1, u2c2, u2c3⟩, ⟨u2c4, u2c5, u2c6, u2c7⟩, ⟨u2c8, u2c9, u2c10, u2c11⟩, ⟨u2c12, u2c13, u2c14, u2c15⟩, u2c16, u2c17⟩ := FrQ.facts u2c)); (try ((first | have u2d : FrQ W0 w' _ := FrQ.below u1b hb2 | have u2d : FrQ W0 w' _ := FrQ.below (FrQ.alloc u1b) hb2 | have u2d : FrQ W0 w' _ := FrQ.below (FrQ.alloc (FrQ.alloc u1b)) hb2); (try simp only [World.size_alloc] at u2d); (try dsimp only [World.drew] at u2d); (try simp only [World.size_alloc] at u2d); obtain ⟨⟨u2d0, u2d1, u2d2, u2d3⟩, ⟨u2d4, u2d5, u2d6, u2d7⟩, ⟨u2d8, u2d9, u2d10, u2d11⟩, ⟨u2d12, u2d13, u2d14, u2d15⟩, u2d16, u2d17⟩ := FrQ.facts u2d))))
    all_goals (go_wp2_with fail; go_meet; refine ⟨_, _, rfl, rfl, ?_⟩; first | with_reducible exact qput_two ⟨by assumption, by assumption, by first | assumption | omega⟩ hf1 hf2 hbw | with_reducible exact qput_two (FrQ2.newR (by assumption) rfl) hf1.alloc hf2.alloc (below_alloc hbw _) | with_reducible exact qput_two (FrQ2.newL (by assumption) rfl) hf1.alloc hf2.alloc (below_alloc hbw _) | with_reducible exact qput_nn hf1 hf2 hbw rfl rfl | with_reducible exact qput_mm hf1 hf2 hbw rfl rfl | with_reducible exact qput_ns (by assumption) hf1 hf2 hbw rfl)
  case rest =>
    revert hcut
    generalize wc = W1
    intro hcut
    obtain ⟨b9, b10, rfl, rfl, B9, B10, hbx, ob9, ob10⟩ := hcut
    obtain ⟨hc, hfz⟩ := bcell hbx
    replace ob9 : w.heap.size + 1 + 1 < b9 := Nat.lt_of_lt_of_le q2 ob9
    replace ob10 : w.heap.size + 1 + 1 < b10 := Nat.lt_of_lt_of_le q2 ob10
    replace k2_0 := (hc _ _ q2).trans k2_0
    replace f2_0 := (hfz _ _ q2).trans f2_0
    replace k2_1 := (hc _ _ q2).trans k2_1
    replace f2_1 := (hfz _ _ q2).trans f2_1
    replace q2 := Nat.lt_of_lt_of_le q2 hbx.size
    replace hw0 := below_step' hw0 hbx
    clear k0_0 k0_1 k1_0 k1_1 q0 q1
    obtain ⟨A1a, c1a, l1a, m1a, A1b, c1b, l1b, m1b, j1, f1⟩ := B9
    have kb1_0 : W1.cell? ⟨b9, 0, none⟩ = some (.slice A1a l1a.length c1a) := cells_of j1 0
    have kb1_1 : W1.cell? ⟨b9, 1, none⟩ = some (.bool m1a) := cells_of j1 1
    have kb1_2 : W1.cell? ⟨b9, 2, none⟩ = some (.slice A1b l1b.length c1b) := cells_of j1 2
    have kb1_3 : W1.cell? ⟨b9, 3, none⟩ = some (.bool m1b) := cells_of j1 3
    have qb1 := lt_of_block j1
    clear j1
    obtain ⟨A2a, c2a, l2a, m2a, A2b, c2b, l2b, m2b, j2, f2⟩ := B10
    have kb2_0 : W1.cell? ⟨b10, 0, none⟩ = some (.slice A2a l2a.length c2a) := cells_of j2 0
    have kb2_1 : W1.cell? ⟨b10, 1, none⟩ = some (.bool m2a) := cells_of j2 1
    have kb2_2 : W1.cell? ⟨b10, 2, none⟩ = some (.slice A2b l2b.length c2b) := cells_of j2 2
    have kb2_3 : W1.cell? ⟨b10, 3, none⟩ = some (.bool m2b) := cells_of j2 3
    have qb2 := lt_of_block j2
    clear j2
    have F1 := hide f1; have F2 := hide f2
    clear f1 f2 hbx hc hfz
    go_wp2_with fail
    refine ((unhide HOP) A1a c1a l1a m1a A1b c1b l1b m1b A2a c2a l2a m2a A2b c2b l2b m2b W1 (unhide F1) (unhide F2)).mono ?_
    rintro e W3 ⟨A5, c5, l5, m5, A6, c6, l6, m6, rfl, g5, g6, hb⟩
    clear kb1_0 kb1_1 kb1_2 kb1_3 kb2_0 kb2_1 kb2_2 kb2_3 qb1 qb2 F1 F2
    have G5 := hide g5; have G6 := hide g6
    clear g5 g6
    obtain ⟨hc, hfz⟩ := bcell hb
    replace k2_0 := (hc _ _ q2).trans k2_0
    replace f2_0 := (hfz _ _ q2).trans f2_0
    replace k2_1 := (hc _ _ q2).trans k2_1
    replace f2_1 := (hfz _ _ q2).trans f2_1
    replace q2 := Nat.lt_of_lt_of_le q2 hb.size
    replace hw0 := below_step' hw0 hb
    clear hb hc hfz
    go_wp2_with fail
    refine ((unhide HTO) A5 c5 l5 m5 A6 c6 l6 m6 W3 (unhide G5) (unhide G6)).mono ?_
    rintro e W4 ⟨rfl, hb⟩
    obtain ⟨hc, hfz⟩ := bcell hb
    replace k2_0 := (hc _ _ q2).trans k2_0
    replace f2_0 := (hfz _ _ q2).trans f2_0
    replace k2_1 := (hc _ _ q2).trans k2_1
    replace f2_1 := (hfz _ _ q2).trans f2_1
    replace q2 := Nat.lt_of_lt_of_le q2 hb.size
    replace hw0 := below_step' hw0 hb
    clear hb hc hfz
    go_wp2_with fail
    exact bodyPost_ret (v := .tuple #[.agg #[.int .i64 rn, .int .i64 rd], .int .i64 re]) (by simp [results, Tryz.results10, go_sem, k2_0, k2_1, q2]) rfl
      ⟨rfl, hw0.grown (set2_grown _ _ _ _) hw0.size (fun k hk => by injection hk with hk; omega)⟩

end Go.Proofs.YtmahhmdodfimbaaGreatDoor
