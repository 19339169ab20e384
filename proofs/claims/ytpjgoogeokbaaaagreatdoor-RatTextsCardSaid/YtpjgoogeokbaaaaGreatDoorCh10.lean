/- Part 10 of the texts beneath a law of layer 1: RfLs, RfAd, RfQb, RfQa1, RfQa2. -/
import Derived.Test.YtpjgoogeokbaaaaGreatDoorCh9
/- The reference: differences of amounts: the walk. -/
namespace Go.Proofs.YtpjgoogeokbaaaaGreatDoor
open Go.RowKit

theorem less_word {x b : Nat} (hx : x < B32) (hb : b ≤ 1) (y : Nat) (hy : y < B32) : ∃ (t v d b' : Nat), IntKind.u64.wrap ((x : Int) - (b : Int)) = (t : Int) ∧ IntKind.u64.wrap ((t : Int) - (y : Int)) = (v : Int) ∧ IntKind.u32.wrap (v : Int) = (d : Int) ∧ (v : Int) % 4294967296 = (d : Int) ∧ (v : Int) / 9223372036854775808 = (b' : Int) ∧ d < B32 ∧ b' ≤ 1 ∧ d + y + b = x + B32 * b' ∧ (y = 0 → v = t) ∧ t < B64 := by
  simp only [IntKind.wrap_u64, IntKind.wrap_u32]
  rw [B32_eq] at *
  rw [B64_eq]
  by_cases h1 : b ≤ x
  · by_cases h2 : b + y ≤ x
    · exact ⟨x - b, x - b - y, x - b - y, 0, by omega, by omega, by omega, by omega, by omega, by omega, by omega, by omega, by omega, by omega⟩
    · exact ⟨x - b, 18446744073709551616 + x - b - y, 4294967296 + x - b - y, 1, by omega, by omega, by omega, by omega, by omega, by omega, by omega, by omega, by omega, by omega⟩
  · exact ⟨18446744073709551616 + x - b, 18446744073709551616 + x - b - y, 4294967296 + x - b - y, 1, by omega, by omega, by omega, by omega, by omega, by omega, by omega, by omega, by omega, by omega⟩

set_option maxRecDepth 100000 in
set_option maxHeartbeats 2000000 in
theorem tless_any (Ax Ay : Option Addr) (cx cy : Nat) (xl yl : List Nat) (n m : Nat) (w : World) (hx : NatT w Ax cx xl n) (hy : NatT w Ay cy yl m) (hk : xl.length ≤ 35184372088832) (hle : m ≤ n) :
    Calls Tryz.prog 145 #[.slice Ax xl.length cx, .slice Ay yl.length cy] w fun e w' => NatU w (n - m) e w' := by
  have hyx : yl.length ≤ xl.length := hy.len (Nat.lt_of_le_of_lt hle hx.lt_pow)
  have hmk := make32cap xl.length hk
  have hmade := own_made w xl.length hk 136
  obtain ⟨C, hC⟩ : ∃ C, C = xl.length := ⟨_, rfl⟩
  have hmade' : (w.alloc (.cells (wcells .u32 (List.replicate xl.length 0)) 136)).ownsRow w.heap.size 136 1 (.slice (some ⟨w.heap.size, 0, none⟩) 0 C) 0 (wvals .u32 []) := by rw [hC]; exact hmade
  have hmk' : ∀ W : World, (Instr.makeSlice 48 (.int .i64 0) (.int .i64 (xl.length : Int))).run Tryz.prog W = .ok (.slice (some ⟨W.heap.size, 0, none⟩) 0 C) (W.alloc (.cells (wcells .u32 (List.replicate xl.length 0)) 136)) := by rw [hC]; exact hmk
  have HC := Lib.hid hC
  clear hmk hmade hC
  obtain ⟨i0, hi0, hz0, hz1, hz2⟩ := info_parts info32
  have hx1 := hx.cap1; have hx2 := hx.cap2; have hy1 := hy.cap1; have hy2 := hy.cap2
  go_enter Tryz.func145, Tryz.ntmps145
  go_wp2_with fail
  go_loopw [5, 6, 7] (fun ov cv iv wr => ∃ (i c : Nat) (l : List Nat), i ≤ xl.length ∧ ov = .slice (some ⟨w.heap.size, 0, none⟩) i C ∧ cv = .int .u64 ((c : Nat) : Int) ∧ iv = .int .i64 ((i : Nat) : Int) ∧ Hid (Wd.LessInv B32 xl yl l i c) ∧ wr.ownsRow w.heap.size 136 1 (.slice (some ⟨w.heap.size, 0, none⟩) i C) i (wvals .u32 l) ∧ Below w.heap.size w wr) (fun _ _ iv _ => xl.length - (intOf iv).toNat)
  case atStart => exact ⟨0, 0, [], Nat.zero_le _, rfl, rfl, rfl, Wd.LessInv.start _ _ _, hmade', (Below.refl _ _).alloc (Nat.le_refl _) _⟩
  case round =>
    obtain ⟨i, c, l, hi, rfl, rfl, rfl, HI, hown, hg⟩ := hrel
    have hli := HI.out.len
    have hgl := own_lt hown
    have hsz := hg.size
    clear hmade' hmk'
    by_cases hlx : i < xl.length
    · have dx : decide ((i : Int) < (xl.length : Int)) = true := decide_eq_true (by omega)
      have dx' : decide (i < xl.length) = true := decide_eq_true (by omega)
      have hCi : i + 1 ≤ C := by have := HC.out; omega
      have hcB := HI.out.b1
      obtain ⟨x, hxx⟩ : ∃ x, x = Wd.g xl i := ⟨_, rfl⟩
      obtain ⟨y, hyy⟩ : ∃ y, y = Wd.g yl i := ⟨_, rfl⟩
      have hxB : x < B32 := by rw [hxx]; exact Wd.getD_lt (by rw [B32_eq]; omega) _ hx.lt i
      have hyB : y < B32 := by rw [hyy]; exact Wd.getD_lt (by rw [B32_eq]; omega) _ hy.lt i
      have b64 : ∀ t : Nat, t < B32 → t < B64 := fun t ht => by rw [B32_eq] at ht; rw [B64_eq]; omega
      have e1 : IntKind.u64.wrap (x : Int) = (x : Int) := wrap64_nat rfl (b64 _ hxB)
      have e2 : IntKind.u64.wrap (y : Int) = (y : Int) := wrap64_nat rfl (b64 _ hyB)
      obtain ⟨t, v, d, b', e3, e4, e5, e5', e6, hdB, hb', heq, hv0, htB⟩ := less_word hxB hcB y hyB
      have hst := HI.out.step (by rw [← Wd.g_def]; exact hxx) (by rw [← Wd.g_def]; exact hyy) hdB hb' heq
      have HST := hide hst
      obtain ⟨bx, ox, rfl, hbx, hcx⟩ := hx.ws (by omega)
      have hxc : wr.cell? ⟨bx, ox + i, none⟩ = some (.int .u32 (x : Int)) := by rw [hxx]; exact (hg.cell (p := ⟨bx, ox + i, none⟩) hbx).trans (hcx i hlx)
      have hy0 : ¬ i < yl.length → y = 0 := fun h => by rw [hyy]; simp [Wd.g, List.getD, h]
      have hcelly : i < yl.length → ∃ b o, Ay = some ⟨b, o, none⟩ ∧ wr.cell? ⟨b, o + i, none⟩ = some (.int .u32 (y : Int)) := fun h => by
        obtain ⟨b, o, rfl, hbb, hc⟩ := hy.ws (by omega)
        exact ⟨b, o, rfl, by rw [hyy]; exact (hg.cell (p := ⟨b, o + i, none⟩) hbb).trans (hc i h)⟩
      clear hcx hxx hyy hst heq hdB b64 hxB hyB hz0 hz2
      by_cases hly : i < yl.length
      · have dy : decide ((i : Int) < (yl.length : Int)) = true := decide_eq_true (by omega)
        have dy' : decide (i < yl.length) = true := decide_eq_true (by omega)
        obtain ⟨by', oy, rfl, hyc⟩ := hcelly (by omega)
        clear hcelly hy0 hv0
        go_wp2_with (first | (at_builtin; refine wpList_append_fits _ rfl _ _ 48 rfl w.heap.size 136 i0 1 Tryz.underlying48 hi0 hz1 w.heap.size _ C (wvals .u32 l) rfl (hown.alloc _) ⟨_, 0, none⟩ 1 1 [.int .u32 ((d : Nat) : Int)] rfl rfl (one_cell _ _ _) (one_u32 _) (by omega) ?_; intro w1 hown1 hgrow1) | fail)
        obtain ⟨r1, r2⟩ := behind_append rfl (hg.alloc hsz _) (by simp <;> omega) hown1 hgrow1
        clear hown1 hgrow1 hown hg
        go_wp2_with fail
        go_roundw
        case rel => exact ⟨i + 1, b', l ++ [d], by omega, rfl, rfl, by go_num, unhide HST, r1, r2⟩
        case measure => simp [intOf] <;> omega
      · have dy : decide ((i : Int) < (yl.length : Int)) = false := decide_eq_false (by omega)
        have dy' : decide (i < yl.length) = false := decide_eq_false (by omega)
        obtain rfl : v = t := hv0 (hy0 (by omega))
        clear hcelly hy0 hv0
        go_wp2_with (first | (at_builtin; refine wpList_append_fits _ rfl _ _ 48 rfl w.heap.size 136 i0 1 Tryz.underlying48 hi0 hz1 w.heap.size _ C (wvals .u32 l) rfl (hown.alloc _) ⟨_, 0, none⟩ 1 1 [.int .u32 ((d : Nat) : Int)] rfl rfl (one_cell _ _ _) (one_u32 _) (by omega) ?_; intro w1 hown1 hgrow1) | fail)
        obtain ⟨r1, r2⟩ := behind_append rfl (hg.alloc hsz _) (by simp <;> omega) hown1 hgrow1
        clear hown1 hgrow1 hown hg
        go_wp2_with fail
        go_roundw
        case rel => exact ⟨i + 1, b', l ++ [d], by omega, rfl, rfl, by go_num, unhide HST, r1, r2⟩
        case measure => simp [intOf] <;> omega
    · have e : i = xl.length := by omega
      subst e
      have hv := HI.out.done rfl hyx (by rw [hx.val, hy.val]; exact hle)
      rw [hx.val, hy.val] at hv
      have HV := Lib.hid hv; have HLT := hide HI.out.lt
      obtain ⟨hws, hcap, hmax⟩ := own_ws hli.symm hown hgl
      have htr := ttrim_any (some ⟨w.heap.size, 0, none⟩) C l wr.heap.size wr hws hcap (by have := HC.out; omega)
      rw [hli] at htr
      have HTR := hide htr; have HWS := hide hws
      clear hv hown htr hws hmax hz0 hz2
      go_wp2_with fail
      refine (unhide HTR).mono ?_
      rintro e w' ⟨⟨k, rfl, ht, hk2⟩, rfl⟩
      dsimp only
      go_wp2_with fail
      go_ret
      have hk3 : k = (l.take k).length := by rw [List.length_take]; omega
      refine ⟨some ⟨w.heap.size, 0, none⟩, C, l.take k, ret_slice hk3, ?_, hg⟩
      have := NatT.of_trim_ws (cap := C) (unhide HWS) (unhide HLT) ht (by omega) (by have := HC.out; omega) (by have := HC.out; omega)
      rwa [HV.out] at this
end Go.Proofs.YtpjgoogeokbaaaaGreatDoor
/- The reference: sums of whole numbers. -/
namespace Go.Proofs.YtpjgoogeokbaaaaGreatDoor
open Go.RowKit

theorem add_same {z1 z2 : Int} {m : Bool} (h1 : m = decide (z1 < 0)) (h2 : m = decide (z2 < 0)) : (if m then -((z1.natAbs + z2.natAbs : Nat) : Int) else ((z1.natAbs + z2.natAbs : Nat) : Int)) = z1 + z2 := by
  subst h1
  by_cases a : z1 < 0 <;> by_cases b : z2 < 0 <;> simp [a, b] at h2 ⊢ <;> omega
theorem add_other {z1 z2 : Int} {m m' : Bool} (hne : m ≠ m') (h1 : m = decide (z1 < 0)) (h2 : m' = decide (z2 < 0)) (h : z2.natAbs ≤ z1.natAbs) : (if m then -((z1.natAbs - z2.natAbs : Nat) : Int) else ((z1.natAbs - z2.natAbs : Nat) : Int)) = z1 + z2 := by
  subst h1 h2
  by_cases a : z1 < 0 <;> by_cases b : z2 < 0 <;> simp [a, b] at hne ⊢ <;> omega

set_option maxRecDepth 100000 in
set_option maxHeartbeats 8000000 in
theorem tadd_same (A1 : Option Addr) (c1 : Nat) (l1 : List Nat) (m1 : Bool) (z1 : Int) (A2 : Option Addr) (c2 : Nat) (l2 : List Nat) (m2 : Bool) (z2 : Int) (w : World) (h1 : WholeF w A1 c1 l1 m1 z1) (h2 : WholeF w A2 c2 l2 m2 z2) (hk : l1.length + l2.length + 1 ≤ 35184372088832) (hs : m1 = m2) :
    Calls Tryz.prog 97 #[.agg #[.slice A1 l1.length c1, .bool m1], .agg #[.slice A2 l2.length c2, .bool m2]] w fun e w' => WholeR w (z1 + z2) e w' := by
  have hv := add_same h1.sign (hs ▸ h2.sign)
  have SG : (m1 == m2) = true := by rw [hs]; exact beq_self_eq_true _
  have HT := hide (fun W (hW : Below w.heap.size w W) => tplus_any A1 A2 c1 c2 l1 l2 z1.natAbs z2.natAbs W (h1.nat.below hW) (h2.nat.below hW) (by omega) (by omega))
  obtain ⟨p, hp⟩ : ∃ p, p = z1.natAbs + z2.natAbs := ⟨_, rfl⟩
  obtain ⟨z, hz⟩ : ∃ z, z = z1 + z2 := ⟨_, rfl⟩
  rw [← hp] at HT hv
  rw [← hz] at hv ⊢
  have HV := Lib.hid hv
  clear h1 h2 hk hp hz hv hs
  go_enter Tryz.func97, Tryz.ntmps97
  go_wp2_with fail
  obtain ⟨n0, n1, n2, hsz, hw0⟩ := three_new w (.cells #[.slice A1 l1.length c1, .bool m1] 50) (.cells #[.slice A2 l2.length c2, .bool m2] 50) (.cells #[.slice none 0 0, .bool false] 50)
  generalize (((w.alloc (.cells #[.slice A1 l1.length c1, .bool m1] 50)).alloc (.cells #[.slice A2 l2.length c2, .bool m2] 50)).alloc (.cells #[.slice none 0 0, .bool false] 50)) = W0 at *
  have q0 := lt_of_block n0; have q1 := lt_of_block n1; have q2 := lt_of_block n2
  have KEEP : ∀ X, Below W0.heap.size W0 X → (fun w' => w'.cell? ⟨w.heap.size, 0, none⟩ = some (.slice A1 l1.length c1) ∧ w'.cell? ⟨w.heap.size, 1, none⟩ = some (.bool m1) ∧ w'.cell? ⟨w.heap.size + 1, 0, none⟩ = some (.slice A2 l2.length c2) ∧ w'.cell? ⟨w.heap.size + 1, 1, none⟩ = some (.bool m2)) X := fun X hX => ⟨(hX.cell (p := ⟨w.heap.size, 0, none⟩) q0).trans (cells_of n0 0), (hX.cell (p := ⟨w.heap.size, 1, none⟩) q0).trans (cells_of n0 1), (hX.cell (p := ⟨w.heap.size + 1, 0, none⟩) q1).trans (cells_of n1 0), (hX.cell (p := ⟨w.heap.size + 1, 1, none⟩) q1).trans (cells_of n1 1)⟩
  obtain ⟨k0, k1, k2, k3⟩ := KEEP W0 (Below.refl _ _)
  have r0 : W0.cell? ⟨w.heap.size + 1 + 1, 0, none⟩ = some (.slice none 0 0) := cells_of n2 0
  have r1 : W0.cell? ⟨w.heap.size + 1 + 1, 1, none⟩ = some (.bool false) := cells_of n2 1
  have f0 := unfrozen_of n2 0
  have f1 := unfrozen_of n2 1
  have NR := Lib.hid n2; have HKE := hide KEEP
  clear n0 n1 n2 hsz KEEP
  go_wp2_with fail
  go_region_held3 (fun w' => w'.cell? ⟨w.heap.size, 0, none⟩ = some (.slice A1 l1.length c1) ∧ w'.cell? ⟨w.heap.size, 1, none⟩ = some (.bool m1) ∧ w'.cell? ⟨w.heap.size + 1, 0, none⟩ = some (.slice A2 l2.length c2) ∧ w'.cell? ⟨w.heap.size + 1, 1, none⟩ = some (.bool m2)) (first | with_reducible exact ⟨(cell_set2 _ _ _ _ (by omega)).trans ((hc _ _ q0).trans k0), (cell_set2 _ _ _ _ (by omega)).trans ((hc _ _ q0).trans k1), (cell_set2 _ _ _ _ (by omega)).trans ((hc _ _ q1).trans k2), (cell_set2 _ _ _ _ (by omega)).trans ((hc _ _ q1).trans k3)⟩ | exact (unhide HKE) _ (by (first | with_reducible assumption | (repeat (first | with_reducible exact Below.refl _ _ | with_reducible assumption | refine Below.drew ?_ | (refine Below.alloc ?_ (by simp <;> omega) _) | refine belowN ?_ _))))) (first | (go_at_call 143; refine ((unhide HT) _ (below_step' hw0 (by (first | with_reducible assumption | (repeat (first | with_reducible exact Below.refl _ _ | with_reducible assumption | refine Below.drew ?_ | (refine Below.alloc ?_ (by simp <;> omega) _) | refine belowN ?_ _)))))).mono ?_; rintro e w' ⟨A5, c5, l5, rfl, hn5, hb⟩; have hbw := below_step (w := W0) (by (first | with_reducible assumption | (repeat (first | with_reducible exact Below.refl _ _ | with_reducible assumption | refine Below.drew ?_ | (refine Below.alloc ?_ (by simp <;> omega) _) | refine belowN ?_ _)))) hb; obtain ⟨hc, hfz⟩ := bcell hbw) | (go_at_call 141; refine (tsigned_any A5 c5 l5 p m1 _ (by exact hn5)).mono ?_; rw [HV.out]; rintro e w' ⟨A6, c6, l6, m6, rfl, hf6, hb⟩; have hbw := below_step (w := W0) (by (first | with_reducible assumption | (repeat (first | with_reducible exact Below.refl _ _ | with_reducible assumption | refine Below.drew ?_ | (refine Below.alloc ?_ (by simp <;> omega) _) | refine belowN ?_ _)))) hb; obtain ⟨hc, hfz⟩ := bcell hbw))
  all_goals
    have hblk : w'.heap[w.heap.size + 1 + 1]? = some (.cells #[.slice none 0 0, .bool false] 50 (0, 0)) := (hbw.block _ q2).trans NR.out
    have HBLK := Lib.hid hblk
    have hb9 : Below w.heap.size w w' := below_step' hw0 hbw
    clear hblk
    go_wp2_with fail
    exact bodyPost_ret (v := .agg #[.slice A6 l6.length c6, .bool m6]) (by simp [results, Tryz.results97, go_sem, hc, r0, r1, q2]) rfl
      ⟨A6, c6, l6, m6, rfl, hf6.upto HBLK.out (noW2_2 _ _ _ _) (set2_grown _ _ _ _), hb9.grown (set2_grown _ _ _ _) hb9.size (fun k hk => by injection hk with hk; omega)⟩

set_option maxRecDepth 100000 in
set_option maxHeartbeats 8000000 in
theorem tadd_ge (A1 : Option Addr) (c1 : Nat) (l1 : List Nat) (m1 : Bool) (z1 : Int) (A2 : Option Addr) (c2 : Nat) (l2 : List Nat) (m2 : Bool) (z2 : Int) (w : World) (h1 : WholeF w A1 c1 l1 m1 z1) (h2 : WholeF w A2 c2 l2 m2 z2) (hk : l1.length + l2.length + 1 ≤ 35184372088832) (hs : m1 ≠ m2) (ho : z2.natAbs ≤ z1.natAbs) :
    Calls Tryz.prog 97 #[.agg #[.slice A1 l1.length c1, .bool m1], .agg #[.slice A2 l2.length c2, .bool m2]] w fun e w' => WholeR w (z1 + z2) e w' := by
  have hv := add_other hs h1.sign h2.sign ho
  have HT := hide (fun W (hW : Below w.heap.size w W) => tless_any A1 A2 c1 c2 l1 l2 z1.natAbs z2.natAbs W (h1.nat.below hW) (h2.nat.below hW) (by omega) ho)
  have ho3 : 0 ≤ ord3 z1.natAbs z2.natAbs := by unfold ord3; (repeat' split) <;> omega
  have SG : (m1 == m2) = false := beq_eq_false_iff_ne.2 hs
  have HO := hide (fun W (hW : Below w.heap.size w W) => torder_any A1 A2 c1 c2 l1 l2 z1.natAbs z2.natAbs W (h1.nat.below hW) (h2.nat.below hW))
  obtain ⟨o, hoo⟩ : ∃ o, o = ord3 z1.natAbs z2.natAbs := ⟨_, rfl⟩
  rw [← hoo] at HO ho3
  have d1 : decide ((0 : Int) ≤ o) = true := decide_eq_true ho3
  obtain ⟨p, hp⟩ : ∃ p, p = z1.natAbs - z2.natAbs := ⟨_, rfl⟩
  obtain ⟨z, hz⟩ : ∃ z, z = z1 + z2 := ⟨_, rfl⟩
  rw [← hp] at HT hv
  rw [← hz] at hv ⊢
  have HV := Lib.hid hv
  clear h1 h2 hk hp hz hv hs ho ho3 hoo
  go_enter Tryz.func97, Tryz.ntmps97
  go_wp2_with fail
  obtain ⟨n0, n1, n2, hsz, hw0⟩ := three_new w (.cells #[.slice A1 l1.length c1, .bool m1] 50) (.cells #[.slice A2 l2.length c2, .bool m2] 50) (.cells #[.slice none 0 0, .bool false] 50)
  generalize (((w.alloc (.cells #[.slice A1 l1.length c1, .bool m1] 50)).alloc (.cells #[.slice A2 l2.length c2, .bool m2] 50)).alloc (.cells #[.slice none 0 0, .bool false] 50)) = W0 at *
  have q0 := lt_of_block n0; have q1 := lt_of_block n1; have q2 := lt_of_block n2
  have KEEP : ∀ X, Below W0.heap.size W0 X → (fun w' => w'.cell? ⟨w.heap.size, 0, none⟩ = some (.slice A1 l1.length c1) ∧ w'.cell? ⟨w.heap.size, 1, none⟩ = some (.bool m1) ∧ w'.cell? ⟨w.heap.size + 1, 0, none⟩ = some (.slice A2 l2.length c2) ∧ w'.cell? ⟨w.heap.size + 1, 1, none⟩ = some (.bool m2)) X := fun X hX => ⟨(hX.cell (p := ⟨w.heap.size, 0, none⟩) q0).trans (cells_of n0 0), (hX.cell (p := ⟨w.heap.size, 1, none⟩) q0).trans (cells_of n0 1), (hX.cell (p := ⟨w.heap.size + 1, 0, none⟩) q1).trans (cells_of n1 0), (hX.cell (p := ⟨w.heap.size + 1, 1, none⟩) q1).trans (cells_of n1 1)⟩
  obtain ⟨k0, k1, k2, k3⟩ := KEEP W0 (Below.refl _ _)
  have r0 : W0.cell? ⟨w.heap.size + 1 + 1, 0, none⟩ = some (.slice none 0 0) := cells_of n2 0
  have r1 : W0.cell? ⟨w.heap.size + 1 + 1, 1, none⟩ = some (.bool false) := cells_of n2 1
  have f0 := unfrozen_of n2 0
  have f1 := unfrozen_of n2 1
  have NR := Lib.hid n2; have HKE := hide KEEP
  clear n0 n1 n2 hsz KEEP
  go_wp2_with fail
  refine ((unhide HO) _ hw0).mono ?_
  rintro e w1 ⟨rfl, hw1⟩
  obtain ⟨kk, rfl⟩ := hw1
  have hk0 : Below W0.heap.size W0 (W0.drewN kk) := belowN (Below.refl _ _) kk
  go_wp2_with fail
  go_region_held3 (fun w' => w'.cell? ⟨w.heap.size, 0, none⟩ = some (.slice A1 l1.length c1) ∧ w'.cell? ⟨w.heap.size, 1, none⟩ = some (.bool m1) ∧ w'.cell? ⟨w.heap.size + 1, 0, none⟩ = some (.slice A2 l2.length c2) ∧ w'.cell? ⟨w.heap.size + 1, 1, none⟩ = some (.bool m2)) (first | with_reducible exact ⟨(cell_set2 _ _ _ _ (by omega)).trans ((hc _ _ q0).trans k0), (cell_set2 _ _ _ _ (by omega)).trans ((hc _ _ q0).trans k1), (cell_set2 _ _ _ _ (by omega)).trans ((hc _ _ q1).trans k2), (cell_set2 _ _ _ _ (by omega)).trans ((hc _ _ q1).trans k3)⟩ | exact (unhide HKE) _ (by (first | with_reducible assumption | (repeat (first | with_reducible exact Below.refl _ _ | with_reducible assumption | refine Below.drew ?_ | (refine Below.alloc ?_ (by simp <;> omega) _) | refine belowN ?_ _))))) (first | (go_at_call 145; refine ((unhide HT) _ (below_step' hw0 (by (first | with_reducible assumption | (repeat (first | with_reducible exact Below.refl _ _ | with_reducible assumption | refine Below.drew ?_ | (refine Below.alloc ?_ (by simp <;> omega) _) | refine belowN ?_ _)))))).mono ?_; rintro e w' ⟨A5, c5, l5, rfl, hn5, hb⟩; have hbw := below_step (w := W0) (by (first | with_reducible assumption | (repeat (first | with_reducible exact Below.refl _ _ | with_reducible assumption | refine Below.drew ?_ | (refine Below.alloc ?_ (by simp <;> omega) _) | refine belowN ?_ _)))) hb; obtain ⟨hc, hfz⟩ := bcell hbw) | (go_at_call 141; refine (tsigned_any A5 c5 l5 p m1 _ (by exact hn5)).mono ?_; rw [HV.out]; rintro e w' ⟨A6, c6, l6, m6, rfl, hf6, hb⟩; have hbw := below_step (w := W0) (by (first | with_reducible assumption | (repeat (first | with_reducible exact Below.refl _ _ | with_reducible assumption | refine Below.drew ?_ | (refine Below.alloc ?_ (by simp <;> omega) _) | refine belowN ?_ _)))) hb; obtain ⟨hc, hfz⟩ := bcell hbw))
  all_goals
    have hblk : w'.heap[w.heap.size + 1 + 1]? = some (.cells #[.slice none 0 0, .bool false] 50 (0, 0)) := (hbw.block _ q2).trans NR.out
    have HBLK := Lib.hid hblk
    have hb9 : Below w.heap.size w w' := below_step' hw0 hbw
    clear hblk
    go_wp2_with fail
    exact bodyPost_ret (v := .agg #[.slice A6 l6.length c6, .bool m6]) (by simp [results, Tryz.results97, go_sem, hc, r0, r1, q2]) rfl
      ⟨A6, c6, l6, m6, rfl, hf6.upto HBLK.out (noW2_2 _ _ _ _) (set2_grown _ _ _ _), hb9.grown (set2_grown _ _ _ _) hb9.size (fun k hk => by injection hk with hk; omega)⟩

set_option maxRecDepth 100000 in
set_option maxHeartbeats 8000000 in
theorem tadd_lt (A1 : Option Addr) (c1 : Nat) (l1 : List Nat) (m1 : Bool) (z1 : Int) (A2 : Option Addr) (c2 : Nat) (l2 : List Nat) (m2 : Bool) (z2 : Int) (w : World) (h1 : WholeF w A1 c1 l1 m1 z1) (h2 : WholeF w A2 c2 l2 m2 z2) (hk : l1.length + l2.length + 1 ≤ 35184372088832) (hs : m1 ≠ m2) (ho : ¬ z2.natAbs ≤ z1.natAbs) :
    Calls Tryz.prog 97 #[.agg #[.slice A1 l1.length c1, .bool m1], .agg #[.slice A2 l2.length c2, .bool m2]] w fun e w' => WholeR w (z1 + z2) e w' := by
  have hv := add_other (Ne.symm hs) h2.sign h1.sign (by omega)
  rw [Int.add_comm z2 z1] at hv
  have HT := hide (fun W (hW : Below w.heap.size w W) => tless_any A2 A1 c2 c1 l2 l1 z2.natAbs z1.natAbs W (h2.nat.below hW) (h1.nat.below hW) (by omega) (by omega))
  have ho3 : ¬ 0 ≤ ord3 z1.natAbs z2.natAbs := by unfold ord3; (repeat' split) <;> omega
  have SG : (m1 == m2) = false := beq_eq_false_iff_ne.2 hs
  have HO := hide (fun W (hW : Below w.heap.size w W) => torder_any A1 A2 c1 c2 l1 l2 z1.natAbs z2.natAbs W (h1.nat.below hW) (h2.nat.below hW))
  obtain ⟨o, hoo⟩ : ∃ o, o = ord3 z1.natAbs z2.natAbs := ⟨_, rfl⟩
  rw [← hoo] at HO ho3
  have d1 : decide ((0 : Int) ≤ o) = false := decide_eq_false ho3
  obtain ⟨p, hp⟩ : ∃ p, p = z2.natAbs - z1.natAbs := ⟨_, rfl⟩
  obtain ⟨z, hz⟩ : ∃ z, z = z1 + z2 := ⟨_, rfl⟩
  rw [← hp] at HT hv
  rw [← hz] at hv ⊢
  have HV := Lib.hid hv
  clear h1 h2 hk hp hz hv hs ho ho3 hoo
  go_enter Tryz.func97, Tryz.ntmps97
  go_wp2_with fail
  obtain ⟨n0, n1, n2, hsz, hw0⟩ := three_new w (.cells #[.slice A1 l1.length c1, .bool m1] 50) (.cells #[.slice A2 l2.length c2, .bool m2] 50) (.cells #[.slice none 0 0, .bool false] 50)
  generalize (((w.alloc (.cells #[.slice A1 l1.length c1, .bool m1] 50)).alloc (.cells #[.slice A2 l2.length c2, .bool m2] 50)).alloc (.cells #[.slice none 0 0, .bool false] 50)) = W0 at *
  have q0 := lt_of_block n0; have q1 := lt_of_block n1; have q2 := lt_of_block n2
  have KEEP : ∀ X, Below W0.heap.size W0 X → (fun w' => w'.cell? ⟨w.heap.size, 0, none⟩ = some (.slice A1 l1.length c1) ∧ w'.cell? ⟨w.heap.size, 1, none⟩ = some (.bool m1) ∧ w'.cell? ⟨w.heap.size + 1, 0, none⟩ = some (.slice A2 l2.length c2) ∧ w'.cell? ⟨w.heap.size + 1, 1, none⟩ = some (.bool m2)) X := fun X hX => ⟨(hX.cell (p := ⟨w.heap.size, 0, none⟩) q0).trans (cells_of n0 0), (hX.cell (p := ⟨w.heap.size, 1, none⟩) q0).trans (cells_of n0 1), (hX.cell (p := ⟨w.heap.size + 1, 0, none⟩) q1).trans (cells_of n1 0), (hX.cell (p := ⟨w.heap.size + 1, 1, none⟩) q1).trans (cells_of n1 1)⟩
  obtain ⟨k0, k1, k2, k3⟩ := KEEP W0 (Below.refl _ _)
  have r0 : W0.cell? ⟨w.heap.size + 1 + 1, 0, none⟩ = some (.slice none 0 0) := cells_of n2 0
  have r1 : W0.cell? ⟨w.heap.size + 1 + 1, 1, none⟩ = some (.bool false) := cells_of n2 1
  have f0 := unfrozen_of n2 0
  have f1 := unfrozen_of n2 1
  have NR := Lib.hid n2; have HKE := hide KEEP
  clear n0 n1 n2 hsz KEEP
  go_wp2_with fail
  refine ((unhide HO) _ hw0).mono ?_
  rintro e w1 ⟨rfl, hw1⟩
  obtain ⟨kk, rfl⟩ := hw1
  have hk0 : Below W0.heap.size W0 (W0.drewN kk) := belowN (Below.refl _ _) kk
  go_wp2_with fail
  go_region_held3 (fun w' => w'.cell? ⟨w.heap.size, 0, none⟩ = some (.slice A1 l1.length c1) ∧ w'.cell? ⟨w.heap.size, 1, none⟩ = some (.bool m1) ∧ w'.cell? ⟨w.heap.size + 1, 0, none⟩ = some (.slice A2 l2.length c2) ∧ w'.cell? ⟨w.heap.size + 1, 1, none⟩ = some (.bool m2)) (first | with_reducible exact ⟨(cell_set2 _ _ _ _ (by omega)).trans ((hc _ _ q0).trans k0), (cell_set2 _ _ _ _ (by omega)).trans ((hc _ _ q0).trans k1), (cell_set2 _ _ _ _ (by omega)).trans ((hc _ _ q1).trans k2), (cell_set2 _ _ _ _ (by omega)).trans ((hc _ _ q1).trans k3)⟩ | exact (unhide HKE) _ (by (first | with_reducible assumption | (repeat (first | with_reducible exact Below.refl _ _ | with_reducible assumption | refine Below.drew ?_ | (refine Below.alloc ?_ (by simp <;> omega) _) | refine belowN ?_ _))))) (first | (go_at_call 145; refine ((unhide HT) _ (below_step' hw0 (by (first | with_reducible assumption | (repeat (first | with_reducible exact Below.refl _ _ | with_reducible assumption | refine Below.drew ?_ | (refine Below.alloc ?_ (by simp <;> omega) _) | refine belowN ?_ _)))))).mono ?_; rintro e w' ⟨A5, c5, l5, rfl, hn5, hb⟩; have hbw := below_step (w := W0) (by (first | with_reducible assumption | (repeat (first | with_reducible exact Below.refl _ _ | with_reducible assumption | refine Below.drew ?_ | (refine Below.alloc ?_ (by simp <;> omega) _) | refine belowN ?_ _)))) hb; obtain ⟨hc, hfz⟩ := bcell hbw) | (go_at_call 141; refine (tsigned_any A5 c5 l5 p m2 _ (by exact hn5)).mono ?_; rw [HV.out]; rintro e w' ⟨A6, c6, l6, m6, rfl, hf6, hb⟩; have hbw := below_step (w := W0) (by (first | with_reducible assumption | (repeat (first | with_reducible exact Below.refl _ _ | with_reducible assumption | refine Below.drew ?_ | (refine Below.alloc ?_ (by simp <;> omega) _) | refine belowN ?_ _)))) hb; obtain ⟨hc, hfz⟩ := bcell hbw))
  all_goals
    have hblk : w'.heap[w.heap.size + 1 + 1]? = some (.cells #[.slice none 0 0, .bool false] 50 (0, 0)) := (hbw.block _ q2).trans NR.out
    have HBLK := Lib.hid hblk
    have hb9 : Below w.heap.size w w' := below_step' hw0 hbw
    clear hblk
    go_wp2_with fail
    exact bodyPost_ret (v := .agg #[.slice A6 l6.length c6, .bool m6]) (by simp [results, Tryz.results97, go_sem, hc, r0, r1, q2]) rfl
      ⟨A6, c6, l6, m6, rfl, hf6.upto HBLK.out (noW2_2 _ _ _ _) (set2_grown _ _ _ _), hb9.grown (set2_grown _ _ _ _) hb9.size (fun k hk => by injection hk with hk; omega)⟩

theorem tadd_any (A1 : Option Addr) (c1 : Nat) (l1 : List Nat) (m1 : Bool) (z1 : Int) (A2 : Option Addr) (c2 : Nat) (l2 : List Nat) (m2 : Bool) (z2 : Int) (w : World) (h1 : WholeF w A1 c1 l1 m1 z1) (h2 : WholeF w A2 c2 l2 m2 z2) (hk : l1.length + l2.length + 1 ≤ 35184372088832) :
    Calls Tryz.prog 97 #[.agg #[.slice A1 l1.length c1, .bool m1], .agg #[.slice A2 l2.length c2, .bool m2]] w fun e w' => WholeR w (z1 + z2) e w' := by
  by_cases hs : m1 = m2
  · exact tadd_same A1 c1 l1 m1 z1 A2 c2 l2 m2 z2 w h1 h2 hk hs
  · by_cases ho : z2.natAbs ≤ z1.natAbs
    · exact tadd_ge A1 c1 l1 m1 z1 A2 c2 l2 m2 z2 w h1 h2 hk hs ho
    · exact tadd_lt A1 c1 l1 m1 z1 A2 c2 l2 m2 z2 w h1 h2 hk hs ho
end Go.Proofs.YtpjgoogeokbaaaaGreatDoor
/- Blocks that hold whole numbers of the reference; calls of two of them. -/
namespace Go.Proofs.YtpjgoogeokbaaaaGreatDoor
open Go.RowKit

/-- Block b is new beside Wp and has room for a whole number of the reference. -/
structure FrW (Wp W : World) (b : Nat) : Prop where
  old : Wp.heap.size ≤ b
  zero : W.heap[b]? = some (.cells #[.slice none 0 0, .bool false] 50 (0, 0))
theorem FrW.lt {Wp W : World} {b : Nat} (h : FrW Wp W b) : b < W.heap.size := lt_of_block h.zero
theorem FrW.drew {Wp W : World} {b : Nat} (h : FrW Wp W b) : FrW Wp W.drew b := ⟨h.old, h.zero⟩
theorem FrW.below {Wp W w' : World} {b : Nat} (h : FrW Wp W b) (hb : Below W.heap.size W w') : FrW Wp w' b := ⟨h.old, (hb.block _ h.lt).trans h.zero⟩
theorem FrW.new {Wp W : World} {b : Nat} (hb : Below Wp.heap.size Wp W) (e : b = W.heap.size) : FrW Wp (W.alloc (.cells #[.slice none 0 0, .bool false] 50 (0, 0))) b := by
  subst e; exact ⟨hb.size, heap_alloc_new W _⟩
theorem FrW.alloc {Wp W : World} {b : Nat} {o : Obj} (h : FrW Wp W b) : FrW Wp (W.alloc o) b := ⟨h.old, (Below.heap_alloc W _ b h.lt).trans h.zero⟩
structure FrW2 (Wp W : World) (b c : Nat) : Prop where
  one : FrW Wp W b
  two : FrW Wp W c
  ne : b ≠ c
theorem FrW2.newR {Wp W : World} {b c : Nat} (h : FrW Wp W b) (e : c = W.heap.size) : FrW2 Wp (W.alloc (.cells #[.slice none 0 0, .bool false] 50 (0, 0))) b c := by
  have hl := h.lt
  have ho := h.old
  subst e
  exact ⟨h.alloc, ⟨by omega, heap_alloc_new W _⟩, by omega⟩
theorem FrW2.newL {Wp W : World} {b c : Nat} (h : FrW Wp W c) (e : b = W.heap.size) : FrW2 Wp (W.alloc (.cells #[.slice none 0 0, .bool false] 50 (0, 0))) b c := by
  have hl := h.lt
  have ho := h.old
  subst e
  exact ⟨⟨by omega, heap_alloc_new W _⟩, h.alloc, by omega⟩
theorem BoxW.new {W : World} {b : Nat} {A1 : Option Addr} {c1 : Nat} {l1 : List Nat} {m1 : Bool} {z1 : Int} (h1 : WholeF W A1 c1 l1 m1 z1) (e : b = W.heap.size) : BoxW (W.alloc (.cells #[.slice A1 l1.length c1, .bool m1] 50)) b z1 := by
  subst e; exact ⟨A1, c1, l1, m1, heap_alloc_new W _, h1.below ((Below.refl _ _).alloc (Nat.le_refl _) _)⟩
theorem BoxW.alloc {W : World} {b : Nat} {z : Int} {o : Obj} (h : BoxW W b z) : BoxW (W.alloc o) b z := h.below ((Below.refl _ _).alloc (Nat.le_refl _) _)
theorem WholeF.alloc {W : World} {o : Obj} {A1 : Option Addr} {c1 : Nat} {l1 : List Nat} {m1 : Bool} {z1 : Int} (h1 : WholeF W A1 c1 l1 m1 z1) : WholeF (W.alloc o) A1 c1 l1 m1 z1 := h1.below ((Below.refl _ _).alloc (Nat.le_refl _) _)
theorem FrW.facts {Wp W : World} {b : Nat} (h : FrW Wp W b) : (W.cell? ⟨b, 0, none⟩ = some (.slice none 0 0) ∧ W.cell? ⟨b, 1, none⟩ = some (.bool false)) ∧
    (W.frozen? ⟨b, 0, none⟩ = false ∧ W.frozen? ⟨b, 1, none⟩ = false) ∧
    ((∀ o, (W.alloc o).cell? ⟨b, 0, none⟩ = some (.slice none 0 0)) ∧ (∀ o, (W.alloc o).cell? ⟨b, 1, none⟩ = some (.bool false))) ∧
    ((∀ o, (W.alloc o).frozen? ⟨b, 0, none⟩ = false) ∧ (∀ o, (W.alloc o).frozen? ⟨b, 1, none⟩ = false)) ∧
    ¬ (b = W.heap.size) ∧ ¬ (W.heap.size = b) :=
  ⟨⟨cells_of h.zero 0, cells_of h.zero 1⟩, ⟨unfrozen_of h.zero 0, unfrozen_of h.zero 1⟩,
   ⟨fun o => cells_of (h.alloc (o := o)).zero 0, fun o => cells_of (h.alloc (o := o)).zero 1⟩,
   ⟨fun o => unfrozen_of (h.alloc (o := o)).zero 0, fun o => unfrozen_of (h.alloc (o := o)).zero 1⟩, by have := h.lt; omega, by have := h.lt; omega⟩
theorem wput_one {Wp W : World} {b : Nat} {A1 : Option Addr} {c1 : Nat} {l1 : List Nat} {m1 : Bool} {z1 : Int} (hf : FrW Wp W b) (h1 : WholeF W A1 c1 l1 m1 z1) (hb : Below Wp.heap.size Wp W) :
    BoxW ((W.setCell ⟨b, 0, none⟩ (.slice A1 l1.length c1)).setCell ⟨b, 1, none⟩ (.bool m1)) b z1 ∧ Below Wp.heap.size Wp ((W.setCell ⟨b, 0, none⟩ (.slice A1 l1.length c1)).setCell ⟨b, 1, none⟩ (.bool m1)) ∧ Wp.heap.size ≤ b :=
  ⟨⟨A1, c1, l1, m1, set2_block hf.zero, h1.upto hf.zero (noW2_2 _ _ _ _) (set2_grown _ _ _ _)⟩, hb.grown (set2_grown _ _ _ _) hb.size (fun k hk => by injection hk with hk; have := hf.old; omega), hf.old⟩
theorem wput_two {Wp W : World} {b c : Nat} {A1 : Option Addr} {c1 : Nat} {l1 : List Nat} {m1 : Bool} {z1 : Int} {A2 : Option Addr} {c2 : Nat} {l2 : List Nat} {m2 : Bool} {z2 : Int} (hf : FrW2 Wp W b c) (h1 : WholeF W A1 c1 l1 m1 z1) (h2 : WholeF W A2 c2 l2 m2 z2) (hb : Below Wp.heap.size Wp W) :
    BoxW ((((W.setCell ⟨b, 0, none⟩ (.slice A1 l1.length c1)).setCell ⟨b, 1, none⟩ (.bool m1)).setCell ⟨c, 0, none⟩ (.slice A2 l2.length c2)).setCell ⟨c, 1, none⟩ (.bool m2)) b z1 ∧ BoxW ((((W.setCell ⟨b, 0, none⟩ (.slice A1 l1.length c1)).setCell ⟨b, 1, none⟩ (.bool m1)).setCell ⟨c, 0, none⟩ (.slice A2 l2.length c2)).setCell ⟨c, 1, none⟩ (.bool m2)) c z2 ∧ Below Wp.heap.size Wp ((((W.setCell ⟨b, 0, none⟩ (.slice A1 l1.length c1)).setCell ⟨b, 1, none⟩ (.bool m1)).setCell ⟨c, 0, none⟩ (.slice A2 l2.length c2)).setCell ⟨c, 1, none⟩ (.bool m2)) ∧ Wp.heap.size ≤ b ∧ Wp.heap.size ≤ c := by
  have g1 := set2_grown W b (.slice A1 l1.length c1) (.bool m1)
  have k2 := h2.upto hf.one.zero (noW2_2 _ _ _ _) g1
  have kc := (g1.block c hf.two.lt (fun e => hf.ne (by injection e with e; exact e.symm))).trans hf.two.zero
  have kb := (wput_one hf.one h1 hb)
  have ks := kb.2.1.size
  obtain ⟨⟨A, cap, l, m, e1, e2⟩, kb2, _⟩ := kb
  have g2 := set2_grown ((W.setCell ⟨b, 0, none⟩ (.slice A1 l1.length c1)).setCell ⟨b, 1, none⟩ (.bool m1)) c (.slice A2 l2.length c2) (.bool m2)
  exact ⟨⟨A, cap, l, m, (g2.block b (lt_of_block e1) (fun e => hf.ne (by injection e))).trans e1, e2.upto kc (noW2_2 _ _ _ _) g2⟩,
    ⟨A2, c2, l2, m2, set2_block kc, k2.upto kc (noW2_2 _ _ _ _) g2⟩, kb2.grown g2 ks (fun k hk => by injection hk with hk; have := hf.two.old; omega), hf.one.old, hf.two.old⟩
theorem wput_nn {Wp W : World} {b c : Nat} {A1 : Option Addr} {c1 : Nat} {l1 : List Nat} {m1 : Bool} {z1 : Int} {A2 : Option Addr} {c2 : Nat} {l2 : List Nat} {m2 : Bool} {z2 : Int} (h1 : WholeF W A1 c1 l1 m1 z1) (h2 : WholeF W A2 c2 l2 m2 z2) (hb : Below Wp.heap.size Wp W) (eb : b = W.heap.size) (ec : c = W.heap.size + 1) :
    BoxW ((W.alloc (.cells #[.slice A1 l1.length c1, .bool m1] 50)).alloc (.cells #[.slice A2 l2.length c2, .bool m2] 50)) b z1 ∧ BoxW ((W.alloc (.cells #[.slice A1 l1.length c1, .bool m1] 50)).alloc (.cells #[.slice A2 l2.length c2, .bool m2] 50)) c z2 ∧ Below Wp.heap.size Wp ((W.alloc (.cells #[.slice A1 l1.length c1, .bool m1] 50)).alloc (.cells #[.slice A2 l2.length c2, .bool m2] 50)) ∧ Wp.heap.size ≤ b ∧ Wp.heap.size ≤ c :=
  ⟨(BoxW.new h1 eb).alloc, BoxW.new h2.alloc (by rw [ec, World.size_alloc]), (hb.alloc hb.size _).alloc (hb.alloc hb.size _).size _, by have := hb.size; omega, by have := hb.size; omega⟩
theorem wput_mm {Wp W : World} {b c : Nat} {A1 : Option Addr} {c1 : Nat} {l1 : List Nat} {m1 : Bool} {z1 : Int} {A2 : Option Addr} {c2 : Nat} {l2 : List Nat} {m2 : Bool} {z2 : Int} (h1 : WholeF W A1 c1 l1 m1 z1) (h2 : WholeF W A2 c2 l2 m2 z2) (hb : Below Wp.heap.size Wp W) (ec : c = W.heap.size) (eb : b = W.heap.size + 1) :
    BoxW ((W.alloc (.cells #[.slice A2 l2.length c2, .bool m2] 50)).alloc (.cells #[.slice A1 l1.length c1, .bool m1] 50)) b z1 ∧ BoxW ((W.alloc (.cells #[.slice A2 l2.length c2, .bool m2] 50)).alloc (.cells #[.slice A1 l1.length c1, .bool m1] 50)) c z2 ∧ Below Wp.heap.size Wp ((W.alloc (.cells #[.slice A2 l2.length c2, .bool m2] 50)).alloc (.cells #[.slice A1 l1.length c1, .bool m1] 50)) ∧ Wp.heap.size ≤ b ∧ Wp.heap.size ≤ c := by
  obtain ⟨x1, x2, x3, x4, x5⟩ := wput_nn h2 h1 hb ec eb
  exact ⟨x2, x1, x3, x5, x4⟩
theorem wput_ns {Wp W : World} {b c : Nat} {A1 : Option Addr} {c1 : Nat} {l1 : List Nat} {m1 : Bool} {z1 : Int} {A2 : Option Addr} {c2 : Nat} {l2 : List Nat} {m2 : Bool} {z2 : Int} (hf : FrW Wp W c) (h1 : WholeF W A1 c1 l1 m1 z1) (h2 : WholeF W A2 c2 l2 m2 z2) (hb : Below Wp.heap.size Wp W) (eb : b = W.heap.size) :
    BoxW (((W.alloc (.cells #[.slice A1 l1.length c1, .bool m1] 50)).setCell ⟨c, 0, none⟩ (.slice A2 l2.length c2)).setCell ⟨c, 1, none⟩ (.bool m2)) b z1 ∧ BoxW (((W.alloc (.cells #[.slice A1 l1.length c1, .bool m1] 50)).setCell ⟨c, 0, none⟩ (.slice A2 l2.length c2)).setCell ⟨c, 1, none⟩ (.bool m2)) c z2 ∧ Below Wp.heap.size Wp (((W.alloc (.cells #[.slice A1 l1.length c1, .bool m1] 50)).setCell ⟨c, 0, none⟩ (.slice A2 l2.length c2)).setCell ⟨c, 1, none⟩ (.bool m2)) ∧ Wp.heap.size ≤ b ∧ Wp.heap.size ≤ c := by
  have hl := hf.lt
  have hx := wput_one hf.alloc h2.alloc (hb.alloc hb.size (.cells #[.slice A1 l1.length c1, .bool m1] 50))
  have hn := (BoxW.new h1 eb)
  obtain ⟨A, cap, l, m, e1, e2⟩ := hn
  have g2 := set2_grown (W.alloc (.cells #[.slice A1 l1.length c1, .bool m1] 50)) c (.slice A2 l2.length c2) (.bool m2)
  exact ⟨⟨A, cap, l, m, (g2.block b (lt_of_block e1) (fun e => by injection e with e; omega)).trans e1, e2.upto (hf.alloc (o := _)).zero (noW2_2 _ _ _ _) g2⟩, hx.1, hx.2.1, by have := hb.size; omega, hx.2.2⟩
/-- Function F makes of the whole numbers a and b the whole number c, in every world that holds what w holds. -/
def OpW2 (w : World) (F : Nat) (a b c : Int) : Prop := ∀ (A1 : Option Addr) (c1 : Nat) (l1 : List Nat) (m1 : Bool) (A2 : Option Addr) (c2 : Nat) (l2 : List Nat) (m2 : Bool) (W : World), Below w.heap.size w W → WholeF W A1 c1 l1 m1 a → WholeF W A2 c2 l2 m2 b → Calls Tryz.prog F #[(Value.agg #[.slice A1 l1.length c1, .bool m1]), (Value.agg #[.slice A2 l2.length c2, .bool m2])] W fun e w' => WholeR W c e w'
/-- .. and of a and b the number q. -/
def OpRQ (w : World) (F : Nat) (a b : Int) (q : Rat) : Prop := ∀ (A1 : Option Addr) (c1 : Nat) (l1 : List Nat) (m1 : Bool) (A2 : Option Addr) (c2 : Nat) (l2 : List Nat) (m2 : Bool) (W : World), Below w.heap.size w W → WholeF W A1 c1 l1 m1 a → WholeF W A2 c2 l2 m2 b → Calls Tryz.prog F #[(Value.agg #[.slice A1 l1.length c1, .bool m1]), (Value.agg #[.slice A2 l2.length c2, .bool m2])] W fun e w' => QR W q e w'
theorem cell_set4 {w : World} {g : Nat} (u0 u1 u2 u3 : Value) (b o : Nat) (h : b ≠ g) : ((((w.setCell ⟨g, 0, none⟩ u0).setCell ⟨g, 1, none⟩ u1).setCell ⟨g, 2, none⟩ u2).setCell ⟨g, 3, none⟩ u3).cell? ⟨b, o, none⟩ = w.cell? ⟨b, o, none⟩ := by
  rw [cell_set1 _ _ _ _ h, cell_set1 _ _ _ _ h, cell_set1 _ _ _ _ h, cell_set1 _ _ _ _ h]

end Go.Proofs.YtpjgoogeokbaaaaGreatDoor
/- The walk through the sum of two integers as numbers of the reference. -/
namespace Go.Proofs.YtpjgoogeokbaaaaGreatDoor
open Go.RowKit

set_option maxRecDepth 100000 in
set_option maxHeartbeats 16000000 in
theorem qadd_tt (A1 : Option Addr) (c1 : Nat) (l1 : List Nat) (m1 : Bool) (A2 : Option Addr) (c2 : Nat) (l2 : List Nat) (m2 : Bool) (A3 : Option Addr) (c3 : Nat) (l3 : List Nat) (m3 : Bool) (A4 : Option Addr) (c4 : Nat) (l4 : List Nat) (m4 : Bool) (z1 b1 z3 b3 n : Int) (q : Rat) (w : World) (f1 : WholeF w A1 c1 l1 m1 z1) (f3 : WholeF w A3 c3 l3 m3 z3)
    (hd1 : ∀ W, Below w.heap.size w W → Calls Tryz.prog 95 #[(Value.agg #[.slice A1 l1.length c1, .bool m1, .slice A2 l2.length c2, .bool m2])] W fun e w' => WholeR W b1 e w') (hd3 : ∀ W, Below w.heap.size w W → Calls Tryz.prog 95 #[(Value.agg #[.slice A3 l3.length c3, .bool m3, .slice A4 l4.length c4, .bool m4])] W fun e w' => WholeR W b3 e w')
    (ho1 : ∀ (A7 : Option Addr) (c7 : Nat) (l7 : List Nat) (m7 : Bool) (W : World), Below w.heap.size w W → WholeF W A7 c7 l7 m7 b1 → Calls Tryz.prog 96 #[(Value.agg #[.slice A7 l7.length c7, .bool m7])] W fun e w' => e = .returned (.bool true) ∧ Below W.heap.size W w') (ho3 : ∀ (A7 : Option Addr) (c7 : Nat) (l7 : List Nat) (m7 : Bool) (W : World), Below w.heap.size w W → WholeF W A7 c7 l7 m7 b3 → Calls Tryz.prog 96 #[(Value.agg #[.slice A7 l7.length c7, .bool m7])] W fun e w' => e = .returned (.bool true) ∧ Below W.heap.size W w') (hn : OpW2 w 97 z1 z3 n) (hnum : n = q.num) (hden : b1 = (q.den : Int)) :
    Calls Tryz.prog 43 #[(Value.agg #[.slice A1 l1.length c1, .bool m1, .slice A2 l2.length c2, .bool m2]), (Value.agg #[.slice A3 l3.length c3, .bool m3, .slice A4 l4.length c4, .bool m4])] w fun e w' => QR w q e w' := by
  have H1 := hide f1
  have H3 := hide f3
  clear f1 f3
  have HD1 := hide hd1
  have HD3 := hide hd3
  have HO1 := hide ho1
  have HO3 := hide ho3
  have HN := hide hn
  clear hd1 hd3 ho1 ho3 hn
  go_enter Tryz.func43, Tryz.ntmps43
  go_upto_region 1 with fail
  obtain ⟨n0, n1, n2, hsz, hw0⟩ := three_new w (.cells #[.slice A1 l1.length c1, .bool m1, .slice A2 l2.length c2, .bool m2] 52) (.cells #[.slice A3 l3.length c3, .bool m3, .slice A4 l4.length c4, .bool m4] 52) (.cells #[.slice none 0 0, .bool false, .slice none 0 0, .bool false] 52)
  generalize (((w.alloc (.cells #[.slice A1 l1.length c1, .bool m1, .slice A2 l2.length c2, .bool m2] 52)).alloc (.cells #[.slice A3 l3.length c3, .bool m3, .slice A4 l4.length c4, .bool m4] 52)).alloc (.cells #[.slice none 0 0, .bool false, .slice none 0 0, .bool false] 52)) = W0 at *
  have k0_0 : W0.cell? ⟨w.heap.size, 0, none⟩ = some (.slice A1 l1.length c1) := cells_of n0 0
  have k0_1 : W0.cell? ⟨w.heap.size, 1, none⟩ = some (.bool m1) := cells_of n0 1
  have k0_2 : W0.cell? ⟨w.heap.size, 2, none⟩ = some (.slice A2 l2.length c2) := cells_of n0 2
  have k0_3 : W0.cell? ⟨w.heap.size, 3, none⟩ = some (.bool m2) := cells_of n0 3
  have q0 : w.heap.size < W0.heap.size := by omega
  have k1_0 : W0.cell? ⟨w.heap.size + 1, 0, none⟩ = some (.slice A3 l3.length c3) := cells_of n1 0
  have k1_1 : W0.cell? ⟨w.heap.size + 1, 1, none⟩ = some (.bool m3) := cells_of n1 1
  have k1_2 : W0.cell? ⟨w.heap.size + 1, 2, none⟩ = some (.slice A4 l4.length c4) := cells_of n1 2
  have k1_3 : W0.cell? ⟨w.heap.size + 1, 3, none⟩ = some (.bool m4) := cells_of n1 3
  have q1 : w.heap.size + 1 < W0.heap.size := by omega
  have k2_0 : W0.cell? ⟨w.heap.size + 1 + 1, 0, none⟩ = some (.slice none 0 0) := cells_of n2 0
  have k2_1 : W0.cell? ⟨w.heap.size + 1 + 1, 1, none⟩ = some (.bool false) := cells_of n2 1
  have k2_2 : W0.cell? ⟨w.heap.size + 1 + 1, 2, none⟩ = some (.slice none 0 0) := cells_of n2 2
  have k2_3 : W0.cell? ⟨w.heap.size + 1 + 1, 3, none⟩ = some (.bool false) := cells_of n2 3
  have q2 : w.heap.size + 1 + 1 < W0.heap.size := by omega
  have f2_0 := unfrozen_of n2 0
  have f2_1 := unfrozen_of n2 1
  have f2_2 := unfrozen_of n2 2
  have f2_3 := unfrozen_of n2 3
  have NR := Lib.hid n2
  clear hsz n0 n1 n2
  replace H1 := hide ((unhide H1).below hw0)
  replace H3 := hide ((unhide H3).below hw0)
  go_upto_region 1 with fail
  go_cut [5, 6] (fun s5_ s6_ wx => ∃ b5 b6 : Nat, s5_ = .pointer (some ⟨b5, 0, none⟩) ∧ s6_ = .pointer (some ⟨b6, 0, none⟩) ∧ BoxW wx b5 b1 ∧ BoxW wx b6 b3 ∧ Below W0.heap.size W0 wx ∧ W0.heap.size ≤ b5 ∧ W0.heap.size ≤ b6)
  case first =>
    have KEEP := hide (show ∀ X, Below W0.heap.size W0 X → X.cell? ⟨w.heap.size, 0, none⟩ = some (.slice A1 l1.length c1) ∧ X.cell? ⟨w.heap.size, 1, none⟩ = some (.bool m1) ∧ X.cell? ⟨w.heap.size, 2, none⟩ = some (.slice A2 l2.length c2) ∧ X.cell? ⟨w.heap.size, 3, none⟩ = some (.bool m2) ∧ X.cell? ⟨w.heap.size + 1, 0, none⟩ = some (.slice A3 l3.length c3) ∧ X.cell? ⟨w.heap.size + 1, 1, none⟩ = some (.bool m3) ∧ X.cell? ⟨w.heap.size + 1, 2, none⟩ = some (.slice A4 l4.length c4) ∧ X.cell? ⟨w.heap.size + 1, 3, none⟩ = some (.bool m4) from fun X hB => ⟨keep_cell hB q0 k0_0, keep_cell hB q0 k0_1, keep_cell hB q0 k0_2, keep_cell hB q0 k0_3, keep_cell hB q1 k1_0, keep_cell hB q1 k1_1, keep_cell hB q1 k1_2, keep_cell hB q1 k1_3⟩)
    go_region_held3 (fun w' => w'.cell? ⟨w.heap.size, 0, none⟩ = some (.slice A1 l1.length c1) ∧ w'.cell? ⟨w.heap.size, 1, none⟩ = some (.bool m1) ∧ w'.cell? ⟨w.heap.size, 2, none⟩ = some (.slice A2 l2.length c2) ∧ w'.cell? ⟨w.heap.size, 3, none⟩ = some (.bool m2) ∧ w'.cell? ⟨w.heap.size + 1, 0, none⟩ = some (.slice A3 l3.length c3) ∧ w'.cell? ⟨w.heap.size + 1, 1, none⟩ = some (.bool m3) ∧ w'.cell? ⟨w.heap.size + 1, 2, none⟩ = some (.slice A4 l4.length c4) ∧ w'.cell? ⟨w.heap.size + 1, 3, none⟩ = some (.bool m4)) (exact (unhide KEEP) _ (by (repeat (first | with_reducible exact Below.refl _ _ | with_reducible assumption | with_reducible refine Below.drew ?_ | with_reducible refine below_alloc ?_ _ | (with_reducible refine below_set ?_ ?_ _ _; rotate_left; (first | omega | (simp <;> omega))))))) (first | (go_at_call_of 95 (Value.agg #[.slice A1 l1.length c1, .bool m1, .slice A2 l2.length c2, .bool m2]); refine ((unhide HD1) _ (below_step' hw0 (by (repeat (first | with_reducible exact Below.refl _ _ | with_reducible assumption | with_reducible refine Below.drew ?_ | with_reducible refine below_alloc ?_ _))))).mono ?_; rintro e w' ⟨A5, c5, l5, m5, rfl, hf5, hb5⟩; have hbw := below_step (w := W0) (by (repeat (first | with_reducible exact Below.refl _ _ | with_reducible assumption | with_reducible refine Below.drew ?_ | with_reducible refine below_alloc ?_ _))) hb5; have hsw := hbw.size; obtain ⟨hc, hfz⟩ := bcell hbw; (try ((first | have u5a : FrW W0 w' _ := FrW.below (FrW.new (by (repeat (first | with_reducible exact Below.refl _ _ | with_reducible assumption | with_reducible refine Below.drew ?_ | with_reducible refine below_alloc ?_ _))) rfl) hb5 | have u5a : FrW W0 w' _ := FrW.below (FrW.drew (FrW.new (by (repeat (first | with_reducible exact Below.refl _ _ | with_reducible assumption | with_reducible refine Below.drew ?_ | with_reducible refine below_alloc ?_ _))) rfl)) hb5); (try simp only [World.size_alloc] at u5a); (try dsimp only [World.drew] at u5a); (try simp only [World.size_alloc] at u5a); obtain ⟨⟨u5a1, u5a2⟩, ⟨u5a3, u5a4⟩, ⟨u5a5, u5a6⟩, ⟨u5a7, u5a8⟩, u5a9, u5a10⟩ := FrW.facts u5a)); (try ((first | have u5b : FrW W0 w' _ := FrW.below (FrW.alloc (FrW.new (by (repeat (first | with_reducible exact Below.refl _ _ | with_reducible assumption | with_reducible refine Below.drew ?_ | with_reducible refine below_alloc ?_ _))) rfl)) hb5 | have u5b : FrW W0 w' _ := FrW.below (FrW.drew (FrW.alloc (FrW.new (by (repeat (first | with_reducible exact Below.refl _ _ | with_reducible assumption | with_reducible refine Below.drew ?_ | with_reducible refine below_alloc ?_ _))) rfl))) hb5); (try simp only [World.size_alloc] at u5b); (try dsimp only [World.drew] at u5b); (try simp only [World.size_alloc] at u5b); obtain ⟨⟨u5b1, u5b2⟩, ⟨u5b3, u5b4⟩, ⟨u5b5, u5b6⟩, ⟨u5b7, u5b8⟩, u5b9, u5b10⟩ := FrW.facts u5b))) | (go_at_call_of 95 (Value.agg #[.slice A3 l3.length c3, .bool m3, .slice A4 l4.length c4, .bool m4]); refine ((unhide HD3) _ (below_step' hw0 (by (repeat (first | with_reducible exact Below.refl _ _ | with_reducible assumption | with_reducible refine Below.drew ?_ | with_reducible refine below_alloc ?_ _))))).mono ?_; rintro e w' ⟨A6, c6, l6, m6, rfl, hf6, hb6⟩; have hf5 := WholeF.below (WholeF.below hf5 (by (repeat (first | with_reducible exact Below.refl _ _ | with_reducible assumption | with_reducible refine Below.drew ?_ | with_reducible refine below_alloc ?_ _)))) hb6; have hbw := below_step (w := W0) (by (repeat (first | with_reducible exact Below.refl _ _ | with_reducible assumption | with_reducible refine Below.drew ?_ | with_reducible refine below_alloc ?_ _))) hb6; have hsw := hbw.size; obtain ⟨hc, hfz⟩ := bcell hbw; (try ((first | have u6a : FrW W0 w' _ := FrW.below (FrW.new (by (repeat (first | with_reducible exact Below.refl _ _ | with_reducible assumption | with_reducible refine Below.drew ?_ | with_reducible refine below_alloc ?_ _))) rfl) hb6 | have u6a : FrW W0 w' _ := FrW.below (FrW.drew (FrW.new (by (repeat (first | with_reducible exact Below.refl _ _ | with_reducible assumption | with_reducible refine Below.drew ?_ | with_reducible refine below_alloc ?_ _))) rfl)) hb6); (try simp only [World.size_alloc] at u6a); (try dsimp only [World.drew] at u6a); (try simp only [World.size_alloc] at u6a); obtain ⟨⟨u6a1, u6a2⟩, ⟨u6a3, u6a4⟩, ⟨u6a5, u6a6⟩, ⟨u6a7, u6a8⟩, u6a9, u6a10⟩ := FrW.facts u6a)); (try ((first | have u6b : FrW W0 w' _ := FrW.below (FrW.alloc (FrW.new (by (repeat (first | with_reducible exact Below.refl _ _ | with_reducible assumption | with_reducible refine Below.drew ?_ | with_reducible refine below_alloc ?_ _))) rfl)) hb6 | have u6b : FrW W0 w' _ := FrW.below (FrW.drew (FrW.alloc (FrW.new (by (repeat (first | with_reducible exact Below.refl _ _ | with_reducible assumption | with_reducible refine Below.drew ?_ | with_reducible refine below_alloc ?_ _))) rfl))) hb6); (try simp only [World.size_alloc] at u6b); (try dsimp only [World.drew] at u6b); (try simp only [World.size_alloc] at u6b); obtain ⟨⟨u6b1, u6b2⟩, ⟨u6b3, u6b4⟩, ⟨u6b5, u6b6⟩, ⟨u6b7, u6b8⟩, u6b9, u6b10⟩ := FrW.facts u6b)); (try ((first | have u6c : FrW W0 w' _ := FrW.below u5a hb6 | have u6c : FrW W0 w' _ := FrW.below (FrW.alloc u5a) hb6 | have u6c : FrW W0 w' _ := FrW.below (FrW.alloc (FrW.alloc u5a)) hb6); (try simp only [World.size_alloc] at u6c); (try dsimp only [World.drew] at u6c); (try simp only [World.size_alloc] at u6c); obtain ⟨⟨u6c1, u6c2⟩, ⟨u6c3, u6c4⟩, ⟨u6c5, u6c6⟩, ⟨u6c7, u6c8⟩, u6c9, u6c10⟩ := FrW.facts u6c)); (try ((first | have u6d : FrW W0 w' _ := FrW.below u5b hb6 | have u6d : FrW W0 w' _ := FrW.below (FrW.alloc u5b) hb6 | have u6d : FrW W0 w' _ := FrW.below (FrW.alloc (FrW.alloc u5b)) hb6); (try simp only [World.size_alloc] at u6d); (try dsimp only [World.drew] at u6d); (try simp only [World.size_alloc] at u6d); obtain ⟨⟨u6d1, u6d2⟩, ⟨u6d3, u6d4⟩, ⟨u6d5, u6d6⟩, ⟨u6d7, u6d8⟩, u6d9, u6d10⟩ := FrW.facts u6d))))
    all_goals (go_wp2_with fail; go_meet; refine ⟨_, _, rfl, rfl, ?_⟩; first | with_reducible exact wput_two ⟨by assumption, by assumption, by first | assumption | omega⟩ hf5 hf6 hbw | with_reducible exact wput_two (FrW2.newR (by assumption) rfl) hf5.alloc hf6.alloc (below_alloc hbw _) | with_reducible exact wput_two (FrW2.newL (by assumption) rfl) hf5.alloc hf6.alloc (below_alloc hbw _) | with_reducible exact wput_nn hf5 hf6 hbw rfl rfl | with_reducible exact wput_mm hf5 hf6 hbw rfl rfl | with_reducible exact wput_ns (by assumption) hf5 hf6 hbw rfl)
  case rest =>
    revert hcut
    generalize wc = W1
    intro hcut
    obtain ⟨b5, b6, rfl, rfl, B5, B6, hbx, ob5, ob6⟩ := hcut
    obtain ⟨hc, hfz⟩ := bcell hbx
    replace k0_0 := (hc _ _ q0).trans k0_0
    replace k0_1 := (hc _ _ q0).trans k0_1
    replace k0_2 := (hc _ _ q0).trans k0_2
    replace k0_3 := (hc _ _ q0).trans k0_3
    replace q0 := Nat.lt_of_lt_of_le q0 hbx.size
    replace k1_0 := (hc _ _ q1).trans k1_0
    replace k1_1 := (hc _ _ q1).trans k1_1
    replace k1_2 := (hc _ _ q1).trans k1_2
    replace k1_3 := (hc _ _ q1).trans k1_3
    replace q1 := Nat.lt_of_lt_of_le q1 hbx.size
    replace ob5 : w.heap.size + 1 + 1 < b5 := Nat.lt_of_lt_of_le q2 ob5
    replace ob6 : w.heap.size + 1 + 1 < b6 := Nat.lt_of_lt_of_le q2 ob6
    replace k2_0 := (hc _ _ q2).trans k2_0
    replace f2_0 := (hfz _ _ q2).trans f2_0
    replace k2_1 := (hc _ _ q2).trans k2_1
    replace f2_1 := (hfz _ _ q2).trans f2_1
    replace k2_2 := (hc _ _ q2).trans k2_2
    replace f2_2 := (hfz _ _ q2).trans f2_2
    replace k2_3 := (hc _ _ q2).trans k2_3
    replace f2_3 := (hfz _ _ q2).trans f2_3
    replace NR := Lib.hid ((hbx.block _ q2).trans NR.out)
    replace q2 := Nat.lt_of_lt_of_le q2 hbx.size
    replace hw0 := below_step' hw0 hbx
    replace H1 := hide ((unhide H1).below hbx)
    replace H3 := hide ((unhide H3).below hbx)
    obtain ⟨A5, c5, l5, m5, n5, H5⟩ := B5
    have kb5_0 : W1.cell? ⟨b5, 0, none⟩ = some (.slice A5 l5.length c5) := cells_of n5 0
    have kb5_1 : W1.cell? ⟨b5, 1, none⟩ = some (.bool m5) := cells_of n5 1
    have qb5 := lt_of_block n5
    replace H5 := hide H5
    clear n5
    obtain ⟨A6, c6, l6, m6, n6, H6⟩ := B6
    have kb6_0 : W1.cell? ⟨b6, 0, none⟩ = some (.slice A6 l6.length c6) := cells_of n6 0
    have kb6_1 : W1.cell? ⟨b6, 1, none⟩ = some (.bool m6) := cells_of n6 1
    have qb6 := lt_of_block n6
    replace H6 := hide H6
    clear n6
    clear hbx hc hfz
    go_wp2_with fail
    refine ((unhide HO1) A5 c5 l5 m5 _ hw0 (unhide H5)).mono ?_
    rintro e W2 ⟨rfl, hbx⟩
    obtain ⟨hc, hfz⟩ := bcell hbx
    replace k0_0 := (hc _ _ q0).trans k0_0
    replace k0_1 := (hc _ _ q0).trans k0_1
    replace k0_2 := (hc _ _ q0).trans k0_2
    replace k0_3 := (hc _ _ q0).trans k0_3
    replace q0 := Nat.lt_of_lt_of_le q0 hbx.size
    replace k1_0 := (hc _ _ q1).trans k1_0
    replace k1_1 := (hc _ _ q1).trans k1_1
    replace k1_2 := (hc _ _ q1).trans k1_2
    replace k1_3 := (hc _ _ q1).trans k1_3
    replace q1 := Nat.lt_of_lt_of_le q1 hbx.size
    replace kb5_0 := (hc _ _ qb5).trans kb5_0
    replace kb5_1 := (hc _ _ qb5).trans kb5_1
    replace qb5 := Nat.lt_of_lt_of_le qb5 hbx.size
    replace kb6_0 := (hc _ _ qb6).trans kb6_0
    replace kb6_1 := (hc _ _ qb6).trans kb6_1
    replace qb6 := Nat.lt_of_lt_of_le qb6 hbx.size
    replace k2_0 := (hc _ _ q2).trans k2_0
    replace f2_0 := (hfz _ _ q2).trans f2_0
    replace k2_1 := (hc _ _ q2).trans k2_1
    replace f2_1 := (hfz _ _ q2).trans f2_1
    replace k2_2 := (hc _ _ q2).trans k2_2
    replace f2_2 := (hfz _ _ q2).trans f2_2
    replace k2_3 := (hc _ _ q2).trans k2_3
    replace f2_3 := (hfz _ _ q2).trans f2_3
    replace NR := Lib.hid ((hbx.block _ q2).trans NR.out)
    replace q2 := Nat.lt_of_lt_of_le q2 hbx.size
    replace hw0 := below_step' hw0 hbx
    replace H1 := hide ((unhide H1).below hbx)
    replace H3 := hide ((unhide H3).below hbx)
    replace H5 := hide ((unhide H5).below hbx)
    replace H6 := hide ((unhide H6).below hbx)
    clear hbx hc hfz
    go_wp2_with fail
    refine ((unhide HO3) A6 c6 l6 m6 _ hw0 (unhide H6)).mono ?_
    rintro e W3 ⟨rfl, hbx⟩
    obtain ⟨hc, hfz⟩ := bcell hbx
    replace k0_0 := (hc _ _ q0).trans k0_0
    replace k0_1 := (hc _ _ q0).trans k0_1
    replace k0_2 := (hc _ _ q0).trans k0_2
    replace k0_3 := (hc _ _ q0).trans k0_3
    replace q0 := Nat.lt_of_lt_of_le q0 hbx.size
    replace k1_0 := (hc _ _ q1).trans k1_0
    replace k1_1 := (hc _ _ q1).trans k1_1
    replace k1_2 := (hc _ _ q1).trans k1_2
    replace k1_3 := (hc _ _ q1).trans k1_3
    replace q1 := Nat.lt_of_lt_of_le q1 hbx.size
    replace kb5_0 := (hc _ _ qb5).trans kb5_0
    replace kb5_1 := (hc _ _ qb5).trans kb5_1
    replace qb5 := Nat.lt_of_lt_of_le qb5 hbx.size
    replace kb6_0 := (hc _ _ qb6).trans kb6_0
    replace kb6_1 := (hc _ _ qb6).trans kb6_1
    replace qb6 := Nat.lt_of_lt_of_le qb6 hbx.size
    replace k2_0 := (hc _ _ q2).trans k2_0
    replace f2_0 := (hfz _ _ q2).trans f2_0
    replace k2_1 := (hc _ _ q2).trans k2_1
    replace f2_1 := (hfz _ _ q2).trans f2_1
    replace k2_2 := (hc _ _ q2).trans k2_2
    replace f2_2 := (hfz _ _ q2).trans f2_2
    replace k2_3 := (hc _ _ q2).trans k2_3
    replace f2_3 := (hfz _ _ q2).trans f2_3
    replace NR := Lib.hid ((hbx.block _ q2).trans NR.out)
    replace q2 := Nat.lt_of_lt_of_le q2 hbx.size
    replace hw0 := below_step' hw0 hbx
    replace H1 := hide ((unhide H1).below hbx)
    replace H3 := hide ((unhide H3).below hbx)
    replace H5 := hide ((unhide H5).below hbx)
    replace H6 := hide ((unhide H6).below hbx)
    clear hbx hc hfz
    go_upto_region 3 with fail
    have KEEP := hide (show ∀ X, Below W3.heap.size W3 X → X.cell? ⟨w.heap.size, 0, none⟩ = some (.slice A1 l1.length c1) ∧ X.cell? ⟨w.heap.size, 1, none⟩ = some (.bool m1) ∧ X.cell? ⟨w.heap.size, 2, none⟩ = some (.slice A2 l2.length c2) ∧ X.cell? ⟨w.heap.size, 3, none⟩ = some (.bool m2) ∧ X.cell? ⟨w.heap.size + 1, 0, none⟩ = some (.slice A3 l3.length c3) ∧ X.cell? ⟨w.heap.size + 1, 1, none⟩ = some (.bool m3) ∧ X.cell? ⟨w.heap.size + 1, 2, none⟩ = some (.slice A4 l4.length c4) ∧ X.cell? ⟨w.heap.size + 1, 3, none⟩ = some (.bool m4) ∧ X.cell? ⟨b5, 0, none⟩ = some (.slice A5 l5.length c5) ∧ X.cell? ⟨b5, 1, none⟩ = some (.bool m5) ∧ X.cell? ⟨b6, 0, none⟩ = some (.slice A6 l6.length c6) ∧ X.cell? ⟨b6, 1, none⟩ = some (.bool m6) from fun X hB => ⟨keep_cell hB q0 k0_0, keep_cell hB q0 k0_1, keep_cell hB q0 k0_2, keep_cell hB q0 k0_3, keep_cell hB q1 k1_0, keep_cell hB q1 k1_1, keep_cell hB q1 k1_2, keep_cell hB q1 k1_3, keep_cell hB qb5 kb5_0, keep_cell hB qb5 kb5_1, keep_cell hB qb6 kb6_0, keep_cell hB qb6 kb6_1⟩)
    go_region_held3 (fun w' => w'.cell? ⟨w.heap.size, 0, none⟩ = some (.slice A1 l1.length c1) ∧ w'.cell? ⟨w.heap.size, 1, none⟩ = some (.bool m1) ∧ w'.cell? ⟨w.heap.size, 2, none⟩ = some (.slice A2 l2.length c2) ∧ w'.cell? ⟨w.heap.size, 3, none⟩ = some (.bool m2) ∧ w'.cell? ⟨w.heap.size + 1, 0, none⟩ = some (.slice A3 l3.length c3) ∧ w'.cell? ⟨w.heap.size + 1, 1, none⟩ = some (.bool m3) ∧ w'.cell? ⟨w.heap.size + 1, 2, none⟩ = some (.slice A4 l4.length c4) ∧ w'.cell? ⟨w.heap.size + 1, 3, none⟩ = some (.bool m4) ∧ w'.cell? ⟨b5, 0, none⟩ = some (.slice A5 l5.length c5) ∧ w'.cell? ⟨b5, 1, none⟩ = some (.bool m5) ∧ w'.cell? ⟨b6, 0, none⟩ = some (.slice A6 l6.length c6) ∧ w'.cell? ⟨b6, 1, none⟩ = some (.bool m6)) (first | with_reducible exact ⟨(cell_set4 _ _ _ _ _ _ (by omega)).trans (keep_cell hbw q0 k0_0), (cell_set4 _ _ _ _ _ _ (by omega)).trans (keep_cell hbw q0 k0_1), (cell_set4 _ _ _ _ _ _ (by omega)).trans (keep_cell hbw q0 k0_2), (cell_set4 _ _ _ _ _ _ (by omega)).trans (keep_cell hbw q0 k0_3), (cell_set4 _ _ _ _ _ _ (by omega)).trans (keep_cell hbw q1 k1_0), (cell_set4 _ _ _ _ _ _ (by omega)).trans (keep_cell hbw q1 k1_1), (cell_set4 _ _ _ _ _ _ (by omega)).trans (keep_cell hbw q1 k1_2), (cell_set4 _ _ _ _ _ _ (by omega)).trans (keep_cell hbw q1 k1_3), (cell_set4 _ _ _ _ _ _ (by omega)).trans (keep_cell hbw qb5 kb5_0), (cell_set4 _ _ _ _ _ _ (by omega)).trans (keep_cell hbw qb5 kb5_1), (cell_set4 _ _ _ _ _ _ (by omega)).trans (keep_cell hbw qb6 kb6_0), (cell_set4 _ _ _ _ _ _ (by omega)).trans (keep_cell hbw qb6 kb6_1)⟩ | with_reducible exact (unhide KEEP) _ (by (repeat (first | with_reducible exact Below.refl _ _ | with_reducible assumption | with_reducible refine Below.drew ?_ | with_reducible refine below_alloc ?_ _)))) (first | (go_at_call_of 97 (Value.agg #[.slice A1 l1.length c1, .bool m1]); refine ((unhide HN) A1 c1 l1 m1 A3 c3 l3 m3 _ (below_step' hw0 (by (repeat (first | with_reducible exact Below.refl _ _ | with_reducible assumption | with_reducible refine Below.drew ?_ | with_reducible refine below_alloc ?_ _)))) (WholeF.below (unhide H1) (by (repeat (first | with_reducible exact Below.refl _ _ | with_reducible assumption | with_reducible refine Below.drew ?_ | with_reducible refine below_alloc ?_ _)))) (WholeF.below (unhide H3) (by (repeat (first | with_reducible exact Below.refl _ _ | with_reducible assumption | with_reducible refine Below.drew ?_ | with_reducible refine below_alloc ?_ _))))).mono ?_; rintro e w' ⟨A10, c10, l10, m10, rfl, hf10, hb10⟩; have hbw := below_step (w := W3) (by (repeat (first | with_reducible exact Below.refl _ _ | with_reducible assumption | with_reducible refine Below.drew ?_ | with_reducible refine below_alloc ?_ _))) hb10; have hsw := hbw.size; obtain ⟨hc, hfz⟩ := bcell hbw))
    all_goals
      have hblk : w'.heap[w.heap.size + 1 + 1]? = some (.cells #[.slice none 0 0, .bool false, .slice none 0 0, .bool false] 52 (0, 0)) := (hbw.block _ q2).trans NR.out
      have HBLK := Lib.hid hblk
      have hb9 : Below w.heap.size w w' := below_step' hw0 hbw
      have hfi := (hf10)
      have hfj := ((unhide H5).below hbw)
      clear hblk
      go_wp2_with fail
      exact bodyPost_ret (v := (Value.agg #[.slice A10 l10.length c10, .bool m10, .slice A5 l5.length c5, .bool m5])) (by simp [results, Tryz.results43, go_sem, hc, k2_0, k2_1, k2_2, k2_3, q2]) rfl
        ⟨A10, c10, l10, m10, A5, c5, l5, m5, rfl, hnum ▸ hfi.upto HBLK.out (noW2_4 _ _ _ _ _ _ _ _) (set4_grown _ _ _ _ _ _), hden ▸ hfj.upto HBLK.out (noW2_4 _ _ _ _ _ _ _ _) (set4_grown _ _ _ _ _ _), hb9.grown (set4_grown _ _ _ _ _ _) hb9.size (fun k hk => by injection hk with hk; omega)⟩

end Go.Proofs.YtpjgoogeokbaaaaGreatDoor
/- The walk through the sum of two numbers of the reference: the first is no integer. -/
namespace Go.Proofs.YtpjgoogeokbaaaaGreatDoor
open Go.RowKit

set_option maxRecDepth 100000 in
set_option maxHeartbeats 16000000 in
theorem qadd_f (A1 : Option Addr) (c1 : Nat) (l1 : List Nat) (m1 : Bool) (A2 : Option Addr) (c2 : Nat) (l2 : List Nat) (m2 : Bool) (A3 : Option Addr) (c3 : Nat) (l3 : List Nat) (m3 : Bool) (A4 : Option Addr) (c4 : Nat) (l4 : List Nat) (m4 : Bool) (z1 b1 z3 b3 x1 x3 n d : Int) (q : Rat) (w : World) (f1 : WholeF w A1 c1 l1 m1 z1) (f3 : WholeF w A3 c3 l3 m3 z3)
    (hd1 : ∀ W, Below w.heap.size w W → Calls Tryz.prog 95 #[(Value.agg #[.slice A1 l1.length c1, .bool m1, .slice A2 l2.length c2, .bool m2])] W fun e w' => WholeR W b1 e w') (hd3 : ∀ W, Below w.heap.size w W → Calls Tryz.prog 95 #[(Value.agg #[.slice A3 l3.length c3, .bool m3, .slice A4 l4.length c4, .bool m4])] W fun e w' => WholeR W b3 e w')
    (ho1 : ∀ (A7 : Option Addr) (c7 : Nat) (l7 : List Nat) (m7 : Bool) (W : World), Below w.heap.size w W → WholeF W A7 c7 l7 m7 b1 → Calls Tryz.prog 96 #[(Value.agg #[.slice A7 l7.length c7, .bool m7])] W fun e w' => e = .returned (.bool false) ∧ Below W.heap.size W w')  (hm1 : OpW2 w 98 z1 b3 x1) (hm3 : OpW2 w 98 z3 b1 x3) (hn : OpW2 w 97 x1 x3 n) (hm : OpW2 w 98 b1 b3 d) (hr : OpRQ w 92 n d q) :
    Calls Tryz.prog 43 #[(Value.agg #[.slice A1 l1.length c1, .bool m1, .slice A2 l2.length c2, .bool m2]), (Value.agg #[.slice A3 l3.length c3, .bool m3, .slice A4 l4.length c4, .bool m4])] w fun e w' => QR w q e w' := by
  have H1 := hide f1
  have H3 := hide f3
  clear f1 f3
  have HD1 := hide hd1
  have HD3 := hide hd3
  have HO1 := hide ho1
  have HM1 := hide hm1
  have HM3 := hide hm3
  have HN := hide hn
  have HM := hide hm
  have HR := hide hr
  clear hd1 hd3 ho1 hm1 hm3 hn hm hr
  go_enter Tryz.func43, Tryz.ntmps43
  go_upto_region 1 with fail
  obtain ⟨n0, n1, n2, hsz, hw0⟩ := three_new w (.cells #[.slice A1 l1.length c1, .bool m1, .slice A2 l2.length c2, .bool m2] 52) (.cells #[.slice A3 l3.length c3, .bool m3, .slice A4 l4.length c4, .bool m4] 52) (.cells #[.slice none 0 0, .bool false, .slice none 0 0, .bool false] 52)
  generalize (((w.alloc (.cells #[.slice A1 l1.length c1, .bool m1, .slice A2 l2.length c2, .bool m2] 52)).alloc (.cells #[.slice A3 l3.length c3, .bool m3, .slice A4 l4.length c4, .bool m4] 52)).alloc (.cells #[.slice none 0 0, .bool false, .slice none 0 0, .bool false] 52)) = W0 at *
  have k0_0 : W0.cell? ⟨w.heap.size, 0, none⟩ = some (.slice A1 l1.length c1) := cells_of n0 0
  have k0_1 : W0.cell? ⟨w.heap.size, 1, none⟩ = some (.bool m1) := cells_of n0 1
  have k0_2 : W0.cell? ⟨w.heap.size, 2, none⟩ = some (.slice A2 l2.length c2) := cells_of n0 2
  have k0_3 : W0.cell? ⟨w.heap.size, 3, none⟩ = some (.bool m2) := cells_of n0 3
  have q0 : w.heap.size < W0.heap.size := by omega
  have k1_0 : W0.cell? ⟨w.heap.size + 1, 0, none⟩ = some (.slice A3 l3.length c3) := cells_of n1 0
  have k1_1 : W0.cell? ⟨w.heap.size + 1, 1, none⟩ = some (.bool m3) := cells_of n1 1
  have k1_2 : W0.cell? ⟨w.heap.size + 1, 2, none⟩ = some (.slice A4 l4.length c4) := cells_of n1 2
  have k1_3 : W0.cell? ⟨w.heap.size + 1, 3, none⟩ = some (.bool m4) := cells_of n1 3
  have q1 : w.heap.size + 1 < W0.heap.size := by omega
  have k2_0 : W0.cell? ⟨w.heap.size + 1 + 1, 0, none⟩ = some (.slice none 0 0) := cells_of n2 0
  have k2_1 : W0.cell? ⟨w.heap.size + 1 + 1, 1, none⟩ = some (.bool false) := cells_of n2 1
  have k2_2 : W0.cell? ⟨w.heap.size + 1 + 1, 2, none⟩ = some (.slice none 0 0) := cells_of n2 2
  have k2_3 : W0.cell? ⟨w.heap.size + 1 + 1, 3, none⟩ = some (.bool false) := cells_of n2 3
  have q2 : w.heap.size + 1 + 1 < W0.heap.size := by omega
  have f2_0 := unfrozen_of n2 0
  have f2_1 := unfrozen_of n2 1
  have f2_2 := unfrozen_of n2 2
  have f2_3 := unfrozen_of n2 3
  have NR := Lib.hid n2
  clear hsz n0 n1 n2
  replace H1 := hide ((unhide H1).below hw0)
  replace H3 := hide ((unhide H3).below hw0)
  go_upto_region 1 with fail
  go_cut [5, 6] (fun s5_ s6_ wx => ∃ b5 b6 : Nat, s5_ = .pointer (some ⟨b5, 0, none⟩) ∧ s6_ = .pointer (some ⟨b6, 0, none⟩) ∧ BoxW wx b5 b1 ∧ BoxW wx b6 b3 ∧ Below W0.heap.size W0 wx ∧ W0.heap.size ≤ b5 ∧ W0.heap.size ≤ b6)
  case first =>
    have KEEP := hide (show ∀ X, Below W0.heap.size W0 X → X.cell? ⟨w.heap.size, 0, none⟩ = some (.slice A1 l1.length c1) ∧ X.cell? ⟨w.heap.size, 1, none⟩ = some (.bool m1) ∧ X.cell? ⟨w.heap.size, 2, none⟩ = some (.slice A2 l2.length c2) ∧ X.cell? ⟨w.heap.size, 3, none⟩ = some (.bool m2) ∧ X.cell? ⟨w.heap.size + 1, 0, none⟩ = some (.slice A3 l3.length c3) ∧ X.cell? ⟨w.heap.size + 1, 1, none⟩ = some (.bool m3) ∧ X.cell? ⟨w.heap.size + 1, 2, none⟩ = some (.slice A4 l4.length c4) ∧ X.cell? ⟨w.heap.size + 1, 3, none⟩ = some (.bool m4) from fun X hB => ⟨keep_cell hB q0 k0_0, keep_cell hB q0 k0_1, keep_cell hB q0 k0_2, keep_cell hB q0 k0_3, keep_cell hB q1 k1_0, keep_cell hB q1 k1_1, keep_cell hB q1 k1_2, keep_cell hB q1 k1_3⟩)
    go_region_held3 (fun w' => w'.cell? ⟨w.heap.size, 0, none⟩ = some (.slice A1 l1.length c1) ∧ w'.cell? ⟨w.heap.size, 1, none⟩ = some (.bool m1) ∧ w'.cell? ⟨w.heap.size, 2, none⟩ = some (.slice A2 l2.length c2) ∧ w'.cell? ⟨w.heap.size, 3, none⟩ = some (.bool m2) ∧ w'.cell? ⟨w.heap.size + 1, 0, none⟩ = some (.slice A3 l3.length c3) ∧ w'.cell? ⟨w.heap.size + 1, 1, none⟩ = some (.bool m3) ∧ w'.cell? ⟨w.heap.size + 1, 2, none⟩ = some (.slice A4 l4.length c4) ∧ w'.cell? ⟨w.heap.size + 1, 3, none⟩ = some (.bool m4)) (exact (unhide KEEP) _ (by (repeat (first | with_reducible exact Below.refl _ _ | with_reducible assumption | with_reducible refine Below.drew ?_ | with_reducible refine below_alloc ?_ _ | (with_reducible refine below_set ?_ ?_ _ _; rotate_left; (first | omega | (simp <;> omega))))))) (first | (go_at_call_of 95 (Value.agg #[.slice A1 l1.length c1, .bool m1, .slice A2 l2.length c2, .bool m2]); refine ((unhide HD1) _ (below_step' hw0 (by (repeat (first | with_reducible exact Below.refl _ _ | with_reducible assumption | with_reducible refine Below.drew ?_ | with_reducible refine below_alloc ?_ _))))).mono ?_; rintro e w' ⟨A5, c5, l5, m5, rfl, hf5, hb5⟩; have hbw := below_step (w := W0) (by (repeat (first | with_reducible exact Below.refl _ _ | with_reducible assumption | with_reducible refine Below.drew ?_ | with_reducible refine below_alloc ?_ _))) hb5; have hsw := hbw.size; obtain ⟨hc, hfz⟩ := bcell hbw; (try ((first | have u5a : FrW W0 w' _ := FrW.below (FrW.new (by (repeat (first | with_reducible exact Below.refl _ _ | with_reducible assumption | with_reducible refine Below.drew ?_ | with_reducible refine below_alloc ?_ _))) rfl) hb5 | have u5a : FrW W0 w' _ := FrW.below (FrW.drew (FrW.new (by (repeat (first | with_reducible exact Below.refl _ _ | with_reducible assumption | with_reducible refine Below.drew ?_ | with_reducible refine below_alloc ?_ _))) rfl)) hb5); (try simp only [World.size_alloc] at u5a); (try dsimp only [World.drew] at u5a); (try simp only [World.size_alloc] at u5a); obtain ⟨⟨u5a1, u5a2⟩, ⟨u5a3, u5a4⟩, ⟨u5a5, u5a6⟩, ⟨u5a7, u5a8⟩, u5a9, u5a10⟩ := FrW.facts u5a)); (try ((first | have u5b : FrW W0 w' _ := FrW.below (FrW.alloc (FrW.new (by (repeat (first | with_reducible exact Below.refl _ _ | with_reducible assumption | with_reducible refine Below.drew ?_ | with_reducible refine below_alloc ?_ _))) rfl)) hb5 | have u5b : FrW W0 w' _ := FrW.below (FrW.drew (FrW.alloc (FrW.new (by (repeat (first | with_reducible exact Below.refl _ _ | with_reducible assumption | with_reducible refine Below.drew ?_ | with_reducible refine below_alloc ?_ _))) rfl))) hb5); (try simp only [World.size_alloc] at u5b); (try dsimp only [World.drew] at u5b); (try simp only [World.size_alloc] at u5b); obtain ⟨⟨u5b1, u5b2⟩, ⟨u5b3, u5b4⟩, ⟨u5b5, u5b6⟩, ⟨u5b7, u5b8⟩, u5b9, u5b10⟩ := FrW.facts u5b))) | (go_at_call_of 95 (Value.agg #[.slice A3 l3.length c3, .bool m3, .slice A4 l4.length c4, .bool m4]); refine ((unhide HD3) _ (below_step' hw0 (by (repeat (first | with_reducible exact Below.refl _ _ | with_reducible assumption | with_reducible refine Below.drew ?_ | with_reducible refine below_alloc ?_ _))))).mono ?_; rintro e w' ⟨A6, c6, l6, m6, rfl, hf6, hb6⟩; have hf5 := WholeF.below (WholeF.below hf5 (by (repeat (first | with_reducible exact Below.refl _ _ | with_reducible assumption | with_reducible refine Below.drew ?_ | with_reducible refine below_alloc ?_ _)))) hb6; have hbw := below_step (w := W0) (by (repeat (first | with_reducible exact Below.refl _ _ | with_reducible assumption | with_reducible refine Below.drew ?_ | with_reducible refine below_alloc ?_ _))) hb6; have hsw := hbw.size; obtain ⟨hc, hfz⟩ := bcell hbw; (try ((first | have u6a : FrW W0 w' _ := FrW.below (FrW.new (by (repeat (first | with_reducible exact Below.refl _ _ | with_reducible assumption | with_reducible refine Below.drew ?_ | with_reducible refine below_alloc ?_ _))) rfl) hb6 | have u6a : FrW W0 w' _ := FrW.below (FrW.drew (FrW.new (by (repeat (first | with_reducible exact Below.refl _ _ | with_reducible assumption | with_reducible refine Below.drew ?_ | with_reducible refine below_alloc ?_ _))) rfl)) hb6); (try simp only [World.size_alloc] at u6a); (try dsimp only [World.drew] at u6a); (try simp only [World.size_alloc] at u6a); obtain ⟨⟨u6a1, u6a2⟩, ⟨u6a3, u6a4⟩, ⟨u6a5, u6a6⟩, ⟨u6a7, u6a8⟩, u6a9, u6a10⟩ := FrW.facts u6a)); (try ((first | have u6b : FrW W0 w' _ := FrW.below (FrW.alloc (FrW.new (by (repeat (first | with_reducible exact Below.refl _ _ | with_reducible assumption | with_reducible refine Below.drew ?_ | with_reducible refine below_alloc ?_ _))) rfl)) hb6 | have u6b : FrW W0 w' _ := FrW.below (FrW.drew (FrW.alloc (FrW.new (by (repeat (first | with_reducible exact Below.refl _ _ | with_reducible assumption | with_reducible refine Below.drew ?_ | with_reducible refine below_alloc ?_ _))) rfl))) hb6); (try simp only [World.size_alloc] at u6b); (try dsimp only [World.drew] at u6b); (try simp only [World.size_alloc] at u6b); obtain ⟨⟨u6b1, u6b2⟩, ⟨u6b3, u6b4⟩, ⟨u6b5, u6b6⟩, ⟨u6b7, u6b8⟩, u6b9, u6b10⟩ := FrW.facts u6b)); (try ((first | have u6c : FrW W0 w' _ := FrW.below u5a hb6 | have u6c : FrW W0 w' _ := FrW.below (FrW.alloc u5a) hb6 | have u6c : FrW W0 w' _ := FrW.below (FrW.alloc (FrW.alloc u5a)) hb6); (try simp only [World.size_alloc] at u6c); (try dsimp only [World.drew] at u6c); (try simp only [World.size_alloc] at u6c); obtain ⟨⟨u6c1, u6c2⟩, ⟨u6c3, u6c4⟩, ⟨u6c5, u6c6⟩, ⟨u6c7, u6c8⟩, u6c9, u6c10⟩ := FrW.facts u6c)); (try ((first | have u6d : FrW W0 w' _ := FrW.below u5b hb6 | have u6d : FrW W0 w' _ := FrW.below (FrW.alloc u5b) hb6 | have u6d : FrW W0 w' _ := FrW.below (FrW.alloc (FrW.alloc u5b)) hb6); (try simp only [World.size_alloc] at u6d); (try dsimp only [World.drew] at u6d); (try simp only [World.size_alloc] at u6d); obtain ⟨⟨u6d1, u6d2⟩, ⟨u6d3, u6d4⟩, ⟨u6d5, u6d6⟩, ⟨u6d7, u6d8⟩, u6d9, u6d10⟩ := FrW.facts u6d))))
    all_goals (go_wp2_with fail; go_meet; refine ⟨_, _, rfl, rfl, ?_⟩; first | with_reducible exact wput_two ⟨by assumption, by assumption, by first | assumption | omega⟩ hf5 hf6 hbw | with_reducible exact wput_two (FrW2.newR (by assumption) rfl) hf5.alloc hf6.alloc (below_alloc hbw _) | with_reducible exact wput_two (FrW2.newL (by assumption) rfl) hf5.alloc hf6.alloc (below_alloc hbw _) | with_reducible exact wput_nn hf5 hf6 hbw rfl rfl | with_reducible exact wput_mm hf5 hf6 hbw rfl rfl | with_reducible exact wput_ns (by assumption) hf5 hf6 hbw rfl)
  case rest =>
    revert hcut
    generalize wc = W1
    intro hcut
    obtain ⟨b5, b6, rfl, rfl, B5, B6, hbx, ob5, ob6⟩ := hcut
    obtain ⟨hc, hfz⟩ := bcell hbx
    replace k0_0 := (hc _ _ q0).trans k0_0
    replace k0_1 := (hc _ _ q0).trans k0_1
    replace k0_2 := (hc _ _ q0).trans k0_2
    replace k0_3 := (hc _ _ q0).trans k0_3
    replace q0 := Nat.lt_of_lt_of_le q0 hbx.size
    replace k1_0 := (hc _ _ q1).trans k1_0
    replace k1_1 := (hc _ _ q1).trans k1_1
    replace k1_2 := (hc _ _ q1).trans k1_2
    replace k1_3 := (hc _ _ q1).trans k1_3
    replace q1 := Nat.lt_of_lt_of_le q1 hbx.size
    replace ob5 : w.heap.size + 1 + 1 < b5 := Nat.lt_of_lt_of_le q2 ob5
    replace ob6 : w.heap.size + 1 + 1 < b6 := Nat.lt_of_lt_of_le q2 ob6
    replace k2_0 := (hc _ _ q2).trans k2_0
    replace f2_0 := (hfz _ _ q2).trans f2_0
    replace k2_1 := (hc _ _ q2).trans k2_1
    replace f2_1 := (hfz _ _ q2).trans f2_1
    replace k2_2 := (hc _ _ q2).trans k2_2
    replace f2_2 := (hfz _ _ q2).trans f2_2
    replace k2_3 := (hc _ _ q2).trans k2_3
    replace f2_3 := (hfz _ _ q2).trans f2_3
    replace NR := Lib.hid ((hbx.block _ q2).trans NR.out)
    replace q2 := Nat.lt_of_lt_of_le q2 hbx.size
    replace hw0 := below_step' hw0 hbx
    replace H1 := hide ((unhide H1).below hbx)
    replace H3 := hide ((unhide H3).below hbx)
    obtain ⟨A5, c5, l5, m5, n5, H5⟩ := B5
    have kb5_0 : W1.cell? ⟨b5, 0, none⟩ = some (.slice A5 l5.length c5) := cells_of n5 0
    have kb5_1 : W1.cell? ⟨b5, 1, none⟩ = some (.bool m5) := cells_of n5 1
    have qb5 := lt_of_block n5
    replace H5 := hide H5
    clear n5
    obtain ⟨A6, c6, l6, m6, n6, H6⟩ := B6
    have kb6_0 : W1.cell? ⟨b6, 0, none⟩ = some (.slice A6 l6.length c6) := cells_of n6 0
    have kb6_1 : W1.cell? ⟨b6, 1, none⟩ = some (.bool m6) := cells_of n6 1
    have qb6 := lt_of_block n6
    replace H6 := hide H6
    clear n6
    clear hbx hc hfz
    go_wp2_with fail
    refine ((unhide HO1) A5 c5 l5 m5 _ hw0 (unhide H5)).mono ?_
    rintro e W2 ⟨rfl, hbx⟩
    obtain ⟨hc, hfz⟩ := bcell hbx
    replace k0_0 := (hc _ _ q0).trans k0_0
    replace k0_1 := (hc _ _ q0).trans k0_1
    replace k0_2 := (hc _ _ q0).trans k0_2
    replace k0_3 := (hc _ _ q0).trans k0_3
    replace q0 := Nat.lt_of_lt_of_le q0 hbx.size
    replace k1_0 := (hc _ _ q1).trans k1_0
    replace k1_1 := (hc _ _ q1).trans k1_1
    replace k1_2 := (hc _ _ q1).trans k1_2
    replace k1_3 := (hc _ _ q1).trans k1_3
    replace q1 := Nat.lt_of_lt_of_le q1 hbx.size
    replace kb5_0 := (hc _ _ qb5).trans kb5_0
    replace kb5_1 := (hc _ _ qb5).trans kb5_1
    replace qb5 := Nat.lt_of_lt_of_le qb5 hbx.size
    replace kb6_0 := (hc _ _ qb6).trans kb6_0
    replace kb6_1 := (hc _ _ qb6).trans kb6_1
    replace qb6 := Nat.lt_of_lt_of_le qb6 hbx.size
    replace k2_0 := (hc _ _ q2).trans k2_0
    replace f2_0 := (hfz _ _ q2).trans f2_0
    replace k2_1 := (hc _ _ q2).trans k2_1
    replace f2_1 := (hfz _ _ q2).trans f2_1
    replace k2_2 := (hc _ _ q2).trans k2_2
    replace f2_2 := (hfz _ _ q2).trans f2_2
    replace k2_3 := (hc _ _ q2).trans k2_3
    replace f2_3 := (hfz _ _ q2).trans f2_3
    replace NR := Lib.hid ((hbx.block _ q2).trans NR.out)
    replace q2 := Nat.lt_of_lt_of_le q2 hbx.size
    replace hw0 := below_step' hw0 hbx
    replace H1 := hide ((unhide H1).below hbx)
    replace H3 := hide ((unhide H3).below hbx)
    replace H5 := hide ((unhide H5).below hbx)
    replace H6 := hide ((unhide H6).below hbx)
    clear hbx hc hfz
    go_upto_region 4 with fail
    have KEEP := hide (show ∀ X, Below W2.heap.size W2 X → X.cell? ⟨w.heap.size, 0, none⟩ = some (.slice A1 l1.length c1) ∧ X.cell? ⟨w.heap.size, 1, none⟩ = some (.bool m1) ∧ X.cell? ⟨w.heap.size, 2, none⟩ = some (.slice A2 l2.length c2) ∧ X.cell? ⟨w.heap.size, 3, none⟩ = some (.bool m2) ∧ X.cell? ⟨w.heap.size + 1, 0, none⟩ = some (.slice A3 l3.length c3) ∧ X.cell? ⟨w.heap.size + 1, 1, none⟩ = some (.bool m3) ∧ X.cell? ⟨w.heap.size + 1, 2, none⟩ = some (.slice A4 l4.length c4) ∧ X.cell? ⟨w.heap.size + 1, 3, none⟩ = some (.bool m4) ∧ X.cell? ⟨b5, 0, none⟩ = some (.slice A5 l5.length c5) ∧ X.cell? ⟨b5, 1, none⟩ = some (.bool m5) ∧ X.cell? ⟨b6, 0, none⟩ = some (.slice A6 l6.length c6) ∧ X.cell? ⟨b6, 1, none⟩ = some (.bool m6) from fun X hB => ⟨keep_cell hB q0 k0_0, keep_cell hB q0 k0_1, keep_cell hB q0 k0_2, keep_cell hB q0 k0_3, keep_cell hB q1 k1_0, keep_cell hB q1 k1_1, keep_cell hB q1 k1_2, keep_cell hB q1 k1_3, keep_cell hB qb5 kb5_0, keep_cell hB qb5 kb5_1, keep_cell hB qb6 kb6_0, keep_cell hB qb6 kb6_1⟩)
    go_region_held3 (fun w' => w'.cell? ⟨w.heap.size, 0, none⟩ = some (.slice A1 l1.length c1) ∧ w'.cell? ⟨w.heap.size, 1, none⟩ = some (.bool m1) ∧ w'.cell? ⟨w.heap.size, 2, none⟩ = some (.slice A2 l2.length c2) ∧ w'.cell? ⟨w.heap.size, 3, none⟩ = some (.bool m2) ∧ w'.cell? ⟨w.heap.size + 1, 0, none⟩ = some (.slice A3 l3.length c3) ∧ w'.cell? ⟨w.heap.size + 1, 1, none⟩ = some (.bool m3) ∧ w'.cell? ⟨w.heap.size + 1, 2, none⟩ = some (.slice A4 l4.length c4) ∧ w'.cell? ⟨w.heap.size + 1, 3, none⟩ = some (.bool m4) ∧ w'.cell? ⟨b5, 0, none⟩ = some (.slice A5 l5.length c5) ∧ w'.cell? ⟨b5, 1, none⟩ = some (.bool m5) ∧ w'.cell? ⟨b6, 0, none⟩ = some (.slice A6 l6.length c6) ∧ w'.cell? ⟨b6, 1, none⟩ = some (.bool m6)) (first | with_reducible exact ⟨(cell_set4 _ _ _ _ _ _ (by omega)).trans (keep_cell hbw q0 k0_0), (cell_set4 _ _ _ _ _ _ (by omega)).trans (keep_cell hbw q0 k0_1), (cell_set4 _ _ _ _ _ _ (by omega)).trans (keep_cell hbw q0 k0_2), (cell_set4 _ _ _ _ _ _ (by omega)).trans (keep_cell hbw q0 k0_3), (cell_set4 _ _ _ _ _ _ (by omega)).trans (keep_cell hbw q1 k1_0), (cell_set4 _ _ _ _ _ _ (by omega)).trans (keep_cell hbw q1 k1_1), (cell_set4 _ _ _ _ _ _ (by omega)).trans (keep_cell hbw q1 k1_2), (cell_set4 _ _ _ _ _ _ (by omega)).trans (keep_cell hbw q1 k1_3), (cell_set4 _ _ _ _ _ _ (by omega)).trans (keep_cell hbw qb5 kb5_0), (cell_set4 _ _ _ _ _ _ (by omega)).trans (keep_cell hbw qb5 kb5_1), (cell_set4 _ _ _ _ _ _ (by omega)).trans (keep_cell hbw qb6 kb6_0), (cell_set4 _ _ _ _ _ _ (by omega)).trans (keep_cell hbw qb6 kb6_1)⟩ | with_reducible exact (unhide KEEP) _ (by (repeat (first | with_reducible exact Below.refl _ _ | with_reducible assumption | with_reducible refine Below.drew ?_ | with_reducible refine below_alloc ?_ _)))) (first | (go_at_call_of 98 (Value.agg #[.slice A1 l1.length c1, .bool m1]); refine ((unhide HM1) A1 c1 l1 m1 A6 c6 l6 m6 _ (below_step' hw0 (by (repeat (first | with_reducible exact Below.refl _ _ | with_reducible assumption | with_reducible refine Below.drew ?_ | with_reducible refine below_alloc ?_ _)))) (WholeF.below (unhide H1) (by (repeat (first | with_reducible exact Below.refl _ _ | with_reducible assumption | with_reducible refine Below.drew ?_ | with_reducible refine below_alloc ?_ _)))) (WholeF.below (unhide H6) (by (repeat (first | with_reducible exact Below.refl _ _ | with_reducible assumption | with_reducible refine Below.drew ?_ | with_reducible refine below_alloc ?_ _))))).mono ?_; rintro e w' ⟨A8, c8, l8, m8, rfl, hf8, hb8⟩; have hbw := below_step (w := W2) (by (repeat (first | with_reducible exact Below.refl _ _ | with_reducible assumption | with_reducible refine Below.drew ?_ | with_reducible refine below_alloc ?_ _))) hb8; have hsw := hbw.size; obtain ⟨hc, hfz⟩ := bcell hbw) | (go_at_call_of 98 (Value.agg #[.slice A3 l3.length c3, .bool m3]); refine ((unhide HM3) A3 c3 l3 m3 A5 c5 l5 m5 _ (below_step' hw0 (by (repeat (first | with_reducible exact Below.refl _ _ | with_reducible assumption | with_reducible refine Below.drew ?_ | with_reducible refine below_alloc ?_ _)))) (WholeF.below (unhide H3) (by (repeat (first | with_reducible exact Below.refl _ _ | with_reducible assumption | with_reducible refine Below.drew ?_ | with_reducible refine below_alloc ?_ _)))) (WholeF.below (unhide H5) (by (repeat (first | with_reducible exact Below.refl _ _ | with_reducible assumption | with_reducible refine Below.drew ?_ | with_reducible refine below_alloc ?_ _))))).mono ?_; rintro e w' ⟨A9, c9, l9, m9, rfl, hf9, hb9⟩; have hf8 := WholeF.below (WholeF.below hf8 (by (repeat (first | with_reducible exact Below.refl _ _ | with_reducible assumption | with_reducible refine Below.drew ?_ | with_reducible refine below_alloc ?_ _)))) hb9; have hbw := below_step (w := W2) (by (repeat (first | with_reducible exact Below.refl _ _ | with_reducible assumption | with_reducible refine Below.drew ?_ | with_reducible refine below_alloc ?_ _))) hb9; have hsw := hbw.size; obtain ⟨hc, hfz⟩ := bcell hbw) | (go_at_call_of 97 (Value.agg #[.slice A8 l8.length c8, .bool m8]); refine ((unhide HN) A8 c8 l8 m8 A9 c9 l9 m9 _ (below_step' hw0 (by (repeat (first | with_reducible exact Below.refl _ _ | with_reducible assumption | with_reducible refine Below.drew ?_ | with_reducible refine below_alloc ?_ _)))) (WholeF.below hf8 (by (repeat (first | with_reducible exact Below.refl _ _ | with_reducible assumption | with_reducible refine Below.drew ?_ | with_reducible refine below_alloc ?_ _)))) (WholeF.below hf9 (by (repeat (first | with_reducible exact Below.refl _ _ | with_reducible assumption | with_reducible refine Below.drew ?_ | with_reducible refine below_alloc ?_ _))))).mono ?_; rintro e w' ⟨A10, c10, l10, m10, rfl, hf10, hb10⟩; have hf8 := WholeF.below (WholeF.below hf8 (by (repeat (first | with_reducible exact Below.refl _ _ | with_reducible assumption | with_reducible refine Below.drew ?_ | with_reducible refine below_alloc ?_ _)))) hb10; have hf9 := WholeF.below (WholeF.below hf9 (by (repeat (first | with_reducible exact Below.refl _ _ | with_reducible assumption | with_reducible refine Below.drew ?_ | with_reducible refine below_alloc ?_ _)))) hb10; have hbw := below_step (w := W2) (by (repeat (first | with_reducible exact Below.refl _ _ | with_reducible assumption | with_reducible refine Below.drew ?_ | with_reducible refine below_alloc ?_ _))) hb10; have hsw := hbw.size; obtain ⟨hc, hfz⟩ := bcell hbw) | (go_at_call_of 98 (Value.agg #[.slice A5 l5.length c5, .bool m5]); refine ((unhide HM) A5 c5 l5 m5 A6 c6 l6 m6 _ (below_step' hw0 (by (repeat (first | with_reducible exact Below.refl _ _ | with_reducible assumption | with_reducible refine Below.drew ?_ | with_reducible refine below_alloc ?_ _)))) (WholeF.below (unhide H5) (by (repeat (first | with_reducible exact Below.refl _ _ | with_reducible assumption | with_reducible refine Below.drew ?_ | with_reducible refine below_alloc ?_ _)))) (WholeF.below (unhide H6) (by (repeat (first | with_reducible exact Below.refl _ _ | with_reducible assumption | with_reducible refine Below.drew ?_ | with_reducible refine below_alloc ?_ _))))).mono ?_; rintro e w' ⟨A11, c11, l11, m11, rfl, hf11, hb11⟩; have hf8 := WholeF.below (WholeF.below hf8 (by (repeat (first | with_reducible exact Below.refl _ _ | with_reducible assumption | with_reducible refine Below.drew ?_ | with_reducible refine below_alloc ?_ _)))) hb11; have hf9 := WholeF.below (WholeF.below hf9 (by (repeat (first | with_reducible exact Below.refl _ _ | with_reducible assumption | with_reducible refine Below.drew ?_ | with_reducible refine below_alloc ?_ _)))) hb11; have hf10 := WholeF.below (WholeF.below hf10 (by (repeat (first | with_reducible exact Below.refl _ _ | with_reducible assumption | with_reducible refine Below.drew ?_ | with_reducible refine below_alloc ?_ _)))) hb11; have hbw := below_step (w := W2) (by (repeat (first | with_reducible exact Below.refl _ _ | with_reducible assumption | with_reducible refine Below.drew ?_ | with_reducible refine below_alloc ?_ _))) hb11; have hsw := hbw.size; obtain ⟨hc, hfz⟩ := bcell hbw) | (go_at_call_of 92 (Value.agg #[.slice A10 l10.length c10, .bool m10]); refine ((unhide HR) A10 c10 l10 m10 A11 c11 l11 m11 _ (below_step' hw0 (by (repeat (first | with_reducible exact Below.refl _ _ | with_reducible assumption | with_reducible refine Below.drew ?_ | with_reducible refine below_alloc ?_ _)))) (WholeF.below hf10 (by (repeat (first | with_reducible exact Below.refl _ _ | with_reducible assumption | with_reducible refine Below.drew ?_ | with_reducible refine below_alloc ?_ _)))) (WholeF.below hf11 (by (repeat (first | with_reducible exact Below.refl _ _ | with_reducible assumption | with_reducible refine Below.drew ?_ | with_reducible refine below_alloc ?_ _))))).mono ?_; rintro e w' ⟨A12, c12, l12, m12, A13, c13, l13, m13, rfl, hf12, hf13, hb12⟩; have hf8 := WholeF.below (WholeF.below hf8 (by (repeat (first | with_reducible exact Below.refl _ _ | with_reducible assumption | with_reducible refine Below.drew ?_ | with_reducible refine below_alloc ?_ _)))) hb12; have hf9 := WholeF.below (WholeF.below hf9 (by (repeat (first | with_reducible exact Below.refl _ _ | with_reducible assumption | with_reducible refine Below.drew ?_ | with_reducible refine below_alloc ?_ _)))) hb12; have hf10 := WholeF.below (WholeF.below hf10 (by (repeat (first | with_reducible exact Below.refl _ _ | with_reducible assumption | with_reducible refine Below.drew ?_ | with_reducible refine below_alloc ?_ _)))) hb12; have hf11 := WholeF.below (WholeF.below hf11 (by (repeat (first | with_reducible exact Below.refl _ _ | with_reducible assumption | with_reducible refine Below.drew ?_ | with_reducible refine below_alloc ?_ _)))) hb12; have hbw := below_step (w := W2) (by (repeat (first | with_reducible exact Below.refl _ _ | with_reducible assumption | with_reducible refine Below.drew ?_ | with_reducible refine below_alloc ?_ _))) hb12; have hsw := hbw.size; obtain ⟨hc, hfz⟩ := bcell hbw))
    all_goals
      have hblk : w'.heap[w.heap.size + 1 + 1]? = some (.cells #[.slice none 0 0, .bool false, .slice none 0 0, .bool false] 52 (0, 0)) := (hbw.block _ q2).trans NR.out
      have HBLK := Lib.hid hblk
      have hb9 : Below w.heap.size w w' := below_step' hw0 hbw
      have hfi := (hf12)
      have hfj := (hf13)
      clear hblk
      go_wp2_with fail
      exact bodyPost_ret (v := (Value.agg #[.slice A12 l12.length c12, .bool m12, .slice A13 l13.length c13, .bool m13])) (by simp [results, Tryz.results43, go_sem, hc, k2_0, k2_1, k2_2, k2_3, q2]) rfl
        ⟨A12, c12, l12, m12, A13, c13, l13, m13, rfl, hfi.upto HBLK.out (noW2_4 _ _ _ _ _ _ _ _) (set4_grown _ _ _ _ _ _), hfj.upto HBLK.out (noW2_4 _ _ _ _ _ _ _ _) (set4_grown _ _ _ _ _ _), hb9.grown (set4_grown _ _ _ _ _ _) hb9.size (fun k hk => by injection hk with hk; omega)⟩

end Go.Proofs.YtpjgoogeokbaaaaGreatDoor
