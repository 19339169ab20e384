/- Part 7 of the texts beneath a law of layer 1: RfI, RfWM, RfQ, IntMul, RtBox. -/
import Derived.Test.YtaaccgjopcgbfaaDoorCb6
/- The reference's whole numbers out of ints, and compared. -/
namespace Go.Proofs.YtaaccgjopcgbfaaDoor
open Go.RowKit

theorem zb_two {w : World} {b : Nat} {T : TypeId} {lo hi : Nat} (h : w.heap[b]? = some (.cells #[.int .u32 (lo : Int), .int .u32 (hi : Int)] T (0, 0))) : ZB .u32 w b T [lo, hi] := h

set_option maxRecDepth 100000 in
set_option maxHeartbeats 1000000 in
theorem tofInt_any (x : Int) (w : World) (hx : -9223372036854775808 ≤ x) (hx2 : x ≤ 9223372036854775807) :
    Calls Tryd.prog 44 #[.int .i64 x] w fun e w' => WholeR w x e w' ∧ ∃ (A : Option Addr) (cap : Nat) (l : List Nat) (m : Bool), e = .returned (.agg #[.slice A l.length cap, .bool m]) ∧ l.length ≤ 2 := by
  obtain ⟨a, ha⟩ : ∃ a, a = x.natAbs := ⟨_, rfl⟩
  obtain ⟨lo, hlo⟩ : ∃ t, t = a % B32 := ⟨_, rfl⟩
  obtain ⟨hi, hhi⟩ : ∃ t, t = a / B32 := ⟨_, rfl⟩
  have ha2 : a ≤ 9223372036854775808 := by omega
  have e2 : (a : Int) % 4294967296 = (lo : Int) := by rw [hlo, B32_eq]; omega
  have e3 : (a : Int) / 4294967296 = (hi : Int) := by rw [hhi, B32_eq]; omega
  have e4 : (hi : Int) % 4294967296 = (hi : Int) := by rw [hhi, B32_eq]; omega
  have e5 : IntKind.u32.wrap (a : Int) = (lo : Int) := by rw [IntKind.wrap_u32]; exact e2
  have e6 : IntKind.u32.wrap (hi : Int) = (hi : Int) := by rw [IntKind.wrap_u32]; exact e4
  have hlB : ∀ t ∈ [lo, hi], t < B32 := by
    intro t ht
    simp only [List.mem_cons, List.not_mem_nil, or_false] at ht
    rcases ht with rfl | rfl
    · rw [hlo]; exact Nat.mod_lt _ (by rw [B32_eq]; omega)
    · rw [hhi, B32_eq]; omega
  have hval : Wd.val B32 [lo, hi] = x.natAbs := by
    rw [← ha]
    simp only [Wd.val, Nat.mul_zero, Nat.add_zero]
    rw [hlo, hhi]
    exact Nat.mod_add_div _ _
  have HLB := hide hlB; have HVAL := Lib.hid hval
  by_cases hn : x < 0
  · have d1 : decide (x < 0) = true := decide_eq_true hn
    have e1 : IntKind.u64.wrap (-IntKind.u64.wrap x) = (a : Int) := by
      rw [IntKind.wrap_u64, IntKind.wrap_u64]; omega
    clear hx hx2 ha hlo hhi ha2 hlB hval
    go_enter Tryd.func44, Tryd.ntmps44
    go_wp2_with fail
    obtain ⟨n0, n1, hsz, hw0⟩ := two_new w (.cells #[.slice none 0 0, .bool false] 35) (.cells #[.int .u32 (lo : Int), .int .u32 (hi : Int)] 108)
    generalize ((w.alloc (.cells #[.slice none 0 0, .bool false] 35)).alloc (.cells #[.int .u32 (lo : Int), .int .u32 (hi : Int)] 108)) = W0 at *
    have k0 : W0.cell? ⟨w.heap.size, 0, none⟩ = some (.slice none 0 0) := cells_of n0 0
    have k1 : W0.cell? ⟨w.heap.size, 1, none⟩ = some (.bool false) := cells_of n0 1
    have f0 := unfrozen_of n0 0
    have f1 := unfrozen_of n0 1
    have q0 : w.heap.size < W0.heap.size := by omega
    have hzb := zb_two n1
    have NR := Lib.hid n0
    have htr := ttrim_any (some ⟨w.heap.size + 1, 0, none⟩) 2 [lo, hi] W0.heap.size W0 (hzb.ws0 _ hzb.lt) (by simp) (by omega)
    have HZB := hide hzb
    clear n0 n1 hzb
    refine htr.mono ?_
    rintro e w' ⟨⟨k, rfl, ht, hk⟩, hw'⟩
    obtain rfl : W0 = w' := hw'.symm
    clear hw'
    have hn5 := NatT.of_trim (cap := 2) (unhide HZB) (unhide HLB) ht hk (by simp) (by omega)
    rw [HVAL.out] at hn5
    have hkl : k = ([lo, hi].take k).length := by rw [List.length_take]; omega
    have hl2 : ([lo, hi].take k).length ≤ 2 := by rw [List.length_take]; exact Nat.min_le_right _ _
    generalize [lo, hi].take k = l5 at *
    subst hkl
    have hf5 : WholeF W0 (some ⟨w.heap.size + 1, 0, none⟩) 2 l5 true x := ⟨hn5, d1.symm⟩
    have HF5 := hide hf5
    clear hn5 hf5 ht
    go_wp2_with fail
    exact bodyPost_ret (v := .agg #[.slice (some ⟨w.heap.size + 1, 0, none⟩) l5.length 2, .bool true]) (by simp [results, Tryd.results44, go_sem, k0, k1, q0]) rfl
      ⟨⟨_, 2, l5, true, rfl, (unhide HF5).upto NR.out (noW2_2 _ _ _ _) (set2_grown _ _ _ _), hw0.grown (set2_grown _ _ _ _) hw0.size (fun k hk => by injection hk with hk; omega)⟩, _, _, l5, true, rfl, hl2⟩
  · have d1 : decide (x < 0) = false := decide_eq_false hn
    have e1 : IntKind.u64.wrap x = (a : Int) := by
      rw [IntKind.wrap_u64]; omega
    clear hx hx2 ha hlo hhi ha2 hlB hval
    go_enter Tryd.func44, Tryd.ntmps44
    go_wp2_with fail
    obtain ⟨n0, n1, hsz, hw0⟩ := two_new w (.cells #[.slice none 0 0, .bool false] 35) (.cells #[.int .u32 (lo : Int), .int .u32 (hi : Int)] 108)
    generalize ((w.alloc (.cells #[.slice none 0 0, .bool false] 35)).alloc (.cells #[.int .u32 (lo : Int), .int .u32 (hi : Int)] 108)) = W0 at *
    have k0 : W0.cell? ⟨w.heap.size, 0, none⟩ = some (.slice none 0 0) := cells_of n0 0
    have k1 : W0.cell? ⟨w.heap.size, 1, none⟩ = some (.bool false) := cells_of n0 1
    have f0 := unfrozen_of n0 0
    have f1 := unfrozen_of n0 1
    have q0 : w.heap.size < W0.heap.size := by omega
    have hzb := zb_two n1
    have NR := Lib.hid n0
    have htr := ttrim_any (some ⟨w.heap.size + 1, 0, none⟩) 2 [lo, hi] W0.heap.size W0 (hzb.ws0 _ hzb.lt) (by simp) (by omega)
    have HZB := hide hzb
    clear n0 n1 hzb
    refine htr.mono ?_
    rintro e w' ⟨⟨k, rfl, ht, hk⟩, hw'⟩
    obtain rfl : W0 = w' := hw'.symm
    clear hw'
    have hn5 := NatT.of_trim (cap := 2) (unhide HZB) (unhide HLB) ht hk (by simp) (by omega)
    rw [HVAL.out] at hn5
    have hkl : k = ([lo, hi].take k).length := by rw [List.length_take]; omega
    have hl2 : ([lo, hi].take k).length ≤ 2 := by rw [List.length_take]; exact Nat.min_le_right _ _
    generalize [lo, hi].take k = l5 at *
    subst hkl
    have hf5 : WholeF W0 (some ⟨w.heap.size + 1, 0, none⟩) 2 l5 false x := ⟨hn5, d1.symm⟩
    have HF5 := hide hf5
    clear hn5 hf5 ht
    go_wp2_with fail
    exact bodyPost_ret (v := .agg #[.slice (some ⟨w.heap.size + 1, 0, none⟩) l5.length 2, .bool false]) (by simp [results, Tryd.results44, go_sem, k0, k1, q0]) rfl
      ⟨⟨_, 2, l5, false, rfl, (unhide HF5).upto NR.out (noW2_2 _ _ _ _) (set2_grown _ _ _ _), hw0.grown (set2_grown _ _ _ _) hw0.size (fun k hk => by injection hk with hk; omega)⟩, _, _, l5, false, rfl, hl2⟩

theorem belowE2 {B : Nat} {w w1 w' : World} (h : Below B w w1) (e : ∃ k, w' = w1.drewN k) : Below B w w' := by
  obtain ⟨k, rfl⟩ := e; exact belowN h k

set_option maxRecDepth 100000 in
set_option maxHeartbeats 1000000 in
theorem tcmp_any (A1 : Option Addr) (c1 : Nat) (l1 : List Nat) (m1 : Bool) (z1 : Int) (A2 : Option Addr) (c2 : Nat) (l2 : List Nat) (m2 : Bool) (z2 : Int) (w : World) (h1 : WholeF w A1 c1 l1 m1 z1) (h2 : WholeF w A2 c2 l2 m2 z2) :
    Calls Tryd.prog 47 #[.agg #[.slice A1 l1.length c1, .bool m1], .agg #[.slice A2 l2.length c2, .bool m2]] w fun e w' => e = .returned (.int .i64 (sgn (z1 - z2))) ∧ Below w.heap.size w w' := by
  have ho : ord3 z1.natAbs z2.natAbs = -1 ∨ ord3 z1.natAbs z2.natAbs = 0 ∨ ord3 z1.natAbs z2.natAbs = 1 := by unfold ord3; (repeat' split) <;> simp
  have hO := hide (fun W (hW : Below w.heap.size w W) => torder_any A1 A2 c1 c2 l1 l2 z1.natAbs z2.natAbs W (h1.nat.below hW) (h2.nat.below hW))
  have s1 := h1.sign; have s2 := h2.sign
  have hpp : m1 = false → m2 = false → ord3 z1.natAbs z2.natAbs = sgn (z1 - z2) := by
    rintro rfl rfl
    have a1 := of_decide_eq_false s1.symm; have a2 := of_decide_eq_false s2.symm
    unfold ord3 sgn; (repeat' split) <;> omega
  have hnn : m1 = true → m2 = true → -ord3 z1.natAbs z2.natAbs = sgn (z1 - z2) := by
    rintro rfl rfl
    have a1 := of_decide_eq_true s1.symm; have a2 := of_decide_eq_true s2.symm
    unfold ord3 sgn; (repeat' split) <;> omega
  have hnp : m1 = true → m2 = false → -1 = sgn (z1 - z2) := by
    rintro rfl rfl
    have a1 := of_decide_eq_true s1.symm; have a2 := of_decide_eq_false s2.symm
    unfold sgn; (repeat' split) <;> omega
  have hpn : m1 = false → m2 = true → 1 = sgn (z1 - z2) := by
    rintro rfl rfl
    have a1 := of_decide_eq_false s1.symm; have a2 := of_decide_eq_true s2.symm
    unfold sgn; (repeat' split) <;> omega
  obtain ⟨o, hoo⟩ : ∃ o, o = ord3 z1.natAbs z2.natAbs := ⟨_, rfl⟩
  obtain ⟨g, hg⟩ : ∃ g, g = sgn (z1 - z2) := ⟨_, rfl⟩
  rw [← hoo] at ho hO hpp hnn
  rw [← hg] at hpp hnn hnp hpn ⊢
  have e1 : IntKind.i64.wrap (-o) = -o := IntWalk.i64_in _ (by omega)
  have hw0 := (two_new w (.cells #[.slice A1 l1.length c1, .bool m1] 35) (.cells #[.slice A2 l2.length c2, .bool m2] 35)).2.2.2
  clear h1 h2 s1 s2 hoo hg ho
  cases m1 <;> cases m2
  · have hh := Lib.hid (hpp rfl rfl)
    clear hpp hnn hnp hpn
    go_enter Tryd.func47, Tryd.ntmps47
    go_wp2_with fail
    refine ((unhide hO) _ hw0).mono ?_
    rintro e w' ⟨rfl, hw'⟩
    have hb9 := belowE2 hw0 hw'
    clear hw'
    go_wp2_with fail
    all_goals first | go_ret | skip
    exact ⟨by rw [hh.out]; rfl, hb9⟩
  · have hh := Lib.hid (hpn rfl rfl)
    clear hpp hnn hnp hpn
    go_enter Tryd.func47, Tryd.ntmps47
    go_wp2_with fail
    all_goals first | (go_quiet (fail); go_wp2_with fail) | skip
    all_goals first | go_ret | skip
    exact ⟨by rw [← hh.out]; rfl, by first | exact hw0 | exact hw0.drew | exact belowN hw0 _⟩
  · have hh := Lib.hid (hnp rfl rfl)
    clear hpp hnn hnp hpn
    go_enter Tryd.func47, Tryd.ntmps47
    go_wp2_with fail
    all_goals first | (go_quiet (fail); go_wp2_with fail) | skip
    all_goals first | go_ret | skip
    exact ⟨by rw [← hh.out]; rfl, by first | exact hw0 | exact hw0.drew | exact belowN hw0 _⟩
  · have hh := Lib.hid (hnn rfl rfl)
    clear hpp hnn hnp hpn
    go_enter Tryd.func47, Tryd.ntmps47
    go_wp2_with fail
    refine ((unhide hO) _ hw0).mono ?_
    rintro e w' ⟨rfl, hw'⟩
    have hb9 := belowE2 hw0 hw'
    clear hw'
    go_wp2_with fail
    all_goals first | go_ret | skip
    exact ⟨by rw [← hh.out]; rfl, hb9⟩
end Go.Proofs.YtaaccgjopcgbfaaDoor
/- The reference: products of whole numbers. -/
namespace Go.Proofs.YtaaccgjopcgbfaaDoor
open Go.RowKit

set_option maxRecDepth 100000 in
set_option maxHeartbeats 8000000 in
theorem tmul_any (A1 : Option Addr) (c1 : Nat) (l1 : List Nat) (m1 : Bool) (z1 : Int) (A2 : Option Addr) (c2 : Nat) (l2 : List Nat) (m2 : Bool) (z2 : Int) (w : World) (h1 : WholeF w A1 c1 l1 m1 z1) (h2 : WholeF w A2 c2 l2 m2 z2) (hk : l1.length + l2.length ≤ 35184372088832) :
    Calls Tryd.prog 45 #[.agg #[.slice A1 l1.length c1, .bool m1], .agg #[.slice A2 l2.length c2, .bool m2]] w fun e w' => WholeR w (z1 * z2) e w' := by
  have hv : (if (m1 != m2) then -((z1.natAbs * z2.natAbs : Nat) : Int) else ((z1.natAbs * z2.natAbs : Nat) : Int)) = z1 * z2 := by
    rw [h1.sign, h2.sign, ← Int.natAbs_mul]
    by_cases a : z1 < 0 <;> by_cases b : z2 < 0
    · have := Int.mul_pos_of_neg_of_neg a b
      simp [a, b]; omega
    · have : z1 * z2 ≤ 0 := Int.mul_nonpos_of_nonpos_of_nonneg (by omega) (by omega)
      simp [a, b]; omega
    · have : z1 * z2 ≤ 0 := Int.mul_nonpos_of_nonneg_of_nonpos (by omega) (by omega)
      simp [a, b]; omega
    · have : 0 ≤ z1 * z2 := Int.mul_nonneg (by omega) (by omega)
      simp [a, b]; omega
  have HT := hide (fun W (hW : Below w.heap.size w W) => ttimes_any A1 A2 c1 c2 l1 l2 z1.natAbs z2.natAbs W (h1.nat.below hW) (h2.nat.below hW) hk)
  obtain ⟨p, hp⟩ : ∃ p, p = z1.natAbs * z2.natAbs := ⟨_, rfl⟩
  obtain ⟨z, hz⟩ : ∃ z, z = z1 * z2 := ⟨_, rfl⟩
  rw [← hp] at HT hv
  rw [← hz] at hv ⊢
  obtain ⟨sg, hsg⟩ : ∃ s, s = (m1 != m2) := ⟨_, rfl⟩
  rw [← hsg] at hv
  have HV := Lib.hid hv
  have SG : (!(m1 == m2)) = sg := hsg.symm
  clear h1 h2 hk hp hz hv hsg
  go_enter Tryd.func45, Tryd.ntmps45
  go_wp2_with fail
  obtain ⟨n0, n1, n2, hsz, hw0⟩ := three_new w (.cells #[.slice A1 l1.length c1, .bool m1] 35) (.cells #[.slice A2 l2.length c2, .bool m2] 35) (.cells #[.slice none 0 0, .bool false] 35)
  generalize (((w.alloc (.cells #[.slice A1 l1.length c1, .bool m1] 35)).alloc (.cells #[.slice A2 l2.length c2, .bool m2] 35)).alloc (.cells #[.slice none 0 0, .bool false] 35)) = W0 at *
  have k0 : W0.cell? ⟨w.heap.size, 0, none⟩ = some (.slice A1 l1.length c1) := cells_of n0 0
  have k1 : W0.cell? ⟨w.heap.size, 1, none⟩ = some (.bool m1) := cells_of n0 1
  have k2 : W0.cell? ⟨w.heap.size + 1, 0, none⟩ = some (.slice A2 l2.length c2) := cells_of n1 0
  have k3 : W0.cell? ⟨w.heap.size + 1, 1, none⟩ = some (.bool m2) := cells_of n1 1
  have q0 : w.heap.size < W0.heap.size := by omega
  have q1 : w.heap.size + 1 < W0.heap.size := by omega
  have q2 : w.heap.size + 1 + 1 < W0.heap.size := by omega
  have r0 : W0.cell? ⟨w.heap.size + 1 + 1, 0, none⟩ = some (.slice none 0 0) := cells_of n2 0
  have r1 : W0.cell? ⟨w.heap.size + 1 + 1, 1, none⟩ = some (.bool false) := cells_of n2 1
  have f0 := unfrozen_of n2 0
  have f1 := unfrozen_of n2 1
  have NR := Lib.hid n2
  clear n0 n1 n2 hsz
  go_region_held3 (fun w' => w'.cell? ⟨w.heap.size, 0, none⟩ = some (.slice A1 l1.length c1) ∧ w'.cell? ⟨w.heap.size, 1, none⟩ = some (.bool m1) ∧ w'.cell? ⟨w.heap.size + 1, 0, none⟩ = some (.slice A2 l2.length c2) ∧ w'.cell? ⟨w.heap.size + 1, 1, none⟩ = some (.bool m2)) ((first | with_reducible exact ⟨k0, k1, k2, k3⟩ | with_reducible exact ⟨(hc _ _ q0).trans k0, (hc _ _ q0).trans k1, (hc _ _ q1).trans k2, (hc _ _ q1).trans k3⟩ | with_reducible exact ⟨(cell_set2 _ _ _ _ (by omega)).trans ((hc _ _ q0).trans k0), (cell_set2 _ _ _ _ (by omega)).trans ((hc _ _ q0).trans k1), (cell_set2 _ _ _ _ (by omega)).trans ((hc _ _ q1).trans k2), (cell_set2 _ _ _ _ (by omega)).trans ((hc _ _ q1).trans k3)⟩ | exact ⟨k0, k1, k2, k3⟩ | exact ⟨(hc _ _ q0).trans k0, (hc _ _ q0).trans k1, (hc _ _ q1).trans k2, (hc _ _ q1).trans k3⟩)) (first | (go_at_call 85; refine ((unhide HT) _ (below_step' hw0 (by (first | with_reducible assumption | (repeat (first | with_reducible exact Below.refl _ _ | with_reducible assumption | refine Below.drew ?_ | (refine Below.alloc ?_ (by simp <;> omega) _))))))).mono ?_; rintro e w' ⟨A5, c5, l5, rfl, hn5, hb⟩; have hbw := below_step (w := W0) (by (first | assumption | (repeat (first | exact Below.refl _ _ | assumption | refine Below.drew ?_ | (refine Below.alloc ?_ (by simp <;> omega) _))))) hb; obtain ⟨hc, hfz⟩ := bcell hbw) | (go_at_call 83; refine (tsigned_any A5 c5 l5 p sg _ (by exact hn5)).mono ?_; rw [HV.out]; rintro e w' ⟨A6, c6, l6, m6, rfl, hf6, hb⟩; have hbw := below_step (w := W0) (by (first | assumption | (repeat (first | exact Below.refl _ _ | assumption | refine Below.drew ?_ | (refine Below.alloc ?_ (by simp <;> omega) _))))) hb; obtain ⟨hc, hfz⟩ := bcell hbw))
  all_goals
    have hblk : w'.heap[w.heap.size + 1 + 1]? = some (.cells #[.slice none 0 0, .bool false] 35 (0, 0)) := (hbw.block _ q2).trans NR.out
    have HBLK := Lib.hid hblk
    have hb9 : Below w.heap.size w w' := below_step' hw0 hbw
    clear hblk
    go_wp2_with fail
    exact bodyPost_ret (v := .agg #[.slice A6 l6.length c6, .bool m6]) (by simp [results, Tryd.results45, go_sem, hc, r0, r1, q2]) rfl
      ⟨A6, c6, l6, m6, rfl, hf6.upto HBLK.out (noW2_2 _ _ _ _) (set2_grown _ _ _ _), hb9.grown (set2_grown _ _ _ _) hb9.size (fun k hk => by injection hk with hk; omega)⟩
end Go.Proofs.YtaaccgjopcgbfaaDoor
/- The reference's quotients: their denominators. -/
namespace Go.Proofs.YtaaccgjopcgbfaaDoor
open Go.RowKit

set_option maxRecDepth 100000 in
set_option maxHeartbeats 1000000 in
theorem tden_any (A1 : Option Addr) (c1 : Nat) (l1 : List Nat) (m1 : Bool) (A2 : Option Addr) (c2 : Nat) (l2 : List Nat) (m2 : Bool) (d : Int) (w : World) (h2 : WholeF w A2 c2 l2 m2 d) (hd : d ≠ 0) :
    Calls Tryd.prog 46 #[.agg #[.slice A1 l1.length c1, .bool m1, .slice A2 l2.length c2, .bool m2]] w fun e w' => e = .returned (.agg #[.slice A2 l2.length c2, .bool m2]) ∧ Below w.heap.size w w' := by
  have hl : ¬ l2.length = 0 := fun e => by have := h2.nat.zero_iff.2 e; omega
  have HI := hide (fun W => tisn_any A2 c2 l2.length m2 W)
  rw [decide_eq_false hl] at HI
  clear h2 hd
  go_enter Tryd.func46, Tryd.ntmps46
  go_wp2_with fail
  obtain ⟨n0, n1, hsz, hw0⟩ := two_new w (.cells #[.slice A1 l1.length c1, .bool m1, .slice A2 l2.length c2, .bool m2] 37) (.cells #[.slice none 0 0, .bool false] 35)
  generalize ((w.alloc (.cells #[.slice A1 l1.length c1, .bool m1, .slice A2 l2.length c2, .bool m2] 37)).alloc (.cells #[.slice none 0 0, .bool false] 35)) = W0 at *
  have k2 : W0.cell? ⟨w.heap.size, 2, none⟩ = some (.slice A2 l2.length c2) := cells_of n0 2
  have k3 : W0.cell? ⟨w.heap.size, 3, none⟩ = some (.bool m2) := cells_of n0 3
  have q0 : w.heap.size < W0.heap.size := by omega
  have q1 : w.heap.size + 1 < W0.heap.size := by omega
  have r0 : W0.cell? ⟨w.heap.size + 1, 0, none⟩ = some (.slice none 0 0) := cells_of n1 0
  have r1 : W0.cell? ⟨w.heap.size + 1, 1, none⟩ = some (.bool false) := cells_of n1 1
  have f0 := unfrozen_of n1 0
  have f1 := unfrozen_of n1 1
  clear n0 n1 hsz
  refine ((unhide HI) _).mono ?_
  rintro e w' ⟨rfl, hb⟩
  obtain ⟨hc, hfz⟩ := bcell hb
  have hb9 : Below w.heap.size w w' := below_step' hw0 hb
  go_wp2_with fail
  exact bodyPost_ret (v := .agg #[.slice A2 l2.length c2, .bool m2]) (by simp [results, Tryd.results46, go_sem, hc, k2, k3, r0, r1, q1]) rfl
    ⟨rfl, hb9.grown (set2_grown _ _ _ _) hb9.size (fun k hk => by injection hk with hk; omega)⟩

/-- What a whole number is as an int. -/
def SmallR (w : World) (z : Int) (e : Ending) (w' : World) : Prop := ∃ (v : Int) (ok : Bool), e = .returned (.tuple #[.int .i64 v, .bool ok]) ∧ ok = decide (-9223372036854775808 ≤ z ∧ z ≤ 9223372036854775807) ∧ (ok = true → v = z) ∧ Below w.heap.size w w'

theorem val_take_one (l : List Nat) (h : 0 < l.length) : Wd.val B32 (l.take 1) = Wd.g l 0 := by
  cases l with
  | nil => simp at h
  | cons a l => simp [Wd.val, Wd.g_def, List.getD]
theorem val_take_two (l : List Nat) (h : 1 < l.length) : Wd.val B32 (l.take 2) = Wd.g l 0 + Wd.g l 1 * 2 ^ 32 := by
  cases l with
  | nil => simp at h
  | cons a l => cases l with
    | nil => simp at h
    | cons b l => simp [Wd.val, Wd.g_def, List.getD, B32_eq]; omega

set_option maxRecDepth 100000 in
set_option maxHeartbeats 1000000 in
theorem tsmall_any (A : Option Addr) (cap : Nat) (l : List Nat) (m : Bool) (z : Int) (w : World) (h : WholeF w A cap l m z) :
    Calls Tryd.prog 48 #[.agg #[.slice A l.length cap, .bool m]] w fun e w' => SmallR w z e w' := by
  have hc1 := h.nat.cap1; have hc2 := h.nat.cap2
  have hba : Below w.heap.size w (w.alloc (.cells #[.slice A l.length cap, .bool m] 35)) := (Below.refl _ _).alloc (Nat.le_refl _) _
  by_cases hl : l.length ≤ 2
  · have d1 : decide ((2 : Int) < (l.length : Int)) = false := decide_eq_false (by omega)
    have hsg := h.sign
    have hn := (h.nat.below hba)
    have hbl := h.nat.lt_pow
    obtain ⟨n0, hsz, hw0⟩ := one_new w (.cells #[.slice A l.length cap, .bool m] 35)
    have HN := hide hn; have HBL := hide hbl; have HSG := Lib.hid hsg; have HW0 := hide hw0
    clear hba hn hbl hsg h hw0
    go_enter Tryd.func48, Tryd.ntmps48
    go_wp2_with fail
    all_goals first | omega | skip
    generalize (w.alloc (.cells #[.slice A l.length cap, .bool m] 35)) = W0 at *
    have k0 : W0.cell? ⟨w.heap.size, 0, none⟩ = some (.slice A l.length cap) := cells_of n0 0
    have k1 : W0.cell? ⟨w.heap.size, 1, none⟩ = some (.bool m) := cells_of n0 1
    clear n0 hsz
    go_loop [4, 5] (fun uv iv => ∃ i : Nat, i ≤ l.length ∧ iv = .int .i64 ((i : Nat) : Int) ∧ uv = .int .u64 ((Wd.val B32 (l.take i) : Nat) : Int)) (fun _ iv => l.length - (intOf iv).toNat)
    case atStart => exact ⟨0, Nat.zero_le _, rfl, rfl⟩
    case round =>
      obtain ⟨i, hi, rfl, rfl⟩ := hrel
      by_cases hlt : i < l.length
      · obtain ⟨b, o, rfl, hbb, hcell⟩ := (unhide HN).ws (by omega)
        have hx := hcell i hlt
        clear hcell
        obtain ⟨x, hxx⟩ : ∃ x, x = Wd.g l i := ⟨_, rfl⟩
        rw [← hxx] at hx
        have hxB : x < B32 := by rw [hxx]; exact Wd.getD_lt (by rw [B32_eq]; omega) _ (unhide HN).lt i
        have e0 : IntKind.u64.wrap (x : Int) = (x : Int) := wrap64_nat rfl (by rw [B32_eq] at hxB; rw [B64_eq]; omega)
        have hi2 : i = 0 ∨ i = 1 := by omega
        rcases hi2 with rfl | rfl
        · have hv : Wd.val B32 (l.take 1) = x := by rw [val_take_one l hlt, hxx]
          have hv0 : Wd.val B32 (l.take 0) = 0 := rfl
          rw [Nat.add_zero] at hx
          rw [hv0]
          have g1 : Go.bits .or .u64 0 (x : Int) = (x : Int) := by
            have := bits_or_u64_nat 0 x (by omega) (by rw [B32_eq] at hxB; omega)
            simpa using this
          have HV := Lib.hid hv
          clear hv hxx hv0
          go_wp2_with fail
          go_round
          case rel => exact ⟨1, by omega, rfl, by rw [HV.out]⟩
          case measure => simp [intOf] <;> omega
        · have hv : Wd.val B32 (l.take 2) = Wd.g l 0 + x * 2 ^ 32 := by rw [val_take_two l hlt, hxx]
          have hv0 : Wd.val B32 (l.take 1) = Wd.g l 0 := val_take_one l (by omega)
          have hyB : Wd.g l 0 < B32 := Wd.getD_lt (by rw [B32_eq]; omega) _ (unhide HN).lt 0
          obtain ⟨y, hyy⟩ : ∃ x, x = Wd.g l 0 := ⟨_, rfl⟩
          rw [← hyy] at hv hv0 hyB
          rw [hv0]
          obtain ⟨p, hp⟩ : ∃ p, p = x * 2 ^ 32 := ⟨_, rfl⟩
          obtain ⟨s, hs⟩ : ∃ s, s = y + p := ⟨_, rfl⟩
          have g0 : IntKind.u64.wrap ((x : Int) * 2 ^ 32) = (p : Int) := wrap64_nat (by rw [hp]; simp) (by rw [hp]; rw [B32_eq] at hxB; rw [B64_eq]; omega)
          have g0' : IntKind.u64.wrap ((x : Int) * 4294967296) = (p : Int) := wrap64_nat (by rw [hp]; simp) (by rw [hp]; rw [B32_eq] at hxB; rw [B64_eq]; omega)
          have g1 : Go.bits .or .u64 (y : Int) (p : Int) = (s : Int) := by
            rw [bits_or_u64_nat y p (by rw [B32_eq] at hyB; omega) (by rw [hp]; rw [B32_eq] at hxB; omega), hs, hp, or_word (by rw [B32_eq] at hyB; omega)]
          rw [← hp, ← hs] at hv
          have HV := Lib.hid hv
          clear hv hxx hv0 hyy hp hs
          go_wp2_with fail
          go_round
          case rel => exact ⟨2, by omega, rfl, by rw [HV.out]⟩
          case measure => simp [intOf] <;> omega
      · have e : i = l.length := by omega
        subst e
        have hv : Wd.val B32 (l.take l.length) = z.natAbs := by rw [List.take_length]; exact (unhide HN).val
        rw [hv]
        obtain ⟨a, ha⟩ : ∃ a, a = z.natAbs := ⟨_, rfl⟩
        have haB : a < B64 := by
          have := unhide HBL
          have h2 : B32 ^ l.length ≤ B32 ^ 2 := Nat.pow_le_pow_right (by rw [B32_eq]; omega) hl
          rw [← ha] at this; rw [B64_eq]; rw [B32_eq] at *; omega
        rw [← ha]
        clear hv hlt
        go_wp2_with fail
        · have hm : m = true := by assumption
          have hz : z < 0 := of_decide_eq_true (HSG.out.symm.trans hm)
          go_ret2
          refine ⟨_, _, rfl, decide_eq_decide.2 (by omega), fun h => ?_, unhide HW0⟩
          have h2 := of_decide_eq_true h
          simp only [wrap64, IntKind.wrap_u64]
          omega
        · have hm : ¬ m = true := by rw [show m = false by assumption]; exact Bool.false_ne_true
          have hz : ¬ z < 0 := fun h => hm (HSG.out.trans (decide_eq_true h))
          go_ret2
          refine ⟨_, _, rfl, decide_eq_decide.2 (by omega), fun h => ?_, unhide HW0⟩
          have h2 := of_decide_eq_true h
          rw [IntWalk.wrap64_in _ (by omega)]
          omega
  · have d1 : decide ((2 : Int) < (l.length : Int)) = true := decide_eq_true (by omega)
    have hnot : ¬ (-9223372036854775808 ≤ z ∧ z ≤ 9223372036854775807) := by
      intro hz
      have := h.nat.len (k := 2) (by rw [B32_eq]; omega)
      omega
    have HNO := hide hnot
    clear h hnot
    go_enter Tryd.func48, Tryd.ntmps48
    go_wp2_with fail
    all_goals first | omega | skip
    go_ret2
    exact ⟨0, false, rfl, (decide_eq_false (unhide HNO)).symm, (fun h => Bool.noConfusion h), hba⟩
end Go.Proofs.YtaaccgjopcgbfaaDoor
/- Products of whole numbers. -/
namespace Go.Proofs.YtaaccgjopcgbfaaDoor
open Go.RowKit

set_option maxRecDepth 100000 in
set_option maxHeartbeats 4000000 in
theorem imul_any (s1 : Int) (neg1 : Bool) (A1 : Option Addr) (c1 : Nat) (l1 : List Nat) (z1 : Int) (s2 : Int) (neg2 : Bool) (A2 : Option Addr) (c2 : Nat) (l2 : List Nat) (z2 : Int) (w : World)
    (h1 : IntF w s1 neg1 A1 c1 l1 z1) (h2 : IntF w s2 neg2 A2 c2 l2 z2) (hl1 : l1.length ≤ lim) (hl2 : l2.length ≤ lim) :
    Calls Tryd.prog 74 #[.agg #[.int .i64 s1, .bool neg1, .slice A1 l1.length c1], .agg #[.int .i64 s2, .bool neg2, .slice A2 l2.length c2]] w fun e w' => IntR w (z1 * z2) e w' := by
  have HS1 := hide (fun W => isSmall_any s1 neg1 A1 c1 l1.length W)
  have HS2 := hide (fun W => isSmall_any s2 neg2 A2 c2 l2.length W)
  have hz := sgn_mul_sign z1 z2
  have LEN : ∀ (A5 A6 : Option Addr) (c5 c6 : Nat) (l5 l6 : List Nat) (W : World), NatV W A5 c5 l5 z1.natAbs → NatV W A6 c6 l6 z2.natAbs → l5.length + l6.length ≤ 35184372088832 := fun _ _ _ _ _ _ _ g1 g2 => by
    have e1 := g1.len h1.amount_len
    have e2 := g2.len h2.amount_len
    rw [lim_eq] at hl1 hl2
    omega
  have G1 : ∀ W0, Below w.heap.size w W0 → Hid (∀ W, Below W0.heap.size W0 W → Calls Tryd.prog 68 #[.agg #[.int .i64 s1, .bool neg1, .slice A1 l1.length c1]] W fun e w' => e = .returned (.int .i64 (sgn z1)) ∧ Below W.heap.size W w') := fun W0 h0 W hW => sign_any s1 neg1 A1 c1 l1 z1 W (IntF.below h1 (below_step' h0 hW))
  have G2 : ∀ W0, Below w.heap.size w W0 → Hid (∀ W, Below W0.heap.size W0 W → Calls Tryd.prog 68 #[.agg #[.int .i64 s2, .bool neg2, .slice A2 l2.length c2]] W fun e w' => e = .returned (.int .i64 (sgn z2)) ∧ Below W.heap.size W w') := fun W0 h0 W hW => sign_any s2 neg2 A2 c2 l2 z2 W (IntF.below h2 (below_step' h0 hW))
  have B1 : ∀ W0, Below w.heap.size w W0 → Hid (∀ W, Below W0.heap.size W0 W → Calls Tryd.prog 100 #[.agg #[.int .i64 s1, .bool neg1, .slice A1 l1.length c1]] W fun e w' => NatR W z1.natAbs e w') := fun W0 h0 W hW => abs_any s1 neg1 A1 c1 l1 z1 W (IntF.below h1 (below_step' h0 hW))
  have B2 : ∀ W0, Below w.heap.size w W0 → Hid (∀ W, Below W0.heap.size W0 W → Calls Tryd.prog 100 #[.agg #[.int .i64 s2, .bool neg2, .slice A2 l2.length c2]] W fun e w' => NatR W z2.natAbs e w') := fun W0 h0 W hW => abs_any s2 neg2 A2 c2 l2 z2 W (IntF.below h2 (below_step' h0 hW))
  have ho1 : -1 ≤ sgn z1 * sgn z2 ∧ sgn z1 * sgn z2 ≤ 1 := by unfold sgn; (repeat' split) <;> omega
  have hbnd1 := h1.bounds
  have hbnd2 := h2.bounds
  have hsz1 : l1.length = 0 → s1.natAbs = z1.natAbs ∧ z1.natAbs < M63 := fun h => by obtain ⟨e, _, e3⟩ := h1.of_small h; rw [e]; exact ⟨rfl, e3⟩
  have hsz2 : l2.length = 0 → s2.natAbs = z2.natAbs ∧ z2.natAbs < M63 := fun h => by obtain ⟨e, _, e3⟩ := h2.of_small h; rw [e]; exact ⟨rfl, e3⟩
  have Z1 := hide (fun W => size_any s1 hbnd1.1 hbnd1.2 W)
  have Z2 := hide (fun W => size_any s2 hbnd2.1 hbnd2.2 W)
  obtain ⟨m1, hm1⟩ : ∃ o, o = z1.natAbs := ⟨_, rfl⟩
  obtain ⟨m2, hm2⟩ : ∃ o, o = z2.natAbs := ⟨_, rfl⟩
  obtain ⟨o1, hoo1⟩ : ∃ o, o = sgn z1 := ⟨_, rfl⟩
  obtain ⟨o2, hoo2⟩ : ∃ o, o = sgn z2 := ⟨_, rfl⟩
  rw [← hm1] at B1 LEN hz hsz1
  rw [← hm2] at B2 LEN hz hsz2
  rw [← hoo1] at G1 hz ho1
  rw [← hoo2] at G2 hz ho1
  obtain ⟨op, hop⟩ : ∃ o, o = o1 * o2 := ⟨_, rfl⟩
  have e1 : IntKind.i64.wrap (o1 * o2) = op := by rw [hop]; exact IntWalk.i64_in _ (by omega)
  have e1' : wrap64 (o1 * o2) = op := by rw [hop]; exact IntWalk.wrap64_in _ (by omega)
  rw [← hop] at hz
  obtain ⟨ng, hng⟩ : ∃ b, b = decide (op < 0) := ⟨_, rfl⟩
  rw [← hng] at hz
  obtain ⟨Z, hZ⟩ : ∃ o, o = z1 * z2 := ⟨_, rfl⟩
  rw [← hZ] at hz ⊢
  have HZ := Lib.hid hz.symm
  have HG1 := hide G1; have HG2 := hide G2; have HB1 := hide B1; have HB2 := hide B2; have HLEN := hide LEN
  have ngE := hng.symm
  clear hm1 hm2 hoo1 hoo2 ho1 hop hng hz hZ G1 G2 B1 B2 h1 h2 hbnd1 hbnd2 LEN hl1 hl2
  by_cases hs : l1.length = 0 ∧ l2.length = 0
  · obtain ⟨a1, a2⟩ := hs
    rw [decide_eq_true a1] at HS1
    rw [decide_eq_true a2] at HS2
    obtain ⟨y1, y2⟩ := hsz1 a1
    obtain ⟨y3, y4⟩ := hsz2 a2
    rw [y1] at Z1
    rw [y3] at Z2
    have hB1 : m1 < B64 := by have := y2; rw [M63_eq] at this; rw [B64_eq]; omega
    have hB2 : m2 < B64 := by have := y4; rw [M63_eq] at this; rw [B64_eq]; omega
    obtain ⟨hi', hhi⟩ : ∃ t, t = m1 * m2 / B64 := ⟨_, rfl⟩
    obtain ⟨lo, hlo⟩ : ∃ t, t = m1 * m2 % B64 := ⟨_, rfl⟩
    have hM := mul64_any m1 m2 hB1 hB2
    rw [← hhi, ← hlo] at hM
    have HM := hide hM
    have hloB : lo < B64 := by rw [hlo]; exact Nat.mod_lt _ (Nat.lt_trans Nat.zero_lt_one B64_pos)
    have HW := hide (fun W => word_any ng lo hloB W)
    have hdm : hi' = 0 → lo = m1 * m2 := fun h => by
      have := Nat.div_add_mod (m1 * m2) B64
      rw [← hhi, ← hlo, h] at this
      omega
    by_cases hh : hi' = 0
    · have hb0 : ((hi' : Int) == 0) = true := beq_iff_eq.2 (by omega)
      have hW' : ∀ W, Calls Tryd.prog 71 #[.bool ng, .int .u64 ((lo : Nat) : Int)] W fun e w' => IntR W Z e w' := fun W => by
        have := (unhide HW) W
        rw [hdm hh] at this ⊢
        rw [HZ.out]; exact this
      have HWW := hide hW'
      clear hW' HW hdm hh hlo hhi hM hB1 hB2 hloB y1 y2 y3 y4 hsz1 hsz2 a1 a2
      go_enter Tryd.func74, Tryd.ntmps74
      go_wp2_with fail
      obtain ⟨n1, n2, n3, hsz, hw0⟩ := three_new w (.cells #[.int .i64 s1, .bool neg1, .slice A1 l1.length c1] 58) (.cells #[.int .i64 s2, .bool neg2, .slice A2 l2.length c2] 58) (.cells #[.int .i64 0, .bool false, .slice none 0 0] 58)
      generalize (((w.alloc (.cells #[.int .i64 s1, .bool neg1, .slice A1 l1.length c1] 58)).alloc (.cells #[.int .i64 s2, .bool neg2, .slice A2 l2.length c2] 58)).alloc (.cells #[.int .i64 0, .bool false, .slice none 0 0] 58)) = W0 at *
      have k1 := cells_of n1 0
      have k2 := cells_of n1 1
      have k3 := cells_of n1 2
      simp only [Array.getElem?_eq_getElem, three0, three1, three2] at k1 k2 k3
      have k4 := cells_of n2 0
      have k5 := cells_of n2 1
      have k6 := cells_of n2 2
      simp only [Array.getElem?_eq_getElem, three0, three1, three2] at k4 k5 k6
      have q0 : w.heap.size < W0.heap.size := by omega
      have q1 : w.heap.size + 1 < W0.heap.size := by omega
      have q2 : w.heap.size + 1 + 1 < W0.heap.size := by omega
      have k7 := cells_of n3 0
      have k8 := cells_of n3 1
      have k9 := cells_of n3 2
      simp only [Array.getElem?_eq_getElem, three0, three1, three2] at k7 k8 k9
      have f7 := unfrozen_of n3 0
      have f8 := unfrozen_of n3 1
      have f9 := unfrozen_of n3 2
      have N3 := Lib.hid n3
      clear n3
      clear n1 n2
      have G1 := (unhide HG1) W0 hw0; have G2 := (unhide HG2) W0 hw0; have B1 := (unhide HB1) W0 hw0; have B2 := (unhide HB2) W0 hw0
      go_region_held3 (fun w' => w'.cell? ⟨w.heap.size, 0, none⟩ = some (.int .i64 s1) ∧ w'.cell? ⟨w.heap.size, 1, none⟩ = some (.bool neg1) ∧ w'.cell? ⟨w.heap.size, 2, none⟩ = some (.slice A1 l1.length c1) ∧ w'.cell? ⟨w.heap.size + 1, 0, none⟩ = some (.int .i64 s2) ∧ w'.cell? ⟨w.heap.size + 1, 1, none⟩ = some (.bool neg2) ∧ w'.cell? ⟨w.heap.size + 1, 2, none⟩ = some (.slice A2 l2.length c2)) ((first | exact ⟨(hc _ _ q0).trans k1, (hc _ _ q0).trans k2, (hc _ _ q0).trans k3, (hc _ _ q1).trans k4, (hc _ _ q1).trans k5, (hc _ _ q1).trans k6⟩ | exact ⟨k1, k2, k3, k4, k5, k6⟩)) (first | (go_at_call_of 68 (Value.agg #[.int .i64 s1, .bool neg1, .slice A1 l1.length c1]); refine ((unhide G1) _ (by (first | assumption | (repeat (first | exact Below.refl _ _ | assumption | refine Below.drew ?_ | (refine Below.alloc ?_ (by simp <;> omega) _)))))).mono ?_; rintro e w' ⟨rfl, hb⟩; have hbw := below_step (w := W0) (by (first | assumption | (repeat (first | exact Below.refl _ _ | assumption | refine Below.drew ?_ | (refine Below.alloc ?_ (by simp <;> omega) _))))) hb; obtain ⟨hc, hfz⟩ := bcell hbw) | (go_at_call_of 68 (Value.agg #[.int .i64 s2, .bool neg2, .slice A2 l2.length c2]); refine ((unhide G2) _ (by (first | assumption | (repeat (first | exact Below.refl _ _ | assumption | refine Below.drew ?_ | (refine Below.alloc ?_ (by simp <;> omega) _)))))).mono ?_; rintro e w' ⟨rfl, hb⟩; have hbw := below_step (w := W0) (by (first | assumption | (repeat (first | exact Below.refl _ _ | assumption | refine Below.drew ?_ | (refine Below.alloc ?_ (by simp <;> omega) _))))) hb; obtain ⟨hc, hfz⟩ := bcell hbw))
      go_wp2_with fail
      refine ((unhide HS1) _).mono ?_
      rintro e w1 ⟨rfl, hw1⟩
      have hbw1 := below_eq (w := W0) (by (first | assumption | (repeat (first | exact Below.refl _ _ | assumption | refine Below.drew ?_ | (refine Below.alloc ?_ (by simp <;> omega) _))))) hw1
      obtain ⟨hc, hfz⟩ := bcell hbw1
      clear hw1
      go_wp2_with fail
      refine ((unhide HS2) _).mono ?_
      rintro e w2 ⟨rfl, hw2⟩
      have hbw2 := below_eq (w := W0) (by (first | assumption | (repeat (first | exact Below.refl _ _ | assumption | refine Below.drew ?_ | (refine Below.alloc ?_ (by simp <;> omega) _))))) hw2
      obtain ⟨hc, hfz⟩ := bcell hbw2
      clear hw2
      go_wp2_with fail
      go_region_held3 (fun w' => w'.cell? ⟨w.heap.size, 0, none⟩ = some (.int .i64 s1) ∧ w'.cell? ⟨w.heap.size, 1, none⟩ = some (.bool neg1) ∧ w'.cell? ⟨w.heap.size, 2, none⟩ = some (.slice A1 l1.length c1) ∧ w'.cell? ⟨w.heap.size + 1, 0, none⟩ = some (.int .i64 s2) ∧ w'.cell? ⟨w.heap.size + 1, 1, none⟩ = some (.bool neg2) ∧ w'.cell? ⟨w.heap.size + 1, 2, none⟩ = some (.slice A2 l2.length c2)) ((first | exact ⟨(hc _ _ q0).trans k1, (hc _ _ q0).trans k2, (hc _ _ q0).trans k3, (hc _ _ q1).trans k4, (hc _ _ q1).trans k5, (hc _ _ q1).trans k6⟩ | exact ⟨k1, k2, k3, k4, k5, k6⟩)) (first | (go_at_call_of 72 (Value.int .i64 s1); refine ((unhide Z1) _).mono ?_; rintro e w' ⟨rfl, hw9⟩; subst hw9) | (go_at_call_of 72 (Value.int .i64 s2); refine ((unhide Z2) _).mono ?_; rintro e w' ⟨rfl, hw9⟩; subst hw9) | (go_at_call 105; refine ((unhide HM) _).mono ?_; rintro e w' ⟨rfl, hw9⟩; subst hw9))
      go_wp2_with fail
      refine ((unhide HWW) _).mono ?_
      rintro e w' ⟨s, neg', A', cap', l', rfl, hf, hb⟩
      have hbw := below_step (w := W0) (by (first | assumption | (repeat (first | exact Below.refl _ _ | assumption | refine Below.drew ?_ | (refine Below.alloc ?_ (by simp <;> omega) _))))) hb
      obtain ⟨hc, hfz⟩ := bcell hbw
      have hblk : w'.heap[w.heap.size + 1 + 1]? = some (.cells #[.int .i64 0, .bool false, .slice none 0 0] 58 (0, 0)) := (hbw.block _ q2).trans N3.out
      have HBLK := Lib.hid hblk
      have hb9 : Below w.heap.size w w' := below_step' hw0 hbw
      clear hblk
      go_wp2_with fail
      exact bodyPost_ret (v := .agg #[.int .i64 s, .bool neg', .slice A' l'.length cap']) (by simp [results, Tryd.results74, go_sem, hc, k7, k8, k9, q2]) rfl
        ⟨s, neg', A', cap', l', rfl, hf.upto HBLK.out (noWord3 _ _ _ _ _) (set3_grown _ _ _ _ _), hb9.grown (set3_grown _ _ _ _ _) hb9.size (fun k hk => by injection hk with hk; omega)⟩
    · have hb0 : ((hi' : Int) == 0) = false := beq_eq_false_iff_ne.2 (by omega)
      clear HW hdm hh hlo hhi hM hB1 hB2 hloB y1 y2 y3 y4 hsz1 hsz2 a1 a2
      go_enter Tryd.func74, Tryd.ntmps74
      go_wp2_with fail
      obtain ⟨n1, n2, n3, hsz, hw0⟩ := three_new w (.cells #[.int .i64 s1, .bool neg1, .slice A1 l1.length c1] 58) (.cells #[.int .i64 s2, .bool neg2, .slice A2 l2.length c2] 58) (.cells #[.int .i64 0, .bool false, .slice none 0 0] 58)
      generalize (((w.alloc (.cells #[.int .i64 s1, .bool neg1, .slice A1 l1.length c1] 58)).alloc (.cells #[.int .i64 s2, .bool neg2, .slice A2 l2.length c2] 58)).alloc (.cells #[.int .i64 0, .bool false, .slice none 0 0] 58)) = W0 at *
      have k1 := cells_of n1 0
      have k2 := cells_of n1 1
      have k3 := cells_of n1 2
      simp only [Array.getElem?_eq_getElem, three0, three1, three2] at k1 k2 k3
      have k4 := cells_of n2 0
      have k5 := cells_of n2 1
      have k6 := cells_of n2 2
      simp only [Array.getElem?_eq_getElem, three0, three1, three2] at k4 k5 k6
      have q0 : w.heap.size < W0.heap.size := by omega
      have q1 : w.heap.size + 1 < W0.heap.size := by omega
      have q2 : w.heap.size + 1 + 1 < W0.heap.size := by omega
      have k7 := cells_of n3 0
      have k8 := cells_of n3 1
      have k9 := cells_of n3 2
      simp only [Array.getElem?_eq_getElem, three0, three1, three2] at k7 k8 k9
      have f7 := unfrozen_of n3 0
      have f8 := unfrozen_of n3 1
      have f9 := unfrozen_of n3 2
      have N3 := Lib.hid n3
      clear n3
      clear n1 n2
      have G1 := (unhide HG1) W0 hw0; have G2 := (unhide HG2) W0 hw0; have B1 := (unhide HB1) W0 hw0; have B2 := (unhide HB2) W0 hw0
      go_region_held3 (fun w' => w'.cell? ⟨w.heap.size, 0, none⟩ = some (.int .i64 s1) ∧ w'.cell? ⟨w.heap.size, 1, none⟩ = some (.bool neg1) ∧ w'.cell? ⟨w.heap.size, 2, none⟩ = some (.slice A1 l1.length c1) ∧ w'.cell? ⟨w.heap.size + 1, 0, none⟩ = some (.int .i64 s2) ∧ w'.cell? ⟨w.heap.size + 1, 1, none⟩ = some (.bool neg2) ∧ w'.cell? ⟨w.heap.size + 1, 2, none⟩ = some (.slice A2 l2.length c2)) ((first | exact ⟨(hc _ _ q0).trans k1, (hc _ _ q0).trans k2, (hc _ _ q0).trans k3, (hc _ _ q1).trans k4, (hc _ _ q1).trans k5, (hc _ _ q1).trans k6⟩ | exact ⟨k1, k2, k3, k4, k5, k6⟩)) (first | (go_at_call_of 68 (Value.agg #[.int .i64 s1, .bool neg1, .slice A1 l1.length c1]); refine ((unhide G1) _ (by (first | assumption | (repeat (first | exact Below.refl _ _ | assumption | refine Below.drew ?_ | (refine Below.alloc ?_ (by simp <;> omega) _)))))).mono ?_; rintro e w' ⟨rfl, hb⟩; have hbw := below_step (w := W0) (by (first | assumption | (repeat (first | exact Below.refl _ _ | assumption | refine Below.drew ?_ | (refine Below.alloc ?_ (by simp <;> omega) _))))) hb; obtain ⟨hc, hfz⟩ := bcell hbw) | (go_at_call_of 68 (Value.agg #[.int .i64 s2, .bool neg2, .slice A2 l2.length c2]); refine ((unhide G2) _ (by (first | assumption | (repeat (first | exact Below.refl _ _ | assumption | refine Below.drew ?_ | (refine Below.alloc ?_ (by simp <;> omega) _)))))).mono ?_; rintro e w' ⟨rfl, hb⟩; have hbw := below_step (w := W0) (by (first | assumption | (repeat (first | exact Below.refl _ _ | assumption | refine Below.drew ?_ | (refine Below.alloc ?_ (by simp <;> omega) _))))) hb; obtain ⟨hc, hfz⟩ := bcell hbw))
      go_wp2_with fail
      refine ((unhide HS1) _).mono ?_
      rintro e w1 ⟨rfl, hw1⟩
      have hbw1 := below_eq (w := W0) (by (first | assumption | (repeat (first | exact Below.refl _ _ | assumption | refine Below.drew ?_ | (refine Below.alloc ?_ (by simp <;> omega) _))))) hw1
      obtain ⟨hc, hfz⟩ := bcell hbw1
      clear hw1
      go_wp2_with fail
      refine ((unhide HS2) _).mono ?_
      rintro e w2 ⟨rfl, hw2⟩
      have hbw2 := below_eq (w := W0) (by (first | assumption | (repeat (first | exact Below.refl _ _ | assumption | refine Below.drew ?_ | (refine Below.alloc ?_ (by simp <;> omega) _))))) hw2
      obtain ⟨hc, hfz⟩ := bcell hbw2
      clear hw2
      go_wp2_with fail
      go_region_held3 (fun w' => w'.cell? ⟨w.heap.size, 0, none⟩ = some (.int .i64 s1) ∧ w'.cell? ⟨w.heap.size, 1, none⟩ = some (.bool neg1) ∧ w'.cell? ⟨w.heap.size, 2, none⟩ = some (.slice A1 l1.length c1) ∧ w'.cell? ⟨w.heap.size + 1, 0, none⟩ = some (.int .i64 s2) ∧ w'.cell? ⟨w.heap.size + 1, 1, none⟩ = some (.bool neg2) ∧ w'.cell? ⟨w.heap.size + 1, 2, none⟩ = some (.slice A2 l2.length c2)) ((first | exact ⟨(hc _ _ q0).trans k1, (hc _ _ q0).trans k2, (hc _ _ q0).trans k3, (hc _ _ q1).trans k4, (hc _ _ q1).trans k5, (hc _ _ q1).trans k6⟩ | exact ⟨k1, k2, k3, k4, k5, k6⟩)) (first | (go_at_call_of 72 (Value.int .i64 s1); refine ((unhide Z1) _).mono ?_; rintro e w' ⟨rfl, hw9⟩; subst hw9) | (go_at_call_of 72 (Value.int .i64 s2); refine ((unhide Z2) _).mono ?_; rintro e w' ⟨rfl, hw9⟩; subst hw9) | (go_at_call 105; refine ((unhide HM) _).mono ?_; rintro e w' ⟨rfl, hw9⟩; subst hw9))
      go_wp2_with fail
      go_region_with (first | (go_at_call_of 100 (Value.agg #[.int .i64 s1, .bool neg1, .slice A1 l1.length c1]); refine ((unhide B1) _ (by (first | assumption | (repeat (first | exact Below.refl _ _ | assumption | refine Below.drew ?_ | (refine Below.alloc ?_ (by simp <;> omega) _)))))).mono ?_; rintro e w' ⟨A5, cap5, l5, rfl, hn5, hb⟩; have hbw := below_step (w := W0) (by (first | assumption | (repeat (first | exact Below.refl _ _ | assumption | refine Below.drew ?_ | (refine Below.alloc ?_ (by simp <;> omega) _))))) hb; obtain ⟨hc, hfz⟩ := bcell hbw) | (go_at_call_of 100 (Value.agg #[.int .i64 s2, .bool neg2, .slice A2 l2.length c2]); refine ((unhide B2) _ (by (first | assumption | (repeat (first | exact Below.refl _ _ | assumption | refine Below.drew ?_ | (refine Below.alloc ?_ (by simp <;> omega) _)))))).mono ?_; rintro e w' ⟨A6, cap6, l6, rfl, hn6, hb⟩; have hn5' := hn5.below hb; have hbw := below_step (w := W0) (by (first | assumption | (repeat (first | exact Below.refl _ _ | assumption | refine Below.drew ?_ | (refine Below.alloc ?_ (by simp <;> omega) _))))) hb; obtain ⟨hc, hfz⟩ := bcell hbw) | (go_at_call 106; refine (mul_any A5 A6 cap5 cap6 l5 l6 m1 m2 _ (by exact hn5') (by exact hn6) ((unhide HLEN) _ _ _ _ _ _ _ hn5' hn6)).mono ?_; rintro e w' ⟨A7, cap7, l7, rfl, hn7, hb⟩; have hbw := below_step (w := W0) (by (first | assumption | (repeat (first | exact Below.refl _ _ | assumption | refine Below.drew ?_ | (refine Below.alloc ?_ (by simp <;> omega) _))))) hb; obtain ⟨hc, hfz⟩ := bcell hbw) | (go_at_call 99; refine (signed_any ng A7 cap7 l7 (m1 * m2) _ (by exact hn7)).mono ?_; rw [← HZ.out]; rintro e w' ⟨s, neg', A', cap', l', rfl, hf, hb⟩; have hbw := below_step (w := W0) (by (first | assumption | (repeat (first | exact Below.refl _ _ | assumption | refine Below.drew ?_ | (refine Below.alloc ?_ (by simp <;> omega) _))))) hb; obtain ⟨hc, hfz⟩ := bcell hbw))
      all_goals
        have hblk : w'.heap[w.heap.size + 1 + 1]? = some (.cells #[.int .i64 0, .bool false, .slice none 0 0] 58 (0, 0)) := (hbw.block _ q2).trans N3.out
        have HBLK := Lib.hid hblk
        have hb9 : Below w.heap.size w w' := below_step' hw0 hbw
        clear hblk
        go_wp2_with fail
        exact bodyPost_ret (v := .agg #[.int .i64 s, .bool neg', .slice A' l'.length cap']) (by simp [results, Tryd.results74, go_sem, hc, k7, k8, k9, q2]) rfl
          ⟨s, neg', A', cap', l', rfl, hf.upto HBLK.out (noWord3 _ _ _ _ _) (set3_grown _ _ _ _ _), hb9.grown (set3_grown _ _ _ _ _) hb9.size (fun k hk => by injection hk with hk; omega)⟩
  · by_cases a1 : l1.length = 0
    · have a2 : ¬ l2.length = 0 := fun h => hs ⟨a1, h⟩
      rw [decide_eq_true a1] at HS1
      rw [decide_eq_false a2] at HS2
      clear hsz1 hsz2 hs a1 a2
      go_enter Tryd.func74, Tryd.ntmps74
      go_wp2_with fail
      obtain ⟨n1, n2, n3, hsz, hw0⟩ := three_new w (.cells #[.int .i64 s1, .bool neg1, .slice A1 l1.length c1] 58) (.cells #[.int .i64 s2, .bool neg2, .slice A2 l2.length c2] 58) (.cells #[.int .i64 0, .bool false, .slice none 0 0] 58)
      generalize (((w.alloc (.cells #[.int .i64 s1, .bool neg1, .slice A1 l1.length c1] 58)).alloc (.cells #[.int .i64 s2, .bool neg2, .slice A2 l2.length c2] 58)).alloc (.cells #[.int .i64 0, .bool false, .slice none 0 0] 58)) = W0 at *
      have k1 := cells_of n1 0
      have k2 := cells_of n1 1
      have k3 := cells_of n1 2
      simp only [Array.getElem?_eq_getElem, three0, three1, three2] at k1 k2 k3
      have k4 := cells_of n2 0
      have k5 := cells_of n2 1
      have k6 := cells_of n2 2
      simp only [Array.getElem?_eq_getElem, three0, three1, three2] at k4 k5 k6
      have q0 : w.heap.size < W0.heap.size := by omega
      have q1 : w.heap.size + 1 < W0.heap.size := by omega
      have q2 : w.heap.size + 1 + 1 < W0.heap.size := by omega
      have k7 := cells_of n3 0
      have k8 := cells_of n3 1
      have k9 := cells_of n3 2
      simp only [Array.getElem?_eq_getElem, three0, three1, three2] at k7 k8 k9
      have f7 := unfrozen_of n3 0
      have f8 := unfrozen_of n3 1
      have f9 := unfrozen_of n3 2
      have N3 := Lib.hid n3
      clear n3
      clear n1 n2
      have G1 := (unhide HG1) W0 hw0; have G2 := (unhide HG2) W0 hw0; have B1 := (unhide HB1) W0 hw0; have B2 := (unhide HB2) W0 hw0
      go_region_held3 (fun w' => w'.cell? ⟨w.heap.size, 0, none⟩ = some (.int .i64 s1) ∧ w'.cell? ⟨w.heap.size, 1, none⟩ = some (.bool neg1) ∧ w'.cell? ⟨w.heap.size, 2, none⟩ = some (.slice A1 l1.length c1) ∧ w'.cell? ⟨w.heap.size + 1, 0, none⟩ = some (.int .i64 s2) ∧ w'.cell? ⟨w.heap.size + 1, 1, none⟩ = some (.bool neg2) ∧ w'.cell? ⟨w.heap.size + 1, 2, none⟩ = some (.slice A2 l2.length c2)) ((first | exact ⟨(hc _ _ q0).trans k1, (hc _ _ q0).trans k2, (hc _ _ q0).trans k3, (hc _ _ q1).trans k4, (hc _ _ q1).trans k5, (hc _ _ q1).trans k6⟩ | exact ⟨k1, k2, k3, k4, k5, k6⟩)) (first | (go_at_call_of 68 (Value.agg #[.int .i64 s1, .bool neg1, .slice A1 l1.length c1]); refine ((unhide G1) _ (by (first | assumption | (repeat (first | exact Below.refl _ _ | assumption | refine Below.drew ?_ | (refine Below.alloc ?_ (by simp <;> omega) _)))))).mono ?_; rintro e w' ⟨rfl, hb⟩; have hbw := below_step (w := W0) (by (first | assumption | (repeat (first | exact Below.refl _ _ | assumption | refine Below.drew ?_ | (refine Below.alloc ?_ (by simp <;> omega) _))))) hb; obtain ⟨hc, hfz⟩ := bcell hbw) | (go_at_call_of 68 (Value.agg #[.int .i64 s2, .bool neg2, .slice A2 l2.length c2]); refine ((unhide G2) _ (by (first | assumption | (repeat (first | exact Below.refl _ _ | assumption | refine Below.drew ?_ | (refine Below.alloc ?_ (by simp <;> omega) _)))))).mono ?_; rintro e w' ⟨rfl, hb⟩; have hbw := below_step (w := W0) (by (first | assumption | (repeat (first | exact Below.refl _ _ | assumption | refine Below.drew ?_ | (refine Below.alloc ?_ (by simp <;> omega) _))))) hb; obtain ⟨hc, hfz⟩ := bcell hbw))
      go_wp2_with fail
      refine ((unhide HS1) _).mono ?_
      rintro e w1 ⟨rfl, hw1⟩
      have hbw1 := below_eq (w := W0) (by (first | assumption | (repeat (first | exact Below.refl _ _ | assumption | refine Below.drew ?_ | (refine Below.alloc ?_ (by simp <;> omega) _))))) hw1
      obtain ⟨hc, hfz⟩ := bcell hbw1
      clear hw1
      go_wp2_with fail
      refine ((unhide HS2) _).mono ?_
      rintro e w2 ⟨rfl, hw2⟩
      have hbw2 := below_eq (w := W0) (by (first | assumption | (repeat (first | exact Below.refl _ _ | assumption | refine Below.drew ?_ | (refine Below.alloc ?_ (by simp <;> omega) _))))) hw2
      obtain ⟨hc, hfz⟩ := bcell hbw2
      clear hw2
      go_wp2_with fail
      go_region_with (first | (go_at_call_of 100 (Value.agg #[.int .i64 s1, .bool neg1, .slice A1 l1.length c1]); refine ((unhide B1) _ (by (first | assumption | (repeat (first | exact Below.refl _ _ | assumption | refine Below.drew ?_ | (refine Below.alloc ?_ (by simp <;> omega) _)))))).mono ?_; rintro e w' ⟨A5, cap5, l5, rfl, hn5, hb⟩; have hbw := below_step (w := W0) (by (first | assumption | (repeat (first | exact Below.refl _ _ | assumption | refine Below.drew ?_ | (refine Below.alloc ?_ (by simp <;> omega) _))))) hb; obtain ⟨hc, hfz⟩ := bcell hbw) | (go_at_call_of 100 (Value.agg #[.int .i64 s2, .bool neg2, .slice A2 l2.length c2]); refine ((unhide B2) _ (by (first | assumption | (repeat (first | exact Below.refl _ _ | assumption | refine Below.drew ?_ | (refine Below.alloc ?_ (by simp <;> omega) _)))))).mono ?_; rintro e w' ⟨A6, cap6, l6, rfl, hn6, hb⟩; have hn5' := hn5.below hb; have hbw := below_step (w := W0) (by (first | assumption | (repeat (first | exact Below.refl _ _ | assumption | refine Below.drew ?_ | (refine Below.alloc ?_ (by simp <;> omega) _))))) hb; obtain ⟨hc, hfz⟩ := bcell hbw) | (go_at_call 106; refine (mul_any A5 A6 cap5 cap6 l5 l6 m1 m2 _ (by exact hn5') (by exact hn6) ((unhide HLEN) _ _ _ _ _ _ _ hn5' hn6)).mono ?_; rintro e w' ⟨A7, cap7, l7, rfl, hn7, hb⟩; have hbw := below_step (w := W0) (by (first | assumption | (repeat (first | exact Below.refl _ _ | assumption | refine Below.drew ?_ | (refine Below.alloc ?_ (by simp <;> omega) _))))) hb; obtain ⟨hc, hfz⟩ := bcell hbw) | (go_at_call 99; refine (signed_any ng A7 cap7 l7 (m1 * m2) _ (by exact hn7)).mono ?_; rw [← HZ.out]; rintro e w' ⟨s, neg', A', cap', l', rfl, hf, hb⟩; have hbw := below_step (w := W0) (by (first | assumption | (repeat (first | exact Below.refl _ _ | assumption | refine Below.drew ?_ | (refine Below.alloc ?_ (by simp <;> omega) _))))) hb; obtain ⟨hc, hfz⟩ := bcell hbw))
      all_goals
        have hblk : w'.heap[w.heap.size + 1 + 1]? = some (.cells #[.int .i64 0, .bool false, .slice none 0 0] 58 (0, 0)) := (hbw.block _ q2).trans N3.out
        have HBLK := Lib.hid hblk
        have hb9 : Below w.heap.size w w' := below_step' hw0 hbw
        clear hblk
        go_wp2_with fail
        exact bodyPost_ret (v := .agg #[.int .i64 s, .bool neg', .slice A' l'.length cap']) (by simp [results, Tryd.results74, go_sem, hc, k7, k8, k9, q2]) rfl
          ⟨s, neg', A', cap', l', rfl, hf.upto HBLK.out (noWord3 _ _ _ _ _) (set3_grown _ _ _ _ _), hb9.grown (set3_grown _ _ _ _ _) hb9.size (fun k hk => by injection hk with hk; omega)⟩
    · skip
      rw [decide_eq_false a1] at HS1
      clear hsz1 hsz2 hs a1
      go_enter Tryd.func74, Tryd.ntmps74
      go_wp2_with fail
      obtain ⟨n1, n2, n3, hsz, hw0⟩ := three_new w (.cells #[.int .i64 s1, .bool neg1, .slice A1 l1.length c1] 58) (.cells #[.int .i64 s2, .bool neg2, .slice A2 l2.length c2] 58) (.cells #[.int .i64 0, .bool false, .slice none 0 0] 58)
      generalize (((w.alloc (.cells #[.int .i64 s1, .bool neg1, .slice A1 l1.length c1] 58)).alloc (.cells #[.int .i64 s2, .bool neg2, .slice A2 l2.length c2] 58)).alloc (.cells #[.int .i64 0, .bool false, .slice none 0 0] 58)) = W0 at *
      have k1 := cells_of n1 0
      have k2 := cells_of n1 1
      have k3 := cells_of n1 2
      simp only [Array.getElem?_eq_getElem, three0, three1, three2] at k1 k2 k3
      have k4 := cells_of n2 0
      have k5 := cells_of n2 1
      have k6 := cells_of n2 2
      simp only [Array.getElem?_eq_getElem, three0, three1, three2] at k4 k5 k6
      have q0 : w.heap.size < W0.heap.size := by omega
      have q1 : w.heap.size + 1 < W0.heap.size := by omega
      have q2 : w.heap.size + 1 + 1 < W0.heap.size := by omega
      have k7 := cells_of n3 0
      have k8 := cells_of n3 1
      have k9 := cells_of n3 2
      simp only [Array.getElem?_eq_getElem, three0, three1, three2] at k7 k8 k9
      have f7 := unfrozen_of n3 0
      have f8 := unfrozen_of n3 1
      have f9 := unfrozen_of n3 2
      have N3 := Lib.hid n3
      clear n3
      clear n1 n2
      have G1 := (unhide HG1) W0 hw0; have G2 := (unhide HG2) W0 hw0; have B1 := (unhide HB1) W0 hw0; have B2 := (unhide HB2) W0 hw0
      go_region_held3 (fun w' => w'.cell? ⟨w.heap.size, 0, none⟩ = some (.int .i64 s1) ∧ w'.cell? ⟨w.heap.size, 1, none⟩ = some (.bool neg1) ∧ w'.cell? ⟨w.heap.size, 2, none⟩ = some (.slice A1 l1.length c1) ∧ w'.cell? ⟨w.heap.size + 1, 0, none⟩ = some (.int .i64 s2) ∧ w'.cell? ⟨w.heap.size + 1, 1, none⟩ = some (.bool neg2) ∧ w'.cell? ⟨w.heap.size + 1, 2, none⟩ = some (.slice A2 l2.length c2)) ((first | exact ⟨(hc _ _ q0).trans k1, (hc _ _ q0).trans k2, (hc _ _ q0).trans k3, (hc _ _ q1).trans k4, (hc _ _ q1).trans k5, (hc _ _ q1).trans k6⟩ | exact ⟨k1, k2, k3, k4, k5, k6⟩)) (first | (go_at_call_of 68 (Value.agg #[.int .i64 s1, .bool neg1, .slice A1 l1.length c1]); refine ((unhide G1) _ (by (first | assumption | (repeat (first | exact Below.refl _ _ | assumption | refine Below.drew ?_ | (refine Below.alloc ?_ (by simp <;> omega) _)))))).mono ?_; rintro e w' ⟨rfl, hb⟩; have hbw := below_step (w := W0) (by (first | assumption | (repeat (first | exact Below.refl _ _ | assumption | refine Below.drew ?_ | (refine Below.alloc ?_ (by simp <;> omega) _))))) hb; obtain ⟨hc, hfz⟩ := bcell hbw) | (go_at_call_of 68 (Value.agg #[.int .i64 s2, .bool neg2, .slice A2 l2.length c2]); refine ((unhide G2) _ (by (first | assumption | (repeat (first | exact Below.refl _ _ | assumption | refine Below.drew ?_ | (refine Below.alloc ?_ (by simp <;> omega) _)))))).mono ?_; rintro e w' ⟨rfl, hb⟩; have hbw := below_step (w := W0) (by (first | assumption | (repeat (first | exact Below.refl _ _ | assumption | refine Below.drew ?_ | (refine Below.alloc ?_ (by simp <;> omega) _))))) hb; obtain ⟨hc, hfz⟩ := bcell hbw))
      go_wp2_with fail
      refine ((unhide HS1) _).mono ?_
      rintro e w1 ⟨rfl, hw1⟩
      have hbw1 := below_eq (w := W0) (by (first | assumption | (repeat (first | exact Below.refl _ _ | assumption | refine Below.drew ?_ | (refine Below.alloc ?_ (by simp <;> omega) _))))) hw1
      obtain ⟨hc, hfz⟩ := bcell hbw1
      clear hw1
      go_wp2_with fail
      go_region_with (first | (go_at_call_of 100 (Value.agg #[.int .i64 s1, .bool neg1, .slice A1 l1.length c1]); refine ((unhide B1) _ (by (first | assumption | (repeat (first | exact Below.refl _ _ | assumption | refine Below.drew ?_ | (refine Below.alloc ?_ (by simp <;> omega) _)))))).mono ?_; rintro e w' ⟨A5, cap5, l5, rfl, hn5, hb⟩; have hbw := below_step (w := W0) (by (first | assumption | (repeat (first | exact Below.refl _ _ | assumption | refine Below.drew ?_ | (refine Below.alloc ?_ (by simp <;> omega) _))))) hb; obtain ⟨hc, hfz⟩ := bcell hbw) | (go_at_call_of 100 (Value.agg #[.int .i64 s2, .bool neg2, .slice A2 l2.length c2]); refine ((unhide B2) _ (by (first | assumption | (repeat (first | exact Below.refl _ _ | assumption | refine Below.drew ?_ | (refine Below.alloc ?_ (by simp <;> omega) _)))))).mono ?_; rintro e w' ⟨A6, cap6, l6, rfl, hn6, hb⟩; have hn5' := hn5.below hb; have hbw := below_step (w := W0) (by (first | assumption | (repeat (first | exact Below.refl _ _ | assumption | refine Below.drew ?_ | (refine Below.alloc ?_ (by simp <;> omega) _))))) hb; obtain ⟨hc, hfz⟩ := bcell hbw) | (go_at_call 106; refine (mul_any A5 A6 cap5 cap6 l5 l6 m1 m2 _ (by exact hn5') (by exact hn6) ((unhide HLEN) _ _ _ _ _ _ _ hn5' hn6)).mono ?_; rintro e w' ⟨A7, cap7, l7, rfl, hn7, hb⟩; have hbw := below_step (w := W0) (by (first | assumption | (repeat (first | exact Below.refl _ _ | assumption | refine Below.drew ?_ | (refine Below.alloc ?_ (by simp <;> omega) _))))) hb; obtain ⟨hc, hfz⟩ := bcell hbw) | (go_at_call 99; refine (signed_any ng A7 cap7 l7 (m1 * m2) _ (by exact hn7)).mono ?_; rw [← HZ.out]; rintro e w' ⟨s, neg', A', cap', l', rfl, hf, hb⟩; have hbw := below_step (w := W0) (by (first | assumption | (repeat (first | exact Below.refl _ _ | assumption | refine Below.drew ?_ | (refine Below.alloc ?_ (by simp <;> omega) _))))) hb; obtain ⟨hc, hfz⟩ := bcell hbw))
      all_goals
        have hblk : w'.heap[w.heap.size + 1 + 1]? = some (.cells #[.int .i64 0, .bool false, .slice none 0 0] 58 (0, 0)) := (hbw.block _ q2).trans N3.out
        have HBLK := Lib.hid hblk
        have hb9 : Below w.heap.size w w' := below_step' hw0 hbw
        clear hblk
        go_wp2_with fail
        exact bodyPost_ret (v := .agg #[.int .i64 s, .bool neg', .slice A' l'.length cap']) (by simp [results, Tryd.results74, go_sem, hc, k7, k8, k9, q2]) rfl
          ⟨s, neg', A', cap', l', rfl, hf.upto HBLK.out (noWord3 _ _ _ _ _) (set3_grown _ _ _ _ _), hb9.grown (set3_grown _ _ _ _ _) hb9.size (fun k hk => by injection hk with hk; omega)⟩

end Go.Proofs.YtaaccgjopcgbfaaDoor
/- Blocks that hold whole numbers; calls of two whole numbers. -/
namespace Go.Proofs.YtaaccgjopcgbfaaDoor
open Go.RowKit

/-- Block b is new beside Wp and has room for a whole number. -/
structure Fr (Wp W : World) (b : Nat) : Prop where
  old : Wp.heap.size ≤ b
  zero : W.heap[b]? = some (.cells #[.int .i64 0, .bool false, .slice none 0 0] 58 (0, 0))
theorem lt_of_block {W : World} {b : Nat} {o : Obj} (h : W.heap[b]? = some o) : b < W.heap.size := by
  rcases Nat.lt_or_ge b W.heap.size with hlt | hge
  · exact hlt
  · rw [Array.getElem?_eq_none hge] at h; cases h
theorem Fr.lt {Wp W : World} {b : Nat} (h : Fr Wp W b) : b < W.heap.size := lt_of_block h.zero
theorem Fr.drew {Wp W : World} {b : Nat} (h : Fr Wp W b) : Fr Wp W.drew b := ⟨h.old, h.zero⟩
theorem Fr.drewN {Wp W : World} {b : Nat} {n : Nat} (h : Fr Wp W b) : Fr Wp (W.drewN n) b := ⟨h.old, h.zero⟩
theorem Fr.below {Wp W w' : World} {b : Nat} (h : Fr Wp W b) (hb : Below W.heap.size W w') : Fr Wp w' b := ⟨h.old, (hb.block _ h.lt).trans h.zero⟩
theorem Fr.new {Wp W : World} {b : Nat} (hb : Below Wp.heap.size Wp W) (e : b = W.heap.size) : Fr Wp (W.alloc (.cells #[.int .i64 0, .bool false, .slice none 0 0] 58 (0, 0))) b := by
  subst e; exact ⟨hb.size, heap_alloc_new W _⟩
/-- Two such blocks. -/
structure Fr2 (Wp W : World) (b c : Nat) : Prop where
  one : Fr Wp W b
  two : Fr Wp W c
  ne : b ≠ c
theorem Fr2.drew {Wp W : World} {b c : Nat} (h : Fr2 Wp W b c) : Fr2 Wp W.drew b c := ⟨h.one.drew, h.two.drew, h.ne⟩
theorem Fr2.drewN {Wp W : World} {b c n : Nat} (h : Fr2 Wp W b c) : Fr2 Wp (W.drewN n) b c := ⟨h.one.drewN, h.two.drewN, h.ne⟩
theorem Fr2.below {Wp W w' : World} {b c : Nat} (h : Fr2 Wp W b c) (hb : Below W.heap.size W w') : Fr2 Wp w' b c := ⟨h.one.below hb, h.two.below hb, h.ne⟩
theorem Fr2.newR {Wp W : World} {b c : Nat} (h : Fr Wp W b) (e : c = W.heap.size) : Fr2 Wp (W.alloc (.cells #[.int .i64 0, .bool false, .slice none 0 0] 58 (0, 0))) b c := by
  have hl := h.lt
  have ho := h.old
  subst e
  exact ⟨⟨ho, (Below.heap_alloc W _ b hl).trans h.zero⟩, ⟨by omega, heap_alloc_new W _⟩, by omega⟩
theorem Fr2.newL {Wp W : World} {b c : Nat} (h : Fr Wp W c) (e : b = W.heap.size) : Fr2 Wp (W.alloc (.cells #[.int .i64 0, .bool false, .slice none 0 0] 58 (0, 0))) b c := by
  have hl := h.lt
  have ho := h.old
  subst e
  exact ⟨⟨by omega, heap_alloc_new W _⟩, ⟨ho, (Below.heap_alloc W _ c hl).trans h.zero⟩, by omega⟩

/-- Block b holds a whole number. -/
def BoxI (w : World) (b : Nat) (z : Int) : Prop := ∃ s neg A cap l, w.heap[b]? = some (.cells #[.int .i64 s, .bool neg, .slice A (List.length l) cap] 58 (0, 0)) ∧ IntF w s neg A cap l z
theorem BoxI.below {w w' : World} {b : Nat} {z : Int} (h : BoxI w b z) (hb : Below w.heap.size w w') : BoxI w' b z := by
  obtain ⟨s, neg, A, cap, l, h1, h2⟩ := h
  exact ⟨s, neg, A, cap, l, (hb.block _ (lt_of_block h1)).trans h1, h2.below hb⟩
theorem set3_block {W : World} {b : Nat} {a0 a1 a2 u0 u1 u2 : Value} {T : TypeId} (h : W.heap[b]? = some (.cells #[a0, a1, a2] T (0, 0))) : (((W.setCell ⟨b, 0, none⟩ u0).setCell ⟨b, 1, none⟩ u1).setCell ⟨b, 2, none⟩ u2).heap[b]? = some (.cells #[u0, u1, u2] T (0, 0)) := by
  simp [World.setCell, Array.getElem?_modify, h]
theorem BoxI.new {W : World} {b : Nat} {s1 : Int} {neg1 : Bool} {A1 : Option Addr} {c1 : Nat} {l1 : List Nat} {z1 : Int} (h1 : IntF W s1 neg1 A1 c1 l1 z1) (e : b = W.heap.size) : BoxI (W.alloc (.cells #[.int .i64 s1, .bool neg1, .slice A1 l1.length c1] 58)) b z1 := by
  subst e; exact ⟨s1, neg1, A1, c1, l1, heap_alloc_new W _, h1.below ((Below.refl _ _).alloc (Nat.le_refl _) _)⟩
theorem BoxI.alloc {W : World} {b : Nat} {z : Int} {o : Obj} (h : BoxI W b z) : BoxI (W.alloc o) b z := h.below ((Below.refl _ _).alloc (Nat.le_refl _) _)
theorem IntF.alloc {W : World} {o : Obj} {s1 : Int} {neg1 : Bool} {A1 : Option Addr} {c1 : Nat} {l1 : List Nat} {z1 : Int} (h1 : IntF W s1 neg1 A1 c1 l1 z1) : IntF (W.alloc o) s1 neg1 A1 c1 l1 z1 := h1.below ((Below.refl _ _).alloc (Nat.le_refl _) _)
theorem Fr.alloc {Wp W : World} {b : Nat} {o : Obj} (h : Fr Wp W b) : Fr Wp (W.alloc o) b := ⟨h.old, (Below.heap_alloc W _ b h.lt).trans h.zero⟩
theorem Fr.facts {Wp W : World} {b : Nat} (h : Fr Wp W b) : (W.cell? ⟨b, 0, none⟩ = some (.int .i64 0) ∧ W.cell? ⟨b, 1, none⟩ = some (.bool false) ∧ W.cell? ⟨b, 2, none⟩ = some (.slice none 0 0)) ∧
    (W.frozen? ⟨b, 0, none⟩ = false ∧ W.frozen? ⟨b, 1, none⟩ = false ∧ W.frozen? ⟨b, 2, none⟩ = false) ∧
    ((∀ o, (W.alloc o).cell? ⟨b, 0, none⟩ = some (.int .i64 0)) ∧ (∀ o, (W.alloc o).cell? ⟨b, 1, none⟩ = some (.bool false)) ∧ (∀ o, (W.alloc o).cell? ⟨b, 2, none⟩ = some (.slice none 0 0))) ∧
    ((∀ o, (W.alloc o).frozen? ⟨b, 0, none⟩ = false) ∧ (∀ o, (W.alloc o).frozen? ⟨b, 1, none⟩ = false) ∧ (∀ o, (W.alloc o).frozen? ⟨b, 2, none⟩ = false)) ∧
    ¬ (b = W.heap.size) ∧ ¬ (W.heap.size = b) :=
  ⟨⟨cells_of h.zero 0, cells_of h.zero 1, cells_of h.zero 2⟩, ⟨unfrozen_of h.zero 0, unfrozen_of h.zero 1, unfrozen_of h.zero 2⟩,
   ⟨fun o => cells_of (h.alloc (o := o)).zero 0, fun o => cells_of (h.alloc (o := o)).zero 1, fun o => cells_of (h.alloc (o := o)).zero 2⟩,
   ⟨fun o => unfrozen_of (h.alloc (o := o)).zero 0, fun o => unfrozen_of (h.alloc (o := o)).zero 1, fun o => unfrozen_of (h.alloc (o := o)).zero 2⟩, by have := h.lt; omega, by have := h.lt; omega⟩
theorem put_one {Wp W : World} {b : Nat} {s1 : Int} {neg1 : Bool} {A1 : Option Addr} {c1 : Nat} {l1 : List Nat} {z1 : Int} (hf : Fr Wp W b) (h1 : IntF W s1 neg1 A1 c1 l1 z1) (hb : Below Wp.heap.size Wp W) :
    BoxI (((W.setCell ⟨b, 0, none⟩ (.int .i64 s1)).setCell ⟨b, 1, none⟩ (.bool neg1)).setCell ⟨b, 2, none⟩ (.slice A1 l1.length c1)) b z1 ∧ Below Wp.heap.size Wp (((W.setCell ⟨b, 0, none⟩ (.int .i64 s1)).setCell ⟨b, 1, none⟩ (.bool neg1)).setCell ⟨b, 2, none⟩ (.slice A1 l1.length c1)) ∧ Wp.heap.size ≤ b :=
  ⟨⟨s1, neg1, A1, c1, l1, set3_block hf.zero, h1.upto hf.zero (noWord3 _ _ _ _ _) (set3_grown _ _ _ _ _)⟩, hb.grown (set3_grown _ _ _ _ _) hb.size (fun k hk => by injection hk with hk; have := hf.old; omega), hf.old⟩
theorem put_n {Wp W : World} {b : Nat} {s1 : Int} {neg1 : Bool} {A1 : Option Addr} {c1 : Nat} {l1 : List Nat} {z1 : Int} (h1 : IntF W s1 neg1 A1 c1 l1 z1) (hb : Below Wp.heap.size Wp W) (e : b = W.heap.size) :
    BoxI (W.alloc (.cells #[.int .i64 s1, .bool neg1, .slice A1 l1.length c1] 58)) b z1 ∧ Below Wp.heap.size Wp (W.alloc (.cells #[.int .i64 s1, .bool neg1, .slice A1 l1.length c1] 58)) ∧ Wp.heap.size ≤ b :=
  ⟨BoxI.new h1 e, hb.alloc hb.size _, by have := hb.size; omega⟩
theorem put_two {Wp W : World} {b c : Nat} {s1 : Int} {neg1 : Bool} {A1 : Option Addr} {c1 : Nat} {l1 : List Nat} {z1 : Int} {s2 : Int} {neg2 : Bool} {A2 : Option Addr} {c2 : Nat} {l2 : List Nat} {z2 : Int} (hf : Fr2 Wp W b c) (h1 : IntF W s1 neg1 A1 c1 l1 z1) (h2 : IntF W s2 neg2 A2 c2 l2 z2) (hb : Below Wp.heap.size Wp W) :
    BoxI ((((((W.setCell ⟨b, 0, none⟩ (.int .i64 s1)).setCell ⟨b, 1, none⟩ (.bool neg1)).setCell ⟨b, 2, none⟩ (.slice A1 l1.length c1)).setCell ⟨c, 0, none⟩ (.int .i64 s2)).setCell ⟨c, 1, none⟩ (.bool neg2)).setCell ⟨c, 2, none⟩ (.slice A2 l2.length c2)) b z1 ∧ BoxI ((((((W.setCell ⟨b, 0, none⟩ (.int .i64 s1)).setCell ⟨b, 1, none⟩ (.bool neg1)).setCell ⟨b, 2, none⟩ (.slice A1 l1.length c1)).setCell ⟨c, 0, none⟩ (.int .i64 s2)).setCell ⟨c, 1, none⟩ (.bool neg2)).setCell ⟨c, 2, none⟩ (.slice A2 l2.length c2)) c z2 ∧ Below Wp.heap.size Wp ((((((W.setCell ⟨b, 0, none⟩ (.int .i64 s1)).setCell ⟨b, 1, none⟩ (.bool neg1)).setCell ⟨b, 2, none⟩ (.slice A1 l1.length c1)).setCell ⟨c, 0, none⟩ (.int .i64 s2)).setCell ⟨c, 1, none⟩ (.bool neg2)).setCell ⟨c, 2, none⟩ (.slice A2 l2.length c2)) ∧ Wp.heap.size ≤ b ∧ Wp.heap.size ≤ c := by
  have g1 := set3_grown W b (.int .i64 s1) (.bool neg1) (.slice A1 l1.length c1)
  have k2 := h2.upto hf.one.zero (noWord3 _ _ _ _ _) g1
  have kc := (g1.block c hf.two.lt (fun e => hf.ne (by injection e with e; exact e.symm))).trans hf.two.zero
  have kb := (put_one hf.one h1 hb)
  have ks := kb.2.1.size
  obtain ⟨⟨s, neg, A, cap, l, e1, e2⟩, kb2, _⟩ := kb
  have g2 := set3_grown (((W.setCell ⟨b, 0, none⟩ (.int .i64 s1)).setCell ⟨b, 1, none⟩ (.bool neg1)).setCell ⟨b, 2, none⟩ (.slice A1 l1.length c1)) c (.int .i64 s2) (.bool neg2) (.slice A2 l2.length c2)
  exact ⟨⟨s, neg, A, cap, l, (g2.block b (lt_of_block e1) (fun e => hf.ne (by injection e))).trans e1, e2.upto kc (noWord3 _ _ _ _ _) g2⟩,
    ⟨s2, neg2, A2, c2, l2, set3_block kc, k2.upto kc (noWord3 _ _ _ _ _) g2⟩, kb2.grown g2 ks (fun k hk => by injection hk with hk; have := hf.two.old; omega), hf.one.old, hf.two.old⟩
theorem put_nn {Wp W : World} {b c : Nat} {s1 : Int} {neg1 : Bool} {A1 : Option Addr} {c1 : Nat} {l1 : List Nat} {z1 : Int} {s2 : Int} {neg2 : Bool} {A2 : Option Addr} {c2 : Nat} {l2 : List Nat} {z2 : Int} (h1 : IntF W s1 neg1 A1 c1 l1 z1) (h2 : IntF W s2 neg2 A2 c2 l2 z2) (hb : Below Wp.heap.size Wp W) (eb : b = W.heap.size) (ec : c = W.heap.size + 1) :
    BoxI ((W.alloc (.cells #[.int .i64 s1, .bool neg1, .slice A1 l1.length c1] 58)).alloc (.cells #[.int .i64 s2, .bool neg2, .slice A2 l2.length c2] 58)) b z1 ∧ BoxI ((W.alloc (.cells #[.int .i64 s1, .bool neg1, .slice A1 l1.length c1] 58)).alloc (.cells #[.int .i64 s2, .bool neg2, .slice A2 l2.length c2] 58)) c z2 ∧ Below Wp.heap.size Wp ((W.alloc (.cells #[.int .i64 s1, .bool neg1, .slice A1 l1.length c1] 58)).alloc (.cells #[.int .i64 s2, .bool neg2, .slice A2 l2.length c2] 58)) ∧ Wp.heap.size ≤ b ∧ Wp.heap.size ≤ c :=
  ⟨(BoxI.new h1 eb).alloc, BoxI.new h2.alloc (by rw [ec, World.size_alloc]), (hb.alloc hb.size _).alloc (hb.alloc hb.size _).size _, by have := hb.size; omega, by have := hb.size; omega⟩
theorem put_mm {Wp W : World} {b c : Nat} {s1 : Int} {neg1 : Bool} {A1 : Option Addr} {c1 : Nat} {l1 : List Nat} {z1 : Int} {s2 : Int} {neg2 : Bool} {A2 : Option Addr} {c2 : Nat} {l2 : List Nat} {z2 : Int} (h1 : IntF W s1 neg1 A1 c1 l1 z1) (h2 : IntF W s2 neg2 A2 c2 l2 z2) (hb : Below Wp.heap.size Wp W) (ec : c = W.heap.size) (eb : b = W.heap.size + 1) :
    BoxI ((W.alloc (.cells #[.int .i64 s2, .bool neg2, .slice A2 l2.length c2] 58)).alloc (.cells #[.int .i64 s1, .bool neg1, .slice A1 l1.length c1] 58)) b z1 ∧ BoxI ((W.alloc (.cells #[.int .i64 s2, .bool neg2, .slice A2 l2.length c2] 58)).alloc (.cells #[.int .i64 s1, .bool neg1, .slice A1 l1.length c1] 58)) c z2 ∧ Below Wp.heap.size Wp ((W.alloc (.cells #[.int .i64 s2, .bool neg2, .slice A2 l2.length c2] 58)).alloc (.cells #[.int .i64 s1, .bool neg1, .slice A1 l1.length c1] 58)) ∧ Wp.heap.size ≤ b ∧ Wp.heap.size ≤ c := by
  obtain ⟨x1, x2, x3, x4, x5⟩ := put_nn h2 h1 hb ec eb
  exact ⟨x2, x1, x3, x5, x4⟩
theorem put_ns {Wp W : World} {b c : Nat} {s1 : Int} {neg1 : Bool} {A1 : Option Addr} {c1 : Nat} {l1 : List Nat} {z1 : Int} {s2 : Int} {neg2 : Bool} {A2 : Option Addr} {c2 : Nat} {l2 : List Nat} {z2 : Int} (hf : Fr Wp W c) (h1 : IntF W s1 neg1 A1 c1 l1 z1) (h2 : IntF W s2 neg2 A2 c2 l2 z2) (hb : Below Wp.heap.size Wp W) (eb : b = W.heap.size) :
    BoxI ((((W.alloc (.cells #[.int .i64 s1, .bool neg1, .slice A1 l1.length c1] 58)).setCell ⟨c, 0, none⟩ (.int .i64 s2)).setCell ⟨c, 1, none⟩ (.bool neg2)).setCell ⟨c, 2, none⟩ (.slice A2 l2.length c2)) b z1 ∧ BoxI ((((W.alloc (.cells #[.int .i64 s1, .bool neg1, .slice A1 l1.length c1] 58)).setCell ⟨c, 0, none⟩ (.int .i64 s2)).setCell ⟨c, 1, none⟩ (.bool neg2)).setCell ⟨c, 2, none⟩ (.slice A2 l2.length c2)) c z2 ∧ Below Wp.heap.size Wp ((((W.alloc (.cells #[.int .i64 s1, .bool neg1, .slice A1 l1.length c1] 58)).setCell ⟨c, 0, none⟩ (.int .i64 s2)).setCell ⟨c, 1, none⟩ (.bool neg2)).setCell ⟨c, 2, none⟩ (.slice A2 l2.length c2)) ∧ Wp.heap.size ≤ b ∧ Wp.heap.size ≤ c := by
  have hl := hf.lt
  have hx := put_one hf.alloc h2.alloc (hb.alloc hb.size (.cells #[.int .i64 s1, .bool neg1, .slice A1 l1.length c1] 58))
  have hn := (BoxI.new h1 eb)
  obtain ⟨s, neg, A, cap, l, e1, e2⟩ := hn
  have g2 := set3_grown (W.alloc (.cells #[.int .i64 s1, .bool neg1, .slice A1 l1.length c1] 58)) c (.int .i64 s2) (.bool neg2) (.slice A2 l2.length c2)
  exact ⟨⟨s, neg, A, cap, l, (g2.block b (lt_of_block e1) (fun e => by injection e with e; omega)).trans e1, e2.upto (hf.alloc (o := _)).zero (noWord3 _ _ _ _ _) g2⟩, hx.1, hx.2.1, by have := hb.size; omega, hx.2.2⟩
theorem below_alloc {W W' : World} (h : Below W.heap.size W W') (o : Obj) : Below W.heap.size W (W'.alloc o) := h.alloc h.size o
theorem keep_cell {W W' : World} {b o : Nat} {v : Value} (hB : Below W.heap.size W W') (q : b < W.heap.size) (k : W.cell? ⟨b, o, none⟩ = some v) : W'.cell? ⟨b, o, none⟩ = some v := (hB.cell (p := ⟨b, o, none⟩) q).trans k
theorem below_set {W W' : World} {g : Nat} (hB : Below W.heap.size W W') (hg : W.heap.size ≤ g) (o : Nat) (u : Value) : Below W.heap.size W (W'.setCell ⟨g, o, none⟩ u) :=
  hB.grown (grown_setCell (grown_refl _ (some g)) o u) hB.size (fun k hk => by injection hk with hk; omega)
/-- Function F makes of the whole numbers a and b the whole number c, in every world that holds what w holds. -/
def Op2 (w : World) (F : Nat) (a b c : Int) : Prop := ∀ (s1 : Int) (neg1 : Bool) (A1 : Option Addr) (c1 : Nat) (l1 : List Nat) (s2 : Int) (neg2 : Bool) (A2 : Option Addr) (c2 : Nat) (l2 : List Nat) (W : World), Below w.heap.size w W → IntF W s1 neg1 A1 c1 l1 a → IntF W s2 neg2 A2 c2 l2 b → Calls Tryd.prog F #[(Value.agg #[.int .i64 s1, .bool neg1, .slice A1 l1.length c1]), (Value.agg #[.int .i64 s2, .bool neg2, .slice A2 l2.length c2])] W fun e w' => IntR W c e w'
/-- The fact that a number's words are few, from its size. -/
theorem op_gcd {w : World} {a b c : Int} {K : Nat} (hT : Tab w) (ha : Wd.Sz B64 K a) (hb : Wd.Sz B64 K b) (hK : K ≤ lim) (e : c = ((a.natAbs.gcd b.natAbs : Nat) : Int)) : Op2 w 67 a b c := by
  subst e
  exact fun s1 neg1 A1 c1 l1 s2 neg2 A2 c2 l2 W hW f1 f2 => igcd_any s1 neg1 A1 c1 l1 a s2 neg2 A2 c2 l2 b W f1 f2 (f1.fit ha hK) (f2.fit hb hK) (hT.below hW)
theorem op_quo {w : World} {a b c : Int} {K : Nat} (ha : Wd.Sz B64 K a) (hb : Wd.Sz B64 K b) (hK : K ≤ lim) (h0 : b ≠ 0) (e : c = a.tdiv b) : Op2 w 70 a b c := by
  subst e
  exact fun s1 neg1 A1 c1 l1 s2 neg2 A2 c2 l2 W hW f1 f2 => iquo_any s1 neg1 A1 c1 l1 a s2 neg2 A2 c2 l2 b W f1 f2 (f1.fit ha hK) (f2.fit hb hK) h0
theorem op_mul {w : World} {a b c : Int} {K : Nat} (ha : Wd.Sz B64 K a) (hb : Wd.Sz B64 K b) (hK : K ≤ lim) (e : c = a * b) : Op2 w 74 a b c := by
  subst e
  exact fun s1 neg1 A1 c1 l1 s2 neg2 A2 c2 l2 W hW f1 f2 => imul_any s1 neg1 A1 c1 l1 a s2 neg2 A2 c2 l2 b W f1 f2 (f1.fit ha hK) (f2.fit hb hK)
theorem op_add {w : World} {a b c : Int} {K : Nat} (ha : Wd.Sz B64 K a) (hb : Wd.Sz B64 K b) (hK : K ≤ lim) (e : c = a + b) : Op2 w 97 a b c := by
  subst e
  exact fun s1 neg1 A1 c1 l1 s2 neg2 A2 c2 l2 W hW f1 f2 => iadd_any s1 neg1 A1 c1 l1 a s2 neg2 A2 c2 l2 b W f1 f2 (f1.fit ha hK) (f2.fit hb hK)

end Go.Proofs.YtaaccgjopcgbfaaDoor
