/- Part 9 of the texts beneath a law of layer 1: RfI, RfWM, RfQ, RfIs, RfAll, RfRaA, RfRaB, RfHalf, RfRat, RfQv, RfPl, RfPm, RfLs. -/
import Derived.Test.YtadclbankpmebaaDoorCe8
import Derived.Deep.DeepCutAuto
/- The reference's whole numbers out of ints, and compared. -/
namespace Go.Proofs.YtadclbankpmebaaDoor
open Go.RowKit

theorem zb_two {w : World} {b : Nat} {T : TypeId} {lo hi : Nat} (h : w.heap[b]? = some (.cells #[.int .u32 (lo : Int), .int .u32 (hi : Int)] T (0, 0))) : ZB .u32 w b T [lo, hi] := h

set_option maxRecDepth 100000 in
set_option maxHeartbeats 1000000 in
theorem tofInt_any (x : Int) (w : World) (hx : -9223372036854775808 ≤ x) (hx2 : x ≤ 9223372036854775807) :
    Calls Tryd.prog 44 #[.int .i64 x] w fun e w' => WholeR w x e w' ∧ ∃ (A : Option Addr) (cap : Nat) (l : List Nat) (m : Bool), e = .returned (.agg #[.slice A l.length cap, .bool m]) ∧ l.length ≤ 2 := by
  obtain ⟨a, ha⟩ : ∃ a, a = x.natAbs := ⟨_, rfl⟩
  obtain ⟨lo, hlo⟩ : ∃ t, t = a % B32 := ⟨_, rfl⟩
  obtain ⟨hi, hhi⟩ : ∃ t, t = a / B32 := ⟨_, rfl⟩
  have ha2 : a ≤ 9223372036854775808 := by omega
  have e2 : (a : Int) % 4294967296 = (lo : Int) := by rw [hlo, B32_eq]; omega
  have e3 : (a : Int) / 4294967296 = (hi : Int) := by rw [hhi, B32_eq]; omega
  have e4 : (hi : Int) % 4294967296 = (hi : Int) := by rw [hhi, B32_eq]; omega
  have e5 : IntKind.u32.wrap (a : Int) = (lo : Int) := by rw [IntKind.wrap_u32]; exact e2
  have e6 : IntKind.u32.wrap (hi : Int) = (hi : Int) := by rw [IntKind.wrap_u32]; exact e4
  have hlB : ∀ t ∈ [lo, hi], t < B32 := by
    intro t ht
    simp only [List.mem_cons, List.not_mem_nil, or_false] at ht
    rcases ht with rfl | rfl
    · rw [hlo]; exact Nat.mod_lt _ (by rw [B32_eq]; omega)
    · rw [hhi, B32_eq]; omega
  have hval : Wd.val B32 [lo, hi] = x.natAbs := by
    rw [← ha]
    simp only [Wd.val, Nat.mul_zero, Nat.add_zero]
    rw [hlo, hhi]
    exact Nat.mod_add_div _ _
  have HLB := hide hlB; have HVAL := Lib.hid hval
  by_cases hn : x < 0
  · have d1 : decide (x < 0) = true := decide_eq_true hn
    have e1 : IntKind.u64.wrap (-IntKind.u64.wrap x) = (a : Int) := by
      rw [IntKind.wrap_u64, IntKind.wrap_u64]; omega
    clear hx hx2 ha hlo hhi ha2 hlB hval
    go_enter Tryd.func44, Tryd.ntmps44
    go_wp2_with fail
    obtain ⟨n0, n1, hsz, hw0⟩ := two_new w (.cells #[.slice none 0 0, .bool false] 35) (.cells #[.int .u32 (lo : Int), .int .u32 (hi : Int)] 108)
    generalize ((w.alloc (.cells #[.slice none 0 0, .bool false] 35)).alloc (.cells #[.int .u32 (lo : Int), .int .u32 (hi : Int)] 108)) = W0 at *
    have k0 : W0.cell? ⟨w.heap.size, 0, none⟩ = some (.slice none 0 0) := cells_of n0 0
    have k1 : W0.cell? ⟨w.heap.size, 1, none⟩ = some (.bool false) := cells_of n0 1
    have f0 := unfrozen_of n0 0
    have f1 := unfrozen_of n0 1
    have q0 : w.heap.size < W0.heap.size := by omega
    have hzb := zb_two n1
    have NR := Lib.hid n0
    have htr := ttrim_any (some ⟨w.heap.size + 1, 0, none⟩) 2 [lo, hi] W0.heap.size W0 (hzb.ws0 _ hzb.lt) (by simp) (by omega)
    have HZB := hide hzb
    clear n0 n1 hzb
    refine htr.mono ?_
    rintro e w' ⟨⟨k, rfl, ht, hk⟩, hw'⟩
    obtain rfl : W0 = w' := hw'.symm
    clear hw'
    have hn5 := NatT.of_trim (cap := 2) (unhide HZB) (unhide HLB) ht hk (by simp) (by omega)
    rw [HVAL.out] at hn5
    have hkl : k = ([lo, hi].take k).length := by rw [List.length_take]; omega
    have hl2 : ([lo, hi].take k).length ≤ 2 := by rw [List.length_take]; exact Nat.min_le_right _ _
    generalize [lo, hi].take k = l5 at *
    subst hkl
    have hf5 : WholeF W0 (some ⟨w.heap.size + 1, 0, none⟩) 2 l5 true x := ⟨hn5, d1.symm⟩
    have HF5 := hide hf5
    clear hn5 hf5 ht
    go_wp2_with fail
    exact bodyPost_ret (v := .agg #[.slice (some ⟨w.heap.size + 1, 0, none⟩) l5.length 2, .bool true]) (by simp [results, Tryd.results44, go_sem, k0, k1, q0]) rfl
      ⟨⟨_, 2, l5, true, rfl, (unhide HF5).upto NR.out (noW2_2 _ _ _ _) (set2_grown _ _ _ _), hw0.grown (set2_grown _ _ _ _) hw0.size (fun k hk => by injection hk with hk; omega)⟩, _, _, l5, true, rfl, hl2⟩
  · have d1 : decide (x < 0) = false := decide_eq_false hn
    have e1 : IntKind.u64.wrap x = (a : Int) := by
      rw [IntKind.wrap_u64]; omega
    clear hx hx2 ha hlo hhi ha2 hlB hval
    go_enter Tryd.func44, Tryd.ntmps44
    go_wp2_with fail
    obtain ⟨n0, n1, hsz, hw0⟩ := two_new w (.cells #[.slice none 0 0, .bool false] 35) (.cells #[.int .u32 (lo : Int), .int .u32 (hi : Int)] 108)
    generalize ((w.alloc (.cells #[.slice none 0 0, .bool false] 35)).alloc (.cells #[.int .u32 (lo : Int), .int .u32 (hi : Int)] 108)) = W0 at *
    have k0 : W0.cell? ⟨w.heap.size, 0, none⟩ = some (.slice none 0 0) := cells_of n0 0
    have k1 : W0.cell? ⟨w.heap.size, 1, none⟩ = some (.bool false) := cells_of n0 1
    have f0 := unfrozen_of n0 0
    have f1 := unfrozen_of n0 1
    have q0 : w.heap.size < W0.heap.size := by omega
    have hzb := zb_two n1
    have NR := Lib.hid n0
    have htr := ttrim_any (some ⟨w.heap.size + 1, 0, none⟩) 2 [lo, hi] W0.heap.size W0 (hzb.ws0 _ hzb.lt) (by simp) (by omega)
    have HZB := hide hzb
    clear n0 n1 hzb
    refine htr.mono ?_
    rintro e w' ⟨⟨k, rfl, ht, hk⟩, hw'⟩
    obtain rfl : W0 = w' := hw'.symm
    clear hw'
    have hn5 := NatT.of_trim (cap := 2) (unhide HZB) (unhide HLB) ht hk (by simp) (by omega)
    rw [HVAL.out] at hn5
    have hkl : k = ([lo, hi].take k).length := by rw [List.length_take]; omega
    have hl2 : ([lo, hi].take k).length ≤ 2 := by rw [List.length_take]; exact Nat.min_le_right _ _
    generalize [lo, hi].take k = l5 at *
    subst hkl
    have hf5 : WholeF W0 (some ⟨w.heap.size + 1, 0, none⟩) 2 l5 false x := ⟨hn5, d1.symm⟩
    have HF5 := hide hf5
    clear hn5 hf5 ht
    go_wp2_with fail
    exact bodyPost_ret (v := .agg #[.slice (some ⟨w.heap.size + 1, 0, none⟩) l5.length 2, .bool false]) (by simp [results, Tryd.results44, go_sem, k0, k1, q0]) rfl
      ⟨⟨_, 2, l5, false, rfl, (unhide HF5).upto NR.out (noW2_2 _ _ _ _) (set2_grown _ _ _ _), hw0.grown (set2_grown _ _ _ _) hw0.size (fun k hk => by injection hk with hk; omega)⟩, _, _, l5, false, rfl, hl2⟩

theorem belowE2 {B : Nat} {w w1 w' : World} (h : Below B w w1) (e : ∃ k, w' = w1.drewN k) : Below B w w' := by
  obtain ⟨k, rfl⟩ := e; exact belowN h k

set_option maxRecDepth 100000 in
set_option maxHeartbeats 1000000 in
theorem tcmp_any (A1 : Option Addr) (c1 : Nat) (l1 : List Nat) (m1 : Bool) (z1 : Int) (A2 : Option Addr) (c2 : Nat) (l2 : List Nat) (m2 : Bool) (z2 : Int) (w : World) (h1 : WholeF w A1 c1 l1 m1 z1) (h2 : WholeF w A2 c2 l2 m2 z2) :
    Calls Tryd.prog 47 #[.agg #[.slice A1 l1.length c1, .bool m1], .agg #[.slice A2 l2.length c2, .bool m2]] w fun e w' => e = .returned (.int .i64 (sgn (z1 - z2))) ∧ Below w.heap.size w w' := by
  have ho : ord3 z1.natAbs z2.natAbs = -1 ∨ ord3 z1.natAbs z2.natAbs = 0 ∨ ord3 z1.natAbs z2.natAbs = 1 := by unfold ord3; (repeat' split) <;> simp
  have hO := hide (fun W (hW : Below w.heap.size w W) => torder_any A1 A2 c1 c2 l1 l2 z1.natAbs z2.natAbs W (h1.nat.below hW) (h2.nat.below hW))
  have s1 := h1.sign; have s2 := h2.sign
  have hpp : m1 = false → m2 = false → ord3 z1.natAbs z2.natAbs = sgn (z1 - z2) := by
    rintro rfl rfl
    have a1 := of_decide_eq_false s1.symm; have a2 := of_decide_eq_false s2.symm
    unfold ord3 sgn; (repeat' split) <;> omega
  have hnn : m1 = true → m2 = true → -ord3 z1.natAbs z2.natAbs = sgn (z1 - z2) := by
    rintro rfl rfl
    have a1 := of_decide_eq_true s1.symm; have a2 := of_decide_eq_true s2.symm
    unfold ord3 sgn; (repeat' split) <;> omega
  have hnp : m1 = true → m2 = false → -1 = sgn (z1 - z2) := by
    rintro rfl rfl
    have a1 := of_decide_eq_true s1.symm; have a2 := of_decide_eq_false s2.symm
    unfold sgn; (repeat' split) <;> omega
  have hpn : m1 = false → m2 = true → 1 = sgn (z1 - z2) := by
    rintro rfl rfl
    have a1 := of_decide_eq_false s1.symm; have a2 := of_decide_eq_true s2.symm
    unfold sgn; (repeat' split) <;> omega
  obtain ⟨o, hoo⟩ : ∃ o, o = ord3 z1.natAbs z2.natAbs := ⟨_, rfl⟩
  obtain ⟨g, hg⟩ : ∃ g, g = sgn (z1 - z2) := ⟨_, rfl⟩
  rw [← hoo] at ho hO hpp hnn
  rw [← hg] at hpp hnn hnp hpn ⊢
  have e1 : IntKind.i64.wrap (-o) = -o := IntWalk.i64_in _ (by omega)
  have hw0 := (two_new w (.cells #[.slice A1 l1.length c1, .bool m1] 35) (.cells #[.slice A2 l2.length c2, .bool m2] 35)).2.2.2
  clear h1 h2 s1 s2 hoo hg ho
  cases m1 <;> cases m2
  · have hh := Lib.hid (hpp rfl rfl)
    clear hpp hnn hnp hpn
    go_enter Tryd.func47, Tryd.ntmps47
    go_wp2_with fail
    refine ((unhide hO) _ hw0).mono ?_
    rintro e w' ⟨rfl, hw'⟩
    have hb9 := belowE2 hw0 hw'
    clear hw'
    go_wp2_with fail
    all_goals first | go_ret | skip
    exact ⟨by rw [hh.out]; rfl, hb9⟩
  · have hh := Lib.hid (hpn rfl rfl)
    clear hpp hnn hnp hpn
    go_enter Tryd.func47, Tryd.ntmps47
    go_wp2_with fail
    all_goals first | (go_quiet (fail); go_wp2_with fail) | skip
    all_goals first | go_ret | skip
    exact ⟨by rw [← hh.out]; rfl, by first | exact hw0 | exact hw0.drew | exact belowN hw0 _⟩
  · have hh := Lib.hid (hnp rfl rfl)
    clear hpp hnn hnp hpn
    go_enter Tryd.func47, Tryd.ntmps47
    go_wp2_with fail
    all_goals first | (go_quiet (fail); go_wp2_with fail) | skip
    all_goals first | go_ret | skip
    exact ⟨by rw [← hh.out]; rfl, by first | exact hw0 | exact hw0.drew | exact belowN hw0 _⟩
  · have hh := Lib.hid (hnn rfl rfl)
    clear hpp hnn hnp hpn
    go_enter Tryd.func47, Tryd.ntmps47
    go_wp2_with fail
    refine ((unhide hO) _ hw0).mono ?_
    rintro e w' ⟨rfl, hw'⟩
    have hb9 := belowE2 hw0 hw'
    clear hw'
    go_wp2_with fail
    all_goals first | go_ret | skip
    exact ⟨by rw [← hh.out]; rfl, hb9⟩
end Go.Proofs.YtadclbankpmebaaDoor
/- The reference: products of whole numbers. -/
namespace Go.Proofs.YtadclbankpmebaaDoor
open Go.RowKit

set_option maxRecDepth 100000 in
set_option maxHeartbeats 8000000 in
theorem tmul_any (A1 : Option Addr) (c1 : Nat) (l1 : List Nat) (m1 : Bool) (z1 : Int) (A2 : Option Addr) (c2 : Nat) (l2 : List Nat) (m2 : Bool) (z2 : Int) (w : World) (h1 : WholeF w A1 c1 l1 m1 z1) (h2 : WholeF w A2 c2 l2 m2 z2) (hk : l1.length + l2.length ≤ 35184372088832) :
    Calls Tryd.prog 45 #[.agg #[.slice A1 l1.length c1, .bool m1], .agg #[.slice A2 l2.length c2, .bool m2]] w fun e w' => WholeR w (z1 * z2) e w' := by
  have hv : (if (m1 != m2) then -((z1.natAbs * z2.natAbs : Nat) : Int) else ((z1.natAbs * z2.natAbs : Nat) : Int)) = z1 * z2 := by
    rw [h1.sign, h2.sign, ← Int.natAbs_mul]
    by_cases a : z1 < 0 <;> by_cases b : z2 < 0
    · have := Int.mul_pos_of_neg_of_neg a b
      simp [a, b]; omega
    · have : z1 * z2 ≤ 0 := Int.mul_nonpos_of_nonpos_of_nonneg (by omega) (by omega)
      simp [a, b]; omega
    · have : z1 * z2 ≤ 0 := Int.mul_nonpos_of_nonneg_of_nonpos (by omega) (by omega)
      simp [a, b]; omega
    · have : 0 ≤ z1 * z2 := Int.mul_nonneg (by omega) (by omega)
      simp [a, b]; omega
  have HT := hide (fun W (hW : Below w.heap.size w W) => ttimes_any A1 A2 c1 c2 l1 l2 z1.natAbs z2.natAbs W (h1.nat.below hW) (h2.nat.below hW) hk)
  obtain ⟨p, hp⟩ : ∃ p, p = z1.natAbs * z2.natAbs := ⟨_, rfl⟩
  obtain ⟨z, hz⟩ : ∃ z, z = z1 * z2 := ⟨_, rfl⟩
  rw [← hp] at HT hv
  rw [← hz] at hv ⊢
  obtain ⟨sg, hsg⟩ : ∃ s, s = (m1 != m2) := ⟨_, rfl⟩
  rw [← hsg] at hv
  have HV := Lib.hid hv
  have SG : (!(m1 == m2)) = sg := hsg.symm
  clear h1 h2 hk hp hz hv hsg
  go_enter Tryd.func45, Tryd.ntmps45
  go_wp2_with fail
  obtain ⟨n0, n1, n2, hsz, hw0⟩ := three_new w (.cells #[.slice A1 l1.length c1, .bool m1] 35) (.cells #[.slice A2 l2.length c2, .bool m2] 35) (.cells #[.slice none 0 0, .bool false] 35)
  generalize (((w.alloc (.cells #[.slice A1 l1.length c1, .bool m1] 35)).alloc (.cells #[.slice A2 l2.length c2, .bool m2] 35)).alloc (.cells #[.slice none 0 0, .bool false] 35)) = W0 at *
  have k0 : W0.cell? ⟨w.heap.size, 0, none⟩ = some (.slice A1 l1.length c1) := cells_of n0 0
  have k1 : W0.cell? ⟨w.heap.size, 1, none⟩ = some (.bool m1) := cells_of n0 1
  have k2 : W0.cell? ⟨w.heap.size + 1, 0, none⟩ = some (.slice A2 l2.length c2) := cells_of n1 0
  have k3 : W0.cell? ⟨w.heap.size + 1, 1, none⟩ = some (.bool m2) := cells_of n1 1
  have q0 : w.heap.size < W0.heap.size := by omega
  have q1 : w.heap.size + 1 < W0.heap.size := by omega
  have q2 : w.heap.size + 1 + 1 < W0.heap.size := by omega
  have r0 : W0.cell? ⟨w.heap.size + 1 + 1, 0, none⟩ = some (.slice none 0 0) := cells_of n2 0
  have r1 : W0.cell? ⟨w.heap.size + 1 + 1, 1, none⟩ = some (.bool false) := cells_of n2 1
  have f0 := unfrozen_of n2 0
  have f1 := unfrozen_of n2 1
  have NR := Lib.hid n2
  clear n0 n1 n2 hsz
  go_region_held3 (fun w' => w'.cell? ⟨w.heap.size, 0, none⟩ = some (.slice A1 l1.length c1) ∧ w'.cell? ⟨w.heap.size, 1, none⟩ = some (.bool m1) ∧ w'.cell? ⟨w.heap.size + 1, 0, none⟩ = some (.slice A2 l2.length c2) ∧ w'.cell? ⟨w.heap.size + 1, 1, none⟩ = some (.bool m2)) ((first | with_reducible exact ⟨k0, k1, k2, k3⟩ | with_reducible exact ⟨(hc _ _ q0).trans k0, (hc _ _ q0).trans k1, (hc _ _ q1).trans k2, (hc _ _ q1).trans k3⟩ | with_reducible exact ⟨(cell_set2 _ _ _ _ (by omega)).trans ((hc _ _ q0).trans k0), (cell_set2 _ _ _ _ (by omega)).trans ((hc _ _ q0).trans k1), (cell_set2 _ _ _ _ (by omega)).trans ((hc _ _ q1).trans k2), (cell_set2 _ _ _ _ (by omega)).trans ((hc _ _ q1).trans k3)⟩ | exact ⟨k0, k1, k2, k3⟩ | exact ⟨(hc _ _ q0).trans k0, (hc _ _ q0).trans k1, (hc _ _ q1).trans k2, (hc _ _ q1).trans k3⟩)) (first | (go_at_call 85; refine ((unhide HT) _ (below_step' hw0 (by (first | with_reducible assumption | (repeat (first | with_reducible exact Below.refl _ _ | with_reducible assumption | refine Below.drew ?_ | (refine Below.alloc ?_ (by simp <;> omega) _))))))).mono ?_; rintro e w' ⟨A5, c5, l5, rfl, hn5, hb⟩; have hbw := below_step (w := W0) (by (first | assumption | (repeat (first | exact Below.refl _ _ | assumption | refine Below.drew ?_ | (refine Below.alloc ?_ (by simp <;> omega) _))))) hb; obtain ⟨hc, hfz⟩ := bcell hbw) | (go_at_call 83; refine (tsigned_any A5 c5 l5 p sg _ (by exact hn5)).mono ?_; rw [HV.out]; rintro e w' ⟨A6, c6, l6, m6, rfl, hf6, hb⟩; have hbw := below_step (w := W0) (by (first | assumption | (repeat (first | exact Below.refl _ _ | assumption | refine Below.drew ?_ | (refine Below.alloc ?_ (by simp <;> omega) _))))) hb; obtain ⟨hc, hfz⟩ := bcell hbw))
  all_goals
    have hblk : w'.heap[w.heap.size + 1 + 1]? = some (.cells #[.slice none 0 0, .bool false] 35 (0, 0)) := (hbw.block _ q2).trans NR.out
    have HBLK := Lib.hid hblk
    have hb9 : Below w.heap.size w w' := below_step' hw0 hbw
    clear hblk
    go_wp2_with fail
    exact bodyPost_ret (v := .agg #[.slice A6 l6.length c6, .bool m6]) (by simp [results, Tryd.results45, go_sem, hc, r0, r1, q2]) rfl
      ⟨A6, c6, l6, m6, rfl, hf6.upto HBLK.out (noW2_2 _ _ _ _) (set2_grown _ _ _ _), hb9.grown (set2_grown _ _ _ _) hb9.size (fun k hk => by injection hk with hk; omega)⟩
end Go.Proofs.YtadclbankpmebaaDoor
/- The reference's quotients: their denominators. -/
namespace Go.Proofs.YtadclbankpmebaaDoor
open Go.RowKit

set_option maxRecDepth 100000 in
set_option maxHeartbeats 1000000 in
theorem tden_any (A1 : Option Addr) (c1 : Nat) (l1 : List Nat) (m1 : Bool) (A2 : Option Addr) (c2 : Nat) (l2 : List Nat) (m2 : Bool) (d : Int) (w : World) (h2 : WholeF w A2 c2 l2 m2 d) (hd : d ≠ 0) :
    Calls Tryd.prog 46 #[.agg #[.slice A1 l1.length c1, .bool m1, .slice A2 l2.length c2, .bool m2]] w fun e w' => e = .returned (.agg #[.slice A2 l2.length c2, .bool m2]) ∧ Below w.heap.size w w' := by
  have hl : ¬ l2.length = 0 := fun e => by have := h2.nat.zero_iff.2 e; omega
  have HI := hide (fun W => tisn_any A2 c2 l2.length m2 W)
  rw [decide_eq_false hl] at HI
  clear h2 hd
  go_enter Tryd.func46, Tryd.ntmps46
  go_wp2_with fail
  obtain ⟨n0, n1, hsz, hw0⟩ := two_new w (.cells #[.slice A1 l1.length c1, .bool m1, .slice A2 l2.length c2, .bool m2] 37) (.cells #[.slice none 0 0, .bool false] 35)
  generalize ((w.alloc (.cells #[.slice A1 l1.length c1, .bool m1, .slice A2 l2.length c2, .bool m2] 37)).alloc (.cells #[.slice none 0 0, .bool false] 35)) = W0 at *
  have k2 : W0.cell? ⟨w.heap.size, 2, none⟩ = some (.slice A2 l2.length c2) := cells_of n0 2
  have k3 : W0.cell? ⟨w.heap.size, 3, none⟩ = some (.bool m2) := cells_of n0 3
  have q0 : w.heap.size < W0.heap.size := by omega
  have q1 : w.heap.size + 1 < W0.heap.size := by omega
  have r0 : W0.cell? ⟨w.heap.size + 1, 0, none⟩ = some (.slice none 0 0) := cells_of n1 0
  have r1 : W0.cell? ⟨w.heap.size + 1, 1, none⟩ = some (.bool false) := cells_of n1 1
  have f0 := unfrozen_of n1 0
  have f1 := unfrozen_of n1 1
  clear n0 n1 hsz
  refine ((unhide HI) _).mono ?_
  rintro e w' ⟨rfl, hb⟩
  obtain ⟨hc, hfz⟩ := bcell hb
  have hb9 : Below w.heap.size w w' := below_step' hw0 hb
  go_wp2_with fail
  exact bodyPost_ret (v := .agg #[.slice A2 l2.length c2, .bool m2]) (by simp [results, Tryd.results46, go_sem, hc, k2, k3, r0, r1, q1]) rfl
    ⟨rfl, hb9.grown (set2_grown _ _ _ _) hb9.size (fun k hk => by injection hk with hk; omega)⟩

/-- What a whole number is as an int. -/
def SmallR (w : World) (z : Int) (e : Ending) (w' : World) : Prop := ∃ (v : Int) (ok : Bool), e = .returned (.tuple #[.int .i64 v, .bool ok]) ∧ ok = decide (-9223372036854775808 ≤ z ∧ z ≤ 9223372036854775807) ∧ (ok = true → v = z) ∧ Below w.heap.size w w'

theorem val_take_one (l : List Nat) (h : 0 < l.length) : Wd.val B32 (l.take 1) = Wd.g l 0 := by
  cases l with
  | nil => simp at h
  | cons a l => simp [Wd.val, Wd.g_def, List.getD]
theorem val_take_two (l : List Nat) (h : 1 < l.length) : Wd.val B32 (l.take 2) = Wd.g l 0 + Wd.g l 1 * 2 ^ 32 := by
  cases l with
  | nil => simp at h
  | cons a l => cases l with
    | nil => simp at h
    | cons b l => simp [Wd.val, Wd.g_def, List.getD, B32_eq]; omega

set_option maxRecDepth 100000 in
set_option maxHeartbeats 1000000 in
theorem tsmall_any (A : Option Addr) (cap : Nat) (l : List Nat) (m : Bool) (z : Int) (w : World) (h : WholeF w A cap l m z) :
    Calls Tryd.prog 48 #[.agg #[.slice A l.length cap, .bool m]] w fun e w' => SmallR w z e w' := by
  have hc1 := h.nat.cap1; have hc2 := h.nat.cap2
  have hba : Below w.heap.size w (w.alloc (.cells #[.slice A l.length cap, .bool m] 35)) := (Below.refl _ _).alloc (Nat.le_refl _) _
  by_cases hl : l.length ≤ 2
  · have d1 : decide ((2 : Int) < (l.length : Int)) = false := decide_eq_false (by omega)
    have hsg := h.sign
    have hn := (h.nat.below hba)
    have hbl := h.nat.lt_pow
    obtain ⟨n0, hsz, hw0⟩ := one_new w (.cells #[.slice A l.length cap, .bool m] 35)
    have HN := hide hn; have HBL := hide hbl; have HSG := Lib.hid hsg; have HW0 := hide hw0
    clear hba hn hbl hsg h hw0
    go_enter Tryd.func48, Tryd.ntmps48
    go_wp2_with fail
    all_goals first | omega | skip
    generalize (w.alloc (.cells #[.slice A l.length cap, .bool m] 35)) = W0 at *
    have k0 : W0.cell? ⟨w.heap.size, 0, none⟩ = some (.slice A l.length cap) := cells_of n0 0
    have k1 : W0.cell? ⟨w.heap.size, 1, none⟩ = some (.bool m) := cells_of n0 1
    clear n0 hsz
    go_loop [4, 5] (fun uv iv => ∃ i : Nat, i ≤ l.length ∧ iv = .int .i64 ((i : Nat) : Int) ∧ uv = .int .u64 ((Wd.val B32 (l.take i) : Nat) : Int)) (fun _ iv => l.length - (intOf iv).toNat)
    case atStart => exact ⟨0, Nat.zero_le _, rfl, rfl⟩
    case round =>
      obtain ⟨i, hi, rfl, rfl⟩ := hrel
      by_cases hlt : i < l.length
      · obtain ⟨b, o, rfl, hbb, hcell⟩ := (unhide HN).ws (by omega)
        have hx := hcell i hlt
        clear hcell
        obtain ⟨x, hxx⟩ : ∃ x, x = Wd.g l i := ⟨_, rfl⟩
        rw [← hxx] at hx
        have hxB : x < B32 := by rw [hxx]; exact Wd.getD_lt (by rw [B32_eq]; omega) _ (unhide HN).lt i
        have e0 : IntKind.u64.wrap (x : Int) = (x : Int) := wrap64_nat rfl (by rw [B32_eq] at hxB; rw [B64_eq]; omega)
        have hi2 : i = 0 ∨ i = 1 := by omega
        rcases hi2 with rfl | rfl
        · have hv : Wd.val B32 (l.take 1) = x := by rw [val_take_one l hlt, hxx]
          have hv0 : Wd.val B32 (l.take 0) = 0 := rfl
          rw [Nat.add_zero] at hx
          rw [hv0]
          have g1 : Go.bits .or .u64 0 (x : Int) = (x : Int) := by
            have := bits_or_u64_nat 0 x (by omega) (by rw [B32_eq] at hxB; omega)
            simpa using this
          have HV := Lib.hid hv
          clear hv hxx hv0
          go_wp2_with fail
          go_round
          case rel => exact ⟨1, by omega, rfl, by rw [HV.out]⟩
          case measure => simp [intOf] <;> omega
        · have hv : Wd.val B32 (l.take 2) = Wd.g l 0 + x * 2 ^ 32 := by rw [val_take_two l hlt, hxx]
          have hv0 : Wd.val B32 (l.take 1) = Wd.g l 0 := val_take_one l (by omega)
          have hyB : Wd.g l 0 < B32 := Wd.getD_lt (by rw [B32_eq]; omega) _ (unhide HN).lt 0
          obtain ⟨y, hyy⟩ : ∃ x, x = Wd.g l 0 := ⟨_, rfl⟩
          rw [← hyy] at hv hv0 hyB
          rw [hv0]
          obtain ⟨p, hp⟩ : ∃ p, p = x * 2 ^ 32 := ⟨_, rfl⟩
          obtain ⟨s, hs⟩ : ∃ s, s = y + p := ⟨_, rfl⟩
          have g0 : IntKind.u64.wrap ((x : Int) * 2 ^ 32) = (p : Int) := wrap64_nat (by rw [hp]; simp) (by rw [hp]; rw [B32_eq] at hxB; rw [B64_eq]; omega)
          have g0' : IntKind.u64.wrap ((x : Int) * 4294967296) = (p : Int) := wrap64_nat (by rw [hp]; simp) (by rw [hp]; rw [B32_eq] at hxB; rw [B64_eq]; omega)
          have g1 : Go.bits .or .u64 (y : Int) (p : Int) = (s : Int) := by
            rw [bits_or_u64_nat y p (by rw [B32_eq] at hyB; omega) (by rw [hp]; rw [B32_eq] at hxB; omega), hs, hp, or_word (by rw [B32_eq] at hyB; omega)]
          rw [← hp, ← hs] at hv
          have HV := Lib.hid hv
          clear hv hxx hv0 hyy hp hs
          go_wp2_with fail
          go_round
          case rel => exact ⟨2, by omega, rfl, by rw [HV.out]⟩
          case measure => simp [intOf] <;> omega
      · have e : i = l.length := by omega
        subst e
        have hv : Wd.val B32 (l.take l.length) = z.natAbs := by rw [List.take_length]; exact (unhide HN).val
        rw [hv]
        obtain ⟨a, ha⟩ : ∃ a, a = z.natAbs := ⟨_, rfl⟩
        have haB : a < B64 := by
          have := unhide HBL
          have h2 : B32 ^ l.length ≤ B32 ^ 2 := Nat.pow_le_pow_right (by rw [B32_eq]; omega) hl
          rw [← ha] at this; rw [B64_eq]; rw [B32_eq] at *; omega
        rw [← ha]
        clear hv hlt
        go_wp2_with fail
        · have hm : m = true := by assumption
          have hz : z < 0 := of_decide_eq_true (HSG.out.symm.trans hm)
          go_ret2
          refine ⟨_, _, rfl, decide_eq_decide.2 (by omega), fun h => ?_, unhide HW0⟩
          have h2 := of_decide_eq_true h
          simp only [wrap64, IntKind.wrap_u64]
          omega
        · have hm : ¬ m = true := by rw [show m = false by assumption]; exact Bool.false_ne_true
          have hz : ¬ z < 0 := fun h => hm (HSG.out.trans (decide_eq_true h))
          go_ret2
          refine ⟨_, _, rfl, decide_eq_decide.2 (by omega), fun h => ?_, unhide HW0⟩
          have h2 := of_decide_eq_true h
          rw [IntWalk.wrap64_in _ (by omega)]
          omega
  · have d1 : decide ((2 : Int) < (l.length : Int)) = true := decide_eq_true (by omega)
    have hnot : ¬ (-9223372036854775808 ≤ z ∧ z ≤ 9223372036854775807) := by
      intro hz
      have := h.nat.len (k := 2) (by rw [B32_eq]; omega)
      omega
    have HNO := hide hnot
    clear h hnot
    go_enter Tryd.func48, Tryd.ntmps48
    go_wp2_with fail
    all_goals first | omega | skip
    go_ret2
    exact ⟨0, false, rfl, (decide_eq_false (unhide HNO)).symm, (fun h => Bool.noConfusion h), hba⟩
end Go.Proofs.YtadclbankpmebaaDoor
/- The reference: which numbers there are. -/
namespace Go.Proofs.YtadclbankpmebaaDoor
open Go.RowKit

end Go.Proofs.YtadclbankpmebaaDoor
/- The reference: the error of two numbers. -/
namespace Go.Proofs.YtadclbankpmebaaDoor
open Go.RowKit

end Go.Proofs.YtadclbankpmebaaDoor
/- The reference: quotients in lowest terms: the memory, and the mathematics. -/
namespace Go.Proofs.YtadclbankpmebaaDoor
open Go.RowKit

/-- A box that holds a whole number of the reference. -/
def BoxW (w : World) (b : Nat) (z : Int) : Prop := ∃ A cap l m, w.heap[b]? = some (.cells #[.slice A (List.length l) cap, .bool m] 35 (0, 0)) ∧ WholeF w A cap l m z
theorem BoxW.below {w w' : World} {b : Nat} {z : Int} (h : BoxW w b z) (hb : Below w.heap.size w w') : BoxW w' b z := by
  obtain ⟨A, cap, l, m, h1, h2⟩ := h
  exact ⟨A, cap, l, m, (hb.block _ (lt_of_block h1)).trans h1, h2.below hb⟩
theorem BoxW.lt {w : World} {b : Nat} {z : Int} (h : BoxW w b z) : b < w.heap.size := by
  obtain ⟨A, cap, l, m, h1, _⟩ := h; exact lt_of_block h1
/-- A number put into a box. -/
theorem BoxW.put {w : World} {b : Nat} {z0 z : Int} {A : Option Addr} {cap : Nat} {l : List Nat} {m : Bool} (h : BoxW w b z0) (hf : WholeF w A cap l m z) :
    BoxW ((w.setCell ⟨b, 0, none⟩ (.slice A l.length cap)).setCell ⟨b, 1, none⟩ (.bool m)) b z := by
  obtain ⟨A0, c0, l0, m0, h1, _⟩ := h
  exact ⟨A, cap, l, m, set2_block h1, hf.upto h1 (noW2_2 _ _ _ _) (set2_grown _ _ _ _)⟩
theorem BoxW.other {w : World} {b b' : Nat} {z z' : Int} (u0 u1 : Value) (h : BoxW w b z) (hb : BoxW w b' z') (hne : b ≠ b') : BoxW ((w.setCell ⟨b', 0, none⟩ u0).setCell ⟨b', 1, none⟩ u1) b z := by
  obtain ⟨A, cap, l, m, h1, h2⟩ := h
  obtain ⟨A0, c0, l0, m0, h3, _⟩ := hb
  have hg := set2_grown w b' u0 u1
  exact ⟨A, cap, l, m, (hg.block b (lt_of_block h1) (fun e => hne (by injection e))).trans h1, h2.upto h3 (noW2_2 _ _ _ _) hg⟩
theorem WholeF.put {w : World} {b : Nat} {z z' : Int} {A : Option Addr} {cap : Nat} {l : List Nat} {m : Bool} (u0 u1 : Value) (hf : WholeF w A cap l m z) (hb : BoxW w b z') : WholeF ((w.setCell ⟨b, 0, none⟩ u0).setCell ⟨b, 1, none⟩ u1) A cap l m z := by
  obtain ⟨A0, c0, l0, m0, h1, _⟩ := hb
  exact hf.upto h1 (noW2_2 _ _ _ _) (set2_grown _ _ _ _)

/-- The two boxes and the result's cells of a quotient in the making. -/
structure RaS (w W : World) (n d : Int) : Prop where
  bn : BoxW W w.heap.size n
  bd : BoxW W (w.heap.size + 1) d
  bq : W.heap[w.heap.size + 1 + 1]? = some (.cells #[.slice none 0 0, .bool false, .slice none 0 0, .bool false] 37 (0, 0))
  hb : Below w.heap.size w W
theorem RaS.below {w W W' : World} {n d : Int} (h : RaS w W n d) (hb : Below W.heap.size W W') : RaS w W' n d :=
  ⟨h.bn.below hb, h.bd.below hb, (hb.block _ (lt_of_block h.bq)).trans h.bq, below_step' h.hb hb⟩
/-- Both boxes filled anew, in the order of the statement. -/
theorem RaS.put {w W : World} {n d n' d' : Int} {A1 : Option Addr} {c1 : Nat} {l1 : List Nat} {m1 : Bool} {A2 : Option Addr} {c2 : Nat} {l2 : List Nat} {m2 : Bool} (h : RaS w W n d) (h1 : WholeF W A1 c1 l1 m1 n') (h2 : WholeF W A2 c2 l2 m2 d') :
    RaS w ((((W.setCell ⟨w.heap.size, 0, none⟩ (.slice A1 l1.length c1)).setCell ⟨w.heap.size, 1, none⟩ (.bool m1)).setCell ⟨w.heap.size + 1, 0, none⟩ (.slice A2 l2.length c2)).setCell ⟨w.heap.size + 1, 1, none⟩ (.bool m2)) n' d' := by
  have a1 := h.bn.put h1
  have a2 := h.bd.other (.slice A1 l1.length c1) (.bool m1) h.bn (by omega)
  have a3 := h2.put (.slice A1 l1.length c1) (.bool m1) h.bn
  have g1 := set2_grown W w.heap.size (.slice A1 l1.length c1) (.bool m1)
  generalize ((W.setCell ⟨w.heap.size, 0, none⟩ (.slice A1 l1.length c1)).setCell ⟨w.heap.size, 1, none⟩ (.bool m1)) = W1 at *
  have b1 := a2.put a3
  have b2 := a1.other (.slice A2 l2.length c2) (.bool m2) a2 (by omega)
  have g2 := set2_grown W1 (w.heap.size + 1) (.slice A2 l2.length c2) (.bool m2)
  have q1 := (g1.block _ (lt_of_block h.bq) (fun e => by injection e with e; omega)).trans h.bq
  exact ⟨b2, b1, (g2.block _ (lt_of_block q1) (fun e => by injection e with e; omega)).trans q1,
    (h.hb.grown g1 h.hb.size (fun k hk => by injection hk with hk; omega)).grown g2 (by have := g1.size; have := h.hb.size; omega) (fun k hk => by injection hk with hk; omega)⟩

theorem RaS.keep {w W : World} {n d : Int} (u0 u1 u2 u3 : Value) {A : Option Addr} {cap : Nat} {l : List Nat} {m : Bool} {z : Int} (h : RaS w W n d) (x : WholeF W A cap l m z) :
    WholeF ((((W.setCell ⟨w.heap.size, 0, none⟩ u0).setCell ⟨w.heap.size, 1, none⟩ u1).setCell ⟨w.heap.size + 1, 0, none⟩ u2).setCell ⟨w.heap.size + 1, 1, none⟩ u3) A cap l m z :=
  (x.put u0 u1 h.bn).put u2 u3 (h.bd.other u0 u1 h.bn (by omega))

/-- What a call hands back: a number of the reference. -/
def QR (w : World) (q : Rat) (e : Ending) (w' : World) : Prop := ∃ A1 c1 l1 m1 A2 c2 l2 m2, e = .returned (.agg #[.slice A1 (List.length l1) c1, .bool m1, .slice A2 (List.length l2) c2, .bool m2]) ∧ WholeF w' A1 c1 l1 m1 q.num ∧ WholeF w' A2 c2 l2 m2 (q.den : Int) ∧ Below w.heap.size w w'

theorem divInt_pos (n d : Int) (hd : 0 < d) : (Rat.divInt n d).num = (if decide (n < 0) = true then -((n.natAbs / (n.natAbs.gcd d.natAbs) : Nat) : Int) else ((n.natAbs / (n.natAbs.gcd d.natAbs) : Nat) : Int)) ∧ ((Rat.divInt n d).den : Int) = ((d.natAbs / (n.natAbs.gcd d.natAbs) : Nat) : Int) := by
  obtain ⟨h1, h2⟩ := Wd.divInt_parts n d (by omega)
  rw [Int.sign_eq_one_of_pos hd, Int.one_mul] at h1 h2
  rw [h1, h2]
  generalize n.natAbs.gcd d.natAbs = g
  constructor
  · by_cases hn : n < 0
    · rw [if_pos (decide_eq_true hn)]
      obtain ⟨k, hk⟩ : ∃ k : Nat, n = -(k : Int) := ⟨n.natAbs, by omega⟩
      subst hk
      rw [Int.neg_tdiv, Int.natAbs_neg, Int.natAbs_natCast, Int.ofNat_tdiv]
    · rw [if_neg (by simpa using hn)]
      obtain ⟨k, hk⟩ : ∃ k : Nat, n = (k : Int) := ⟨n.natAbs, by omega⟩
      subst hk
      rw [Int.natAbs_natCast, Int.ofNat_tdiv]
  · obtain ⟨k, hk⟩ : ∃ k : Nat, d = (k : Int) := ⟨d.natAbs, by omega⟩
    subst hk
    rw [Int.natAbs_natCast, Int.ofNat_tdiv]
theorem divInt_negneg (n d : Int) (hd : d ≠ 0) : Rat.divInt (-n) (-d) = Rat.divInt n d := by
  rw [Rat.divInt_eq_divInt_iff (by omega) hd, Int.neg_mul, Int.mul_neg]
end Go.Proofs.YtadclbankpmebaaDoor
/- The reference: quotients in lowest terms: the walk. -/
namespace Go.Proofs.YtadclbankpmebaaDoor
open Go.RowKit

set_option maxRecDepth 100000 in
set_option maxHeartbeats 8000000 in
theorem tratio_any (A1 : Option Addr) (c1 : Nat) (l1 : List Nat) (m1 : Bool) (n : Int) (A2 : Option Addr) (c2 : Nat) (l2 : List Nat) (m2 : Bool) (d : Int) (K : Nat) (w : World) (h1 : WholeF w A1 c1 l1 m1 n) (h2 : WholeF w A2 c2 l2 m2 d) (hd : d ≠ 0) (hn : n.natAbs < B32 ^ K) (hdK : d.natAbs < B32 ^ K) (hK : K + 1 ≤ 35184372088832) :
    Calls Tryd.prog 43 #[.agg #[.slice A1 l1.length c1, .bool m1], .agg #[.slice A2 l2.length c2, .bool m2]] w fun e w' => QR w (Rat.divInt n d) e w' := by
  have hl : ¬ l2.length = 0 := fun e => by have := h2.nat.zero_iff.2 e; omega
  have HI := hide (fun W => tisn_any A2 c2 l2.length m2 W)
  rw [decide_eq_false hl] at HI
  obtain ⟨n', d', q, hq, hq2, hd', hn', hdK', hneg⟩ : ∃ (n' d' : Int) (q : Rat), q = Rat.divInt n d ∧ q = Rat.divInt n' d' ∧ 0 < d' ∧ n'.natAbs < B32 ^ K ∧ d'.natAbs < B32 ^ K ∧ ((m2 = true ∧ n' = -n ∧ d' = -d) ∨ (m2 = false ∧ n' = n ∧ d' = d)) := by
    by_cases h : d < 0
    · exact ⟨-n, -d, _, rfl, (divInt_negneg n d hd).symm, by omega, by rw [Int.natAbs_neg]; exact hn, by rw [Int.natAbs_neg]; exact hdK, .inl ⟨by rw [h2.sign]; exact decide_eq_true h, rfl, rfl⟩⟩
    · exact ⟨n, d, _, rfl, rfl, by omega, hn, hdK, .inr ⟨by rw [h2.sign]; exact decide_eq_false h, rfl, rfl⟩⟩
  rw [← hq]
  have HQ2 := Lib.hid hq2
  have HDP := hide hd'; have HNK := hide hn'; have HDK := hide hdK'; have HNEG := hide hneg; have HK := hide hK
  have H1 := hide h1; have H2 := hide h2
  have HN1 := hide (fun W (hW : Below w.heap.size w W) => tneg_any A1 c1 l1 m1 n W (h1.below hW))
  have HN2 := hide (fun W (hW : Below w.heap.size w W) => tneg_any A2 c2 l2 m2 d W (h2.below hW))
  clear h1 h2 hd hn hdK hl hq hq2 hd' hn' hdK' hneg hK
  go_enter Tryd.func43, Tryd.ntmps43
  go_wp2_with fail
  obtain ⟨n0, n1, n2, hsz, hw0⟩ := three_new w (.cells #[.slice A1 l1.length c1, .bool m1] 35) (.cells #[.slice A2 l2.length c2, .bool m2] 35) (.cells #[.slice none 0 0, .bool false, .slice none 0 0, .bool false] 37)
  generalize (((w.alloc (.cells #[.slice A1 l1.length c1, .bool m1] 35)).alloc (.cells #[.slice A2 l2.length c2, .bool m2] 35)).alloc (.cells #[.slice none 0 0, .bool false, .slice none 0 0, .bool false] 37)) = W0 at *
  have hS0 : RaS w W0 n d := ⟨⟨_, _, _, _, n0, (unhide H1).below hw0⟩, ⟨_, _, _, _, n1, (unhide H2).below hw0⟩, n2, hw0⟩
  refine ((unhide HI) _).mono ?_
  rintro e W1 ⟨rfl, hb⟩
  have hS1 := hS0.below hb
  have j0 := (hb.block _ (lt_of_block n0)).trans n0
  have j1 := (hb.block _ (lt_of_block n1)).trans n1
  have hw1 := below_step' hw0 hb
  clear hS0 hb n0 n1 n2 hw0 hsz HI
  have k0 : W1.cell? ⟨w.heap.size, 0, none⟩ = some (.slice A1 l1.length c1) := cells_of j0 0
  have k1 : W1.cell? ⟨w.heap.size, 1, none⟩ = some (.bool m1) := cells_of j0 1
  have k2 : W1.cell? ⟨w.heap.size + 1, 0, none⟩ = some (.slice A2 l2.length c2) := cells_of j1 0
  have k3 : W1.cell? ⟨w.heap.size + 1, 1, none⟩ = some (.bool m2) := cells_of j1 1
  have HS := hide hS1; have J := hide (And.intro j0 j1); have HW1 := Lib.hid hw1
  clear hS1 hw1 j0 j1
  go_upto_if 14 with (fail)
  go_cut [] (fun wx => RaS w wx n' d')
  case first =>
    rcases unhide HNEG with ⟨e1, e2, e3⟩ | ⟨e1, e2, e3⟩
    · subst e1 e2 e3
      have q0 : w.heap.size < W1.heap.size := lt_of_block (unhide J).1
      have q1 : w.heap.size + 1 < W1.heap.size := lt_of_block (unhide J).2
      have KEEP : ∀ X, Below W1.heap.size W1 X → (fun w' => w'.cell? ⟨w.heap.size, 0, none⟩ = some (.slice A1 l1.length c1) ∧ w'.cell? ⟨w.heap.size, 1, none⟩ = some (.bool m1) ∧ w'.cell? ⟨w.heap.size + 1, 0, none⟩ = some (.slice A2 l2.length c2) ∧ w'.cell? ⟨w.heap.size + 1, 1, none⟩ = some (.bool true)) X := fun X hX => ⟨(hX.cell (p := ⟨w.heap.size, 0, none⟩) q0).trans k0, (hX.cell (p := ⟨w.heap.size, 1, none⟩) q0).trans k1, (hX.cell (p := ⟨w.heap.size + 1, 0, none⟩) q1).trans k2, (hX.cell (p := ⟨w.heap.size + 1, 1, none⟩) q1).trans k3⟩
      have HKE := hide KEEP
      have f0 := unfrozen_of (unhide J).1 0
      have f1 := unfrozen_of (unhide J).1 1
      have f2 := unfrozen_of (unhide J).2 0
      have f3 := unfrozen_of (unhide J).2 1
      clear HNEG KEEP
      go_wp2_with fail
      go_region_with (first | (go_at_call_of 79 (Value.agg #[.slice A1 l1.length c1, .bool m1]); refine ((unhide HN1) _ (below_step' HW1.out (by (first | with_reducible assumption | (repeat (first | with_reducible exact Below.refl _ _ | with_reducible assumption | refine Below.drew ?_ | (refine Below.alloc ?_ (by simp <;> omega) _))))))).mono ?_; rintro e w' ⟨A5, c5, l5, m5, rfl, hf5n, hb⟩; (try (first | replace hf5 := WholeF.below hf5 hb | replace hf5 := (WholeF.below hf5 (Below.drew (Below.refl _ _))).below hb)); (try (first | replace hf6 := WholeF.below hf6 hb | replace hf6 := (WholeF.below hf6 (Below.drew (Below.refl _ _))).below hb)); have hf5 := hf5n; clear hf5n; have hbw := below_step (w := W1) (by (first | with_reducible assumption | (repeat (first | with_reducible exact Below.refl _ _ | with_reducible assumption | refine Below.drew ?_ | (refine Below.alloc ?_ (by simp <;> omega) _))))) hb; obtain ⟨hc, hfz⟩ := bcell hbw) | (go_at_call_of 79 (Value.agg #[.slice A2 l2.length c2, .bool true]); refine ((unhide HN2) _ (below_step' HW1.out (by (first | with_reducible assumption | (repeat (first | with_reducible exact Below.refl _ _ | with_reducible assumption | refine Below.drew ?_ | (refine Below.alloc ?_ (by simp <;> omega) _))))))).mono ?_; rintro e w' ⟨A6, c6, l6, m6, rfl, hf6n, hb⟩; (try (first | replace hf5 := WholeF.below hf5 hb | replace hf5 := (WholeF.below hf5 (Below.drew (Below.refl _ _))).below hb)); (try (first | replace hf6 := WholeF.below hf6 hb | replace hf6 := (WholeF.below hf6 (Below.drew (Below.refl _ _))).below hb)); have hf6 := hf6n; clear hf6n; have hbw := below_step (w := W1) (by (first | with_reducible assumption | (repeat (first | with_reducible exact Below.refl _ _ | with_reducible assumption | refine Below.drew ?_ | (refine Below.alloc ?_ (by simp <;> omega) _))))) hb; obtain ⟨hc, hfz⟩ := bcell hbw))
      all_goals
        go_wp2_with fail
        go_meet
        case rel =>
          have HS9 := (unhide HS).below hbw
          exact HS9.put hf5 hf6
    · subst e1 e2 e3
      clear HNEG
      go_wp2_with fail
      go_meet
      case rel => exact unhide HS
  case rest =>
    clear HNEG k0 k1 k2 k3 HS J HW1 HN1 HN2 H1 H2
    obtain ⟨⟨A3, c3, l3, m3, kn, fn⟩, ⟨A4, c4, l4, m4, kd, fd⟩, kq, hb⟩ := hcut
    have w0 : wc.cell? ⟨w.heap.size, 0, none⟩ = some (.slice A3 l3.length c3) := cells_of kn 0
    have w1 : wc.cell? ⟨w.heap.size, 1, none⟩ = some (.bool m3) := cells_of kn 1
    have w2 : wc.cell? ⟨w.heap.size + 1, 0, none⟩ = some (.slice A4 l4.length c4) := cells_of kd 0
    have w3 : wc.cell? ⟨w.heap.size + 1, 1, none⟩ = some (.bool m4) := cells_of kd 1
    have p0 : wc.cell? ⟨w.heap.size + 1 + 1, 0, none⟩ = some (.slice none 0 0) := cells_of kq 0
    have p1 : wc.cell? ⟨w.heap.size + 1 + 1, 1, none⟩ = some (.bool false) := cells_of kq 1
    have p2 : wc.cell? ⟨w.heap.size + 1 + 1, 2, none⟩ = some (.slice none 0 0) := cells_of kq 2
    have p3 : wc.cell? ⟨w.heap.size + 1 + 1, 3, none⟩ = some (.bool false) := cells_of kq 3
    have u0 := unfrozen_of kn 0; have u1 := unfrozen_of kn 1; have u2 := unfrozen_of kd 0; have u3 := unfrozen_of kd 1
    have v0 := unfrozen_of kq 0; have v1 := unfrozen_of kq 1; have v2 := unfrozen_of kq 2; have v3 := unfrozen_of kq 3
    have q0 := lt_of_block kn; have q1 := lt_of_block kd; have q2 := lt_of_block kq
    have hSW : RaS w wc n' d' := ⟨⟨A3, c3, l3, m3, kn, fn⟩, ⟨A4, c4, l4, m4, kd, fd⟩, kq, hb⟩
    have ho := tisOne_any A4 c4 l4 m4 d' wc fd
    have FN := hide fn; have FD := hide fd; have KQ := Lib.hid kq; have HB := hide hb; have HSW := hide hSW
    obtain ⟨hnum, hden⟩ := divInt_pos n' d' (unhide HDP)
    rw [← HQ2.out] at hnum hden
    obtain ⟨g, hg⟩ : ∃ g, g = n'.natAbs.gcd d'.natAbs := ⟨_, rfl⟩
    rw [← hg] at hnum hden
    have HNUM := Lib.hid hnum.symm; have HDEN := Lib.hid hden.symm; have HGG := Lib.hid hg
    clear kn kd kq fn fd hb hSW hnum hden
    by_cases hd1 : d' = 1
    · rw [decide_eq_true hd1] at ho
      have HO := hide ho
      have hg1 : g = 1 := by rw [hg, hd1]; simp
      have e1 : q.num = n' := by
        rw [← HNUM.out, hg1, Nat.div_one]
        by_cases h : n' < 0
        · rw [if_pos (decide_eq_true h)]; omega
        · rw [if_neg (by simpa using h)]; omega
      have e2 : (q.den : Int) = d' := by
        rw [← HDEN.out, hg1, Nat.div_one]; have := unhide HDP; omega
      have E := hide (And.intro e1 e2)
      clear ho hg hg1 hd1 e1 e2
      go_wp2_with fail
      refine (unhide HO).mono ?_
      rintro e W2 ⟨rfl, hb2⟩
      obtain ⟨hc, hfz⟩ := bcell hb2
      have hblk := (hb2.block _ q2).trans KQ.out
      have HBLK := Lib.hid hblk; have HB2 := hide hb2
      clear hblk hb2
      go_wp2_with fail
      exact bodyPost_ret (v := .agg #[.slice A3 l3.length c3, .bool m3, .slice A4 l4.length c4, .bool m4]) (by simp [results, Tryd.results43, go_sem, hc, p0, p1, p2, p3, q2]) rfl
        ⟨A3, c3, l3, m3, A4, c4, l4, m4, rfl, by rw [(unhide E).1]; exact ((unhide FN).below (unhide HB2)).upto HBLK.out (noW2_4 _ _ _ _ _ _ _ _) (set4_grown _ _ _ _ _ _), by rw [(unhide E).2]; exact ((unhide FD).below (unhide HB2)).upto HBLK.out (noW2_4 _ _ _ _ _ _ _ _) (set4_grown _ _ _ _ _ _), (below_step' (unhide HB) (unhide HB2)).grown (set4_grown _ _ _ _ _ _) (below_step' (unhide HB) (unhide HB2)).size (fun k hk => by injection hk with hk; omega)⟩
    · rw [decide_eq_false hd1] at ho
      have hdv := fun W (hW : Below wc.heap.size wc W) => divisor_any A3 A4 c3 c4 l3 l4 n'.natAbs d'.natAbs K W ((unhide FN).nat.below hW) ((unhide FD).nat.below hW) (unhide HNK) (unhide HDK) (unhide HK)
      rw [← hg] at hdv
      have HO := hide ho; have HDV := hide hdv
      have hg0 : 0 < g := by rw [hg]; exact Nat.gcd_pos_of_pos_right _ (by have := unhide HDP; omega)
      have hgl : g ≤ d'.natAbs := by rw [hg]; exact Nat.gcd_le_right _ (by have := unhide HDP; omega)
      have HG0 := hide hg0; have HGL := hide hgl
      have hln := (unhide FN).nat.len (unhide HNK); have hld := (unhide FD).nat.len (unhide HDK)
      have HLN := hide hln; have HLD := hide hld
      clear ho hdv hg hg0 hgl hd1 hln hld
      go_wp2_with fail
      refine (unhide HO).mono ?_
      rintro e W2 ⟨rfl, hb2⟩
      obtain ⟨hc2, hf2⟩ := bcell hb2
      have HB2 := hide hb2
      clear hb2
      go_wp2_with fail
      refine ((unhide HDV) _ (unhide HB2)).mono ?_
      rintro e W3 ⟨A5, c5, l5, rfl, h5, hb3⟩
      have hb3' := below_step' (unhide HB2) hb3
      replace hb3 := hb3'
      obtain ⟨hc3, hf3⟩ := bcell hb3
      have hlg := h5.len (Nat.lt_of_le_of_lt (unhide HGL) (unhide HDK))
      have H5 := hide h5; have HLG := hide hlg; have HB3 := hide hb3
      clear hc2 hf2 hb3' hlg HDV HO HB2
      by_cases hl5 : l5.length = 1
      · obtain ⟨b5, o5, rfl, hb5, hc5⟩ := h5.ws (by omega)
        have hcell := hc5 0 (by omega)
        rw [Nat.add_zero, show Wd.g l5 0 = g by rw [one_word B32 l5 hl5]; exact h5.val] at hcell
        have hl5b : ((l5.length : Int) != 1) = false := by rw [hl5]; rfl
        have hl50 : 0 < l5.length := by omega
        have hcap := h5.cap1; have hcap2 := h5.cap2
        by_cases hg1 : g = 1
        · have e1 : q.num = n' := by
            rw [← HNUM.out, hg1, Nat.div_one]
            by_cases h : n' < 0
            · rw [if_pos (decide_eq_true h)]; omega
            · rw [if_neg (by simpa using h)]; omega
          have e2 : (q.den : Int) = d' := by
            rw [← HDEN.out, hg1, Nat.div_one]; have := unhide HDP; omega
          have E := hide (And.intro e1 e2)
          have hblk := (hb3.block _ q2).trans KQ.out
          have HBLK := Lib.hid hblk
          rw [hg1] at hcell
          clear hblk hg1 e1 e2 h5 hc5 hb3 hl5 hb5
          go_wp2_with fail
          exact bodyPost_ret (v := .agg #[.slice A3 l3.length c3, .bool m3, .slice A4 l4.length c4, .bool m4]) (by simp [results, Tryd.results43, go_sem, hc3, p0, p1, p2, p3, q2]) rfl
            ⟨A3, c3, l3, m3, A4, c4, l4, m4, rfl, by rw [(unhide E).1]; exact ((unhide FN).below (unhide HB3)).upto HBLK.out (noW2_4 _ _ _ _ _ _ _ _) (set4_grown _ _ _ _ _ _), by rw [(unhide E).2]; exact ((unhide FD).below (unhide HB3)).upto HBLK.out (noW2_4 _ _ _ _ _ _ _ _) (set4_grown _ _ _ _ _ _), (below_step' (unhide HB) (unhide HB3)).grown (set4_grown _ _ _ _ _ _) (below_step' (unhide HB) (unhide HB3)).size (fun k hk => by injection hk with hk; omega)⟩
        · have hgb : ((g : Int) == 1) = false := beq_eq_false_iff_ne.2 (by omega)
          have hgb2 : ((g : Int) != 1) = true := by simp; omega
          obtain ⟨AG, hAG⟩ : ∃ A : Option Addr, A = some ⟨b5, o5, none⟩ := ⟨_, rfl⟩
          have hp1 := parts_any A3 (some ⟨b5, o5, none⟩) c3 c5 l3 l5 n'.natAbs g W3 ((unhide FN).nat.below hb3) (unhide H5) (unhide HG0) (by have := unhide HLN; have := unhide HK; omega) (by have := unhide HLG; have := unhide HK; omega)
          have HP1 := hide hp1
          clear hg1 h5 hc5 hb3 hl5 hb5 hp1 hAG AG
          go_wp2_with fail
          refine (unhide HP1).mono ?_
          rintro e W4 ⟨A6, c6, l6, A7, c7, l7, rfl, h6, h7, hb4⟩
          have hb4' := below_step' (unhide HB3) hb4
          have h5' := (unhide H5).below hb4
          obtain ⟨hc4, hf4⟩ := bcell hb4'
          have hp2 := parts_any A4 (some ⟨b5, o5, none⟩) c4 c5 l4 l5 d'.natAbs g W4 ((unhide FD).nat.below hb4') h5' (unhide HG0) (by have := unhide HLD; have := unhide HK; omega) (by have := unhide HLG; have := unhide HK; omega)
          have HP2 := hide hp2; have H6 := hide h6; have HB4 := hide hb4'
          clear hp2 h6 h7 hb4 hb4' h5' hc3 hf3 HP1
          go_wp2_with fail
          refine (unhide HP2).mono ?_
          rintro e W5 ⟨A8, c8, l8, A9, c9, l9, rfl, h8, h9, hb5⟩
          have hb5' := below_step' (unhide HB4) hb5
          obtain ⟨hc5, hf5⟩ := bcell hb5'
          have hs1 := tsigned_any A6 c6 l6 (n'.natAbs / g) m3 W5 ((unhide H6).below hb5)
          have hm3 : (if m3 = true then -((n'.natAbs / g : Nat) : Int) else ((n'.natAbs / g : Nat) : Int)) = q.num := by rw [(unhide FN).sign]; exact HNUM.out
          rw [hm3] at hs1
          have HS1 := hide hs1; have H8 := hide h8; have HB5 := hide hb5'
          clear hs1 h8 h9 hb5 hb5' hc4 hf4 hm3 HP2
          go_wp2_with fail
          refine (unhide HS1).mono ?_
          rintro e W6 ⟨A10, c10, l10, m10, rfl, h10, hb6⟩
          have hb6' := below_step' (unhide HB5) hb6
          obtain ⟨hc6, hf6⟩ := bcell hb6'
          have hs2 := tsigned_any A8 c8 l8 (d'.natAbs / g) false W6 ((unhide H8).below hb6)
          rw [if_neg Bool.false_ne_true, HDEN.out] at hs2
          have HS2 := hide hs2; have H10 := hide h10; have HB6 := hide hb6'
          clear hs2 h10 hb6 hb6' hc5 hf5 HS1
          go_wp2_with fail
          refine (unhide HS2).mono ?_
          rintro e W7 ⟨A11, c11, l11, m11, rfl, h11, hb7⟩
          have hb7' := below_step' (unhide HB6) hb7
          obtain ⟨hc7, hf7⟩ := bcell hb7'
          have hsw7 := (unhide HSW).below hb7'
          have HSW7 := hide hsw7
          have H10' := hide ((unhide H10).below hb7); have H11 := hide h11
          clear h11 hb7 hb7' hc6 hf6 hsw7 HS2
          go_wp2_with fail
          have hS9 := (unhide HSW7).put (unhide H10') (unhide H11)
          have hk1 := (unhide HSW7).keep (.slice A10 l10.length c10) (.bool m10) (.slice A11 l11.length c11) (.bool m11) (unhide H10')
          have hk2 := (unhide HSW7).keep (.slice A10 l10.length c10) (.bool m10) (.slice A11 l11.length c11) (.bool m11) (unhide H11)
          exact bodyPost_ret (v := .agg #[.slice A10 l10.length c10, .bool m10, .slice A11 l11.length c11, .bool m11]) (by simp [results, Tryd.results43, go_sem, hc7, p0, p1, p2, p3, q2]) rfl
            ⟨A10, c10, l10, m10, A11, c11, l11, m11, rfl, hk1.upto hS9.bq (noW2_4 _ _ _ _ _ _ _ _) (set4_grown _ _ _ _ _ _), hk2.upto hS9.bq (noW2_4 _ _ _ _ _ _ _ _) (set4_grown _ _ _ _ _ _), hS9.hb.grown (set4_grown _ _ _ _ _ _) hS9.hb.size (fun k hk => by injection hk with hk; omega)⟩
      · have hl5b : ((l5.length : Int) != 1) = true := by simp; omega
        have hl5c : ((l5.length : Int) == 1) = false := beq_eq_false_iff_ne.2 (by omega)
        have hcap := h5.cap1; have hcap2 := h5.cap2
        have hp1 := parts_any A3 A5 c3 c5 l3 l5 n'.natAbs g W3 ((unhide FN).nat.below hb3) (unhide H5) (unhide HG0) (by have := unhide HLN; have := unhide HK; omega) (by have := unhide HLG; have := unhide HK; omega)
        have HP1 := hide hp1
        clear h5 hb3 hl5 hp1
        go_wp2_with fail
        refine (unhide HP1).mono ?_
        rintro e W4 ⟨A6, c6, l6, A7, c7, l7, rfl, h6, h7, hb4⟩
        have hb4' := below_step' (unhide HB3) hb4
        have h5' := (unhide H5).below hb4
        obtain ⟨hc4, hf4⟩ := bcell hb4'
        have hp2 := parts_any A4 A5 c4 c5 l4 l5 d'.natAbs g W4 ((unhide FD).nat.below hb4') h5' (unhide HG0) (by have := unhide HLD; have := unhide HK; omega) (by have := unhide HLG; have := unhide HK; omega)
        have HP2 := hide hp2; have H6 := hide h6; have HB4 := hide hb4'
        clear hp2 h6 h7 hb4 hb4' h5' hc3 hf3 HP1
        go_wp2_with fail
        refine (unhide HP2).mono ?_
        rintro e W5 ⟨A8, c8, l8, A9, c9, l9, rfl, h8, h9, hb5⟩
        have hb5' := below_step' (unhide HB4) hb5
        obtain ⟨hc5, hf5⟩ := bcell hb5'
        have hs1 := tsigned_any A6 c6 l6 (n'.natAbs / g) m3 W5 ((unhide H6).below hb5)
        have hm3 : (if m3 = true then -((n'.natAbs / g : Nat) : Int) else ((n'.natAbs / g : Nat) : Int)) = q.num := by rw [(unhide FN).sign]; exact HNUM.out
        rw [hm3] at hs1
        have HS1 := hide hs1; have H8 := hide h8; have HB5 := hide hb5'
        clear hs1 h8 h9 hb5 hb5' hc4 hf4 hm3 HP2
        go_wp2_with fail
        refine (unhide HS1).mono ?_
        rintro e W6 ⟨A10, c10, l10, m10, rfl, h10, hb6⟩
        have hb6' := below_step' (unhide HB5) hb6
        obtain ⟨hc6, hf6⟩ := bcell hb6'
        have hs2 := tsigned_any A8 c8 l8 (d'.natAbs / g) false W6 ((unhide H8).below hb6)
        rw [if_neg Bool.false_ne_true, HDEN.out] at hs2
        have HS2 := hide hs2; have H10 := hide h10; have HB6 := hide hb6'
        clear hs2 h10 hb6 hb6' hc5 hf5 HS1
        go_wp2_with fail
        refine (unhide HS2).mono ?_
        rintro e W7 ⟨A11, c11, l11, m11, rfl, h11, hb7⟩
        have hb7' := below_step' (unhide HB6) hb7
        obtain ⟨hc7, hf7⟩ := bcell hb7'
        have hsw7 := (unhide HSW).below hb7'
        have HSW7 := hide hsw7
        have H10' := hide ((unhide H10).below hb7); have H11 := hide h11
        clear h11 hb7 hb7' hc6 hf6 hsw7 HS2
        go_wp2_with fail
        have hS9 := (unhide HSW7).put (unhide H10') (unhide H11)
        have hk1 := (unhide HSW7).keep (.slice A10 l10.length c10) (.bool m10) (.slice A11 l11.length c11) (.bool m11) (unhide H10')
        have hk2 := (unhide HSW7).keep (.slice A10 l10.length c10) (.bool m10) (.slice A11 l11.length c11) (.bool m11) (unhide H11)
        exact bodyPost_ret (v := .agg #[.slice A10 l10.length c10, .bool m10, .slice A11 l11.length c11, .bool m11]) (by simp [results, Tryd.results43, go_sem, hc7, p0, p1, p2, p3, q2]) rfl
          ⟨A10, c10, l10, m10, A11, c11, l11, m11, rfl, hk1.upto hS9.bq (noW2_4 _ _ _ _ _ _ _ _) (set4_grown _ _ _ _ _ _), hk2.upto hS9.bq (noW2_4 _ _ _ _ _ _ _ _) (set4_grown _ _ _ _ _ _), hS9.hb.grown (set4_grown _ _ _ _ _ _) hS9.hb.size (fun k hk => by injection hk with hk; omega)⟩
end Go.Proofs.YtadclbankpmebaaDoor
/- The reference: the quotient of two ints. -/
namespace Go.Proofs.YtadclbankpmebaaDoor
open Go.RowKit

set_option maxRecDepth 100000 in
set_option maxHeartbeats 2000000 in
theorem thalf_any (n d : Int) (w : World) (b1 : -9223372036854775808 ≤ n) (b2 : n ≤ 9223372036854775807) (b3 : -9223372036854775808 ≤ d) (b4 : d ≤ 9223372036854775807) (hd : d ≠ 0) :
    Calls Tryd.prog 15 #[.int .i64 n, .int .i64 d] w fun e w' => QR w (Rat.divInt n d) e w' := by
  have HO1 := hide (fun W => (tofInt_any n W b1 b2).mono (fun e w' h => h.1))
  have HO2 := hide (fun W => (tofInt_any d W b3 b4).mono (fun e w' h => h.1))
  have k1 : n.natAbs < B32 ^ 2 := by rw [B32_eq]; omega
  have k2 : d.natAbs < B32 ^ 2 := by rw [B32_eq]; omega
  obtain ⟨q, hq⟩ : ∃ q, q = Rat.divInt n d := ⟨_, rfl⟩
  have HR := hide (fun (A1 : Option Addr) (c1 : Nat) (l1 : List Nat) (m1 : Bool) (A2 : Option Addr) (c2 : Nat) (l2 : List Nat) (m2 : Bool) (W : World) (f1 : WholeF W A1 c1 l1 m1 n) (f2 : WholeF W A2 c2 l2 m2 d) => tratio_any A1 c1 l1 m1 n A2 c2 l2 m2 d 2 W f1 f2 hd k1 k2 (by omega))
  rw [← hq] at HR ⊢
  clear b1 b2 b3 b4 hd k1 k2 hq
  go_enter Tryd.func15, Tryd.ntmps15
  go_wp2_with fail
  obtain ⟨n0, hsz, hw0⟩ := one_new w (.cells #[.slice none 0 0, .bool false, .slice none 0 0, .bool false] 37)
  generalize (w.alloc (.cells #[.slice none 0 0, .bool false, .slice none 0 0, .bool false] 37)) = W0 at *
  have p0 : W0.cell? ⟨w.heap.size, 0, none⟩ = some (.slice none 0 0) := cells_of n0 0
  have p1 : W0.cell? ⟨w.heap.size, 1, none⟩ = some (.bool false) := cells_of n0 1
  have p2 : W0.cell? ⟨w.heap.size, 2, none⟩ = some (.slice none 0 0) := cells_of n0 2
  have p3 : W0.cell? ⟨w.heap.size, 3, none⟩ = some (.bool false) := cells_of n0 3
  have v0 := unfrozen_of n0 0; have v1 := unfrozen_of n0 1; have v2 := unfrozen_of n0 2; have v3 := unfrozen_of n0 3
  have q0 := lt_of_block n0
  have NR := Lib.hid n0
  clear n0 hsz
  refine ((unhide HO1) _).mono ?_
  rintro e W1 ⟨A1, c1, l1, m1, rfl, f1, hb1⟩
  have F1 := hide f1; have HB1 := hide hb1
  clear f1 hb1
  go_wp2_with fail
  refine ((unhide HO2) _).mono ?_
  rintro e W2 ⟨A2, c2, l2, m2, rfl, f2, hb2⟩
  have f1' := (unhide F1).below hb2
  have hr := (unhide HR) A1 c1 l1 m1 A2 c2 l2 m2 W2 f1' f2
  have HRR := hide hr
  have hb2' := below_step' (unhide HB1) hb2
  have HB2 := hide hb2'
  clear f1' f2 hb2 hr hb2'
  go_wp2_with fail
  refine (unhide HRR).mono ?_
  rintro e W3 ⟨A3, c3, l3, m3, A4, c4, l4, m4, rfl, f3, f4, hb3⟩
  have hb3' := below_step' (unhide HB2) hb3
  obtain ⟨hc, hfz⟩ := bcell hb3'
  have hblk := (hb3'.block _ q0).trans NR.out
  have HBLK := Lib.hid hblk
  have F3 := hide f3; have F4 := hide f4; have hb9 := below_step' hw0 hb3'
  have HB9 := hide hb9
  clear f3 f4 hb3 hb3' hblk hb9
  go_wp2_with fail
  exact bodyPost_ret (v := .agg #[.slice A3 l3.length c3, .bool m3, .slice A4 l4.length c4, .bool m4]) (by simp [results, Tryd.results15, go_sem, hc, p0, p1, p2, p3, q0]) rfl
    ⟨A3, c3, l3, m3, A4, c4, l4, m4, rfl, (unhide F3).upto HBLK.out (noW2_4 _ _ _ _ _ _ _ _) (set4_grown _ _ _ _ _ _), (unhide F4).upto HBLK.out (noW2_4 _ _ _ _ _ _ _ _) (set4_grown _ _ _ _ _ _), (unhide HB9).grown (set4_grown _ _ _ _ _ _) (unhide HB9).size (fun k hk => by injection hk with hk; omega)⟩
end Go.Proofs.YtadclbankpmebaaDoor
/- The reference: numbers as they are told. -/
namespace Go.Proofs.YtadclbankpmebaaDoor
open Go.RowKit

/-- A number as it is returned, and whether it is one. -/
def RatP (w : World) (q : Rat) (e : Ending) (w' : World) : Prop := ∃ (n d : Int) (ok : Bool), e = .returned (.tuple #[.agg #[.int .i64 n, .int .i64 d], .bool ok]) ∧ Below w.heap.size w w' ∧ ((ok = true ∧ Wd.told q = ⟨n, d, 0⟩) ∨ (ok = false ∧ Wd.told q = ⟨0, 0, 3⟩))

set_option maxRecDepth 100000 in
set_option maxHeartbeats 2000000 in
theorem tRat_any (A1 : Option Addr) (c1 : Nat) (l1 : List Nat) (m1 : Bool) (A2 : Option Addr) (c2 : Nat) (l2 : List Nat) (m2 : Bool) (q : Rat) (w : World) (h1 : WholeF w A1 c1 l1 m1 q.num) (h2 : WholeF w A2 c2 l2 m2 (q.den : Int)) :
    Calls Tryd.prog 18 #[.agg #[.slice A1 l1.length c1, .bool m1, .slice A2 l2.length c2, .bool m2]] w fun e w' => RatP w q e w' := by
  have hd0 : (q.den : Int) ≠ 0 := by have := q.den_nz; omega
  have HS1 := hide (fun W (hW : Below w.heap.size w W) => tsmall_any A1 c1 l1 m1 q.num W (h1.below hW))
  have HS2 := hide (fun W (hW : Below w.heap.size w W) => tsmall_any A2 c2 l2 m2 (q.den : Int) W (h2.below hW))
  have HD := hide (fun W (hW : Below w.heap.size w W) => tden_any A1 c1 l1 m1 A2 c2 l2 m2 (q.den : Int) W (h2.below hW) hd0)
  have ht : (Wd.fits q → Wd.told q = ⟨q.num, q.den, 0⟩) ∧ (¬ Wd.fits q → Wd.told q = ⟨0, 0, 3⟩) := ⟨fun h => if_pos h, fun h => if_neg h⟩
  have hfi : Wd.fits q ↔ q.num.natAbs ≤ 1000000000000 ∧ q.den ≤ 1000000000000 := Iff.rfl
  have HT := hide (And.intro ht hfi)
  clear h1 h2 hd0 ht hfi
  go_enter Tryd.func18, Tryd.ntmps18
  go_wp2_with fail
  obtain ⟨n0, n1, hsz, hw0⟩ := two_new w (.cells #[.slice A1 l1.length c1, .bool m1, .slice A2 l2.length c2, .bool m2] 37) (.cells #[.int .i64 0, .int .i64 0] 23)
  generalize ((w.alloc (.cells #[.slice A1 l1.length c1, .bool m1, .slice A2 l2.length c2, .bool m2] 37)).alloc (.cells #[.int .i64 0, .int .i64 0] 23)) = W0 at *
  have k0 : W0.cell? ⟨w.heap.size, 0, none⟩ = some (.slice A1 l1.length c1) := cells_of n0 0
  have k1 : W0.cell? ⟨w.heap.size, 1, none⟩ = some (.bool m1) := cells_of n0 1
  have k2 : W0.cell? ⟨w.heap.size, 2, none⟩ = some (.slice A2 l2.length c2) := cells_of n0 2
  have k3 : W0.cell? ⟨w.heap.size, 3, none⟩ = some (.bool m2) := cells_of n0 3
  have p0 : W0.cell? ⟨w.heap.size + 1, 0, none⟩ = some (.int .i64 0) := cells_of n1 0
  have p1 : W0.cell? ⟨w.heap.size + 1, 1, none⟩ = some (.int .i64 0) := cells_of n1 1
  have v0 := unfrozen_of n1 0; have v1 := unfrozen_of n1 1
  have q0 := lt_of_block n0; have q1 := lt_of_block n1
  clear n0 n1 hsz
  refine ((unhide HS1) _ hw0).mono ?_
  rintro e W1 ⟨x1, ok1, rfl, hok1, hx1, hb1⟩
  obtain ⟨hc1, hf1⟩ := bcell hb1
  have hw1 := below_step' hw0 hb1
  have OK1 := Lib.hid hok1; have X1 := hide hx1; have HB1 := hide hb1; have HW1 := hide hw1
  clear hok1 hx1 hb1 hw1
  go_wp2_with fail
  refine ((unhide HD) _ (unhide HW1)).mono ?_
  rintro e W2 ⟨rfl, hb2⟩
  have hb2' := below_step' (unhide HB1) hb2
  obtain ⟨hc2, hf2⟩ := bcell hb2'
  have hw2 := below_step' hw0 hb2'
  have HB2 := hide hb2'; have HW2 := hide hw2
  clear hb2 hb2' hw2 hc1 hf1
  go_wp2_with fail
  refine ((unhide HS2) _ (unhide HW2)).mono ?_
  rintro e W3 ⟨x2, ok2, rfl, hok2, hx2, hb3⟩
  have hb3' := below_step' (unhide HB2) hb3
  obtain ⟨hc3, hf3⟩ := bcell hb3'
  have hw3 := below_step' hw0 hb3'
  have OK2 := Lib.hid hok2; have X2 := hide hx2; have HW3 := hide hw3
  have hg9 : ∀ u0 u1 : Value, Below w.heap.size w ((W3.setCell ⟨w.heap.size + 1, 0, none⟩ u0).setCell ⟨w.heap.size + 1, 1, none⟩ u1) := fun u0 u1 => hw3.grown (set2_grown _ _ _ _) hw3.size (fun k hk => by injection hk with hk; omega)
  have HG9 := hide hg9
  clear hok2 hx2 hb3 hb3' hw3 hc2 hf2 hg9 HS1 HS2 HD HB1 HB2 HW1 HW2
  cases ok1 <;> cases ok2
  · have hn : ¬ Wd.fits q := fun h => by have := (unhide HT).2.1 h; have h2 := of_decide_eq_false OK1.out.symm; omega
    have HN := Lib.hid ((unhide HT).1.2 hn)
    clear hn
    go_wp2_with fail
    exact bodyPost_ret (v := .tuple #[.agg #[.int .i64 0, .int .i64 0], .bool false]) (by simp [results, Tryd.results18, go_sem, hc3, p0, p1, q1]) rfl ⟨0, 0, false, rfl, (unhide HG9) _ _, .inr ⟨rfl, HN.out⟩⟩
  · have hn : ¬ Wd.fits q := fun h => by have := (unhide HT).2.1 h; have h2 := of_decide_eq_false OK1.out.symm; omega
    have HN := Lib.hid ((unhide HT).1.2 hn)
    clear hn
    go_wp2_with fail
    exact bodyPost_ret (v := .tuple #[.agg #[.int .i64 0, .int .i64 0], .bool false]) (by simp [results, Tryd.results18, go_sem, hc3, p0, p1, q1]) rfl ⟨0, 0, false, rfl, (unhide HG9) _ _, .inr ⟨rfl, HN.out⟩⟩
  · have hn : ¬ Wd.fits q := fun h => by have := (unhide HT).2.1 h; have h2 := of_decide_eq_false OK2.out.symm; omega
    have HN := Lib.hid ((unhide HT).1.2 hn)
    clear hn
    go_wp2_with fail
    exact bodyPost_ret (v := .tuple #[.agg #[.int .i64 0, .int .i64 0], .bool false]) (by simp [results, Tryd.results18, go_sem, hc3, p0, p1, q1]) rfl ⟨0, 0, false, rfl, (unhide HG9) _ _, .inr ⟨rfl, HN.out⟩⟩
  · have e1 := (unhide X1) rfl
    have e2 := (unhide X2) rfl
    subst e1 e2
    by_cases hfit : Wd.fits q
    · have HN := Lib.hid ((unhide HT).1.1 hfit)
      obtain ⟨a1, a2⟩ := (unhide HT).2.1 hfit
      have d1 : decide (q.num < -1000000000000) = false := decide_eq_false (by omega)
      have d2 : decide (1000000000000 < q.num) = false := decide_eq_false (by omega)
      have d3 : decide ((1000000000000 : Int) < (q.den : Int)) = false := decide_eq_false (by omega)
      clear hfit
      go_wp2_with fail
      all_goals first | omega | skip
      exact bodyPost_ret (v := .tuple #[.agg #[.int .i64 q.num, .int .i64 q.den], .bool true]) (by simp [results, Tryd.results18, go_sem, hc3, p0, p1, q1]) rfl ⟨q.num, q.den, true, rfl, (unhide HG9) _ _, .inl ⟨rfl, HN.out⟩⟩
    · have HN := Lib.hid ((unhide HT).1.2 hfit)
      have hor : q.num < -1000000000000 ∨ 1000000000000 < q.num ∨ (1000000000000 : Int) < (q.den : Int) := by
        have h1 := (unhide HT).2.2
        by_cases a : q.num < -1000000000000
        · exact .inl a
        by_cases b : 1000000000000 < q.num
        · exact .inr (.inl b)
        by_cases c : (1000000000000 : Int) < (q.den : Int)
        · exact .inr (.inr c)
        exact absurd (h1 ⟨by omega, by omega⟩) hfit
      clear hfit
      go_wp2_with fail
      all_goals first | omega | skip
      all_goals exact bodyPost_ret (v := .tuple #[.agg #[.int .i64 0, .int .i64 0], .bool false]) (by simp [results, Tryd.results18, go_sem, hc3, p0, p1, q1]) rfl ⟨0, 0, false, rfl, (unhide HG9) _ _, .inr ⟨rfl, HN.out⟩⟩
end Go.Proofs.YtadclbankpmebaaDoor
/- The reference's numbers as it keeps them: the number nought without a denominator among them; their denominators. -/
namespace Go.Proofs.YtadclbankpmebaaDoor
open Go.RowKit

/-- A number of the reference: numerator, and denominator or (of an integer) none. -/
structure QV (w : World) (A1 : Option Addr) (c1 : Nat) (l1 : List Nat) (m1 : Bool) (A2 : Option Addr) (c2 : Nat) (l2 : List Nat) (m2 : Bool) (q : Rat) : Prop where
  num : WholeF w A1 c1 l1 m1 q.num
  den : ∃ d : Int, WholeF w A2 c2 l2 m2 d ∧ (d = (q.den : Int) ∨ (d = 0 ∧ q.den = 1))
theorem QV.below {w w' : World} {A1 : Option Addr} {c1 : Nat} {l1 : List Nat} {m1 : Bool} {A2 : Option Addr} {c2 : Nat} {l2 : List Nat} {m2 : Bool} {q : Rat} (h : QV w A1 c1 l1 m1 A2 c2 l2 m2 q) (hb : Below w.heap.size w w') : QV w' A1 c1 l1 m1 A2 c2 l2 m2 q := by
  obtain ⟨d, h2, h3⟩ := h.den
  exact ⟨h.num.below hb, d, h2.below hb, h3⟩
theorem QV.of {w : World} {A1 : Option Addr} {c1 : Nat} {l1 : List Nat} {m1 : Bool} {A2 : Option Addr} {c2 : Nat} {l2 : List Nat} {m2 : Bool} {q : Rat} (h1 : WholeF w A1 c1 l1 m1 q.num) (h2 : WholeF w A2 c2 l2 m2 (q.den : Int)) : QV w A1 c1 l1 m1 A2 c2 l2 m2 q :=
  ⟨h1, _, h2, .inl rfl⟩
theorem WholeF.len {w : World} {A : Option Addr} {cap : Nat} {l : List Nat} {m : Bool} {z : Int} {K : Nat} (h : WholeF w A cap l m z) (hz : z.natAbs < B32 ^ K) : l.length ≤ K := h.nat.len hz

set_option maxRecDepth 100000 in
set_option maxHeartbeats 1000000 in
theorem tone_any (w : World) :
    Calls Tryd.prog 86 #[] w fun e w' => WholeR w 1 e w' := by
  go_enter Tryd.func86, Tryd.ntmps86
  go_wp2_with fail
  obtain ⟨n0, n1, hsz, hw0⟩ := two_new w (.cells #[.slice (some ⟨w.heap.size + 1, 0, none⟩) 1 1, .bool false] 35) (.cells #[.int .u32 1] 108)
  generalize ((w.alloc (.cells #[.slice (some ⟨w.heap.size + 1, 0, none⟩) 1 1, .bool false] 35)).alloc (.cells #[.int .u32 1] 108)) = W0 at *
  have hz : ZB .u32 W0 (w.heap.size + 1) 108 [1] := n1
  have hn : NatT W0 (some ⟨w.heap.size + 1, 0, none⟩) 1 [1] 1 := ⟨hz.ws0 _ hz.lt, by simp, by omega, by intro x hx; rw [List.mem_singleton] at hx; subst hx; exact B32_pos, .inr (by simp), by simp [Wd.val]⟩
  have k0 : W0.cell? ⟨w.heap.size, 0, none⟩ = some (.slice (some ⟨w.heap.size + 1, 0, none⟩) 1 1) := cells_of n0 0
  have k1 : W0.cell? ⟨w.heap.size, 1, none⟩ = some (.bool false) := cells_of n0 1
  exact bodyPost_ret (v := .agg #[.slice (some ⟨w.heap.size + 1, 0, none⟩) 1 1, .bool false]) (by simp [results, Tryd.results86, go_sem, k0, k1]) rfl
    ⟨_, 1, [1], false, rfl, ⟨hn, rfl⟩, hw0⟩

set_option maxRecDepth 100000 in
set_option maxHeartbeats 1000000 in
theorem tdenv_nought (A1 : Option Addr) (c1 : Nat) (l1 : List Nat) (m1 : Bool) (A2 : Option Addr) (c2 : Nat) (l2 : List Nat) (m2 : Bool) (w : World) (h2 : WholeF w A2 c2 l2 m2 0) :
    Calls Tryd.prog 46 #[.agg #[.slice A1 l1.length c1, .bool m1, .slice A2 l2.length c2, .bool m2]] w fun e w' => WholeR w 1 e w' := by
  have hl : l2.length = 0 := h2.nat.zero_iff.1 rfl
  have HI := hide (fun W => tisn_any A2 c2 l2.length m2 W)
  rw [decide_eq_true hl] at HI
  have HO := hide tone_any
  clear h2 hl
  go_enter Tryd.func46, Tryd.ntmps46
  go_wp2_with fail
  obtain ⟨n0, n1, hsz, hw0⟩ := two_new w (.cells #[.slice A1 l1.length c1, .bool m1, .slice A2 l2.length c2, .bool m2] 37) (.cells #[.slice none 0 0, .bool false] 35)
  generalize ((w.alloc (.cells #[.slice A1 l1.length c1, .bool m1, .slice A2 l2.length c2, .bool m2] 37)).alloc (.cells #[.slice none 0 0, .bool false] 35)) = W0 at *
  have q1 : w.heap.size + 1 < W0.heap.size := by omega
  have r0 : W0.cell? ⟨w.heap.size + 1, 0, none⟩ = some (.slice none 0 0) := cells_of n1 0
  have r1 : W0.cell? ⟨w.heap.size + 1, 1, none⟩ = some (.bool false) := cells_of n1 1
  have f0 := unfrozen_of n1 0
  have f1 := unfrozen_of n1 1
  have NR := Lib.hid n1
  clear n0 n1 hsz
  refine ((unhide HI) _).mono ?_
  rintro e W1 ⟨rfl, hb⟩
  have HB := hide hb
  clear hb
  go_wp2_with fail
  refine ((unhide HO) _).mono ?_
  rintro e w' ⟨A5, c5, l5, m5, rfl, hf5, hb2⟩
  have hb := below_step' (unhide HB) hb2
  obtain ⟨hc, hfz⟩ := bcell hb
  have hblk : w'.heap[w.heap.size + 1]? = some (.cells #[.slice none 0 0, .bool false] 35 (0, 0)) := (hb.block _ q1).trans NR.out
  have HBLK := Lib.hid hblk
  have hb9 : Below w.heap.size w w' := below_step' hw0 hb
  clear hblk hb2
  go_wp2_with fail
  exact bodyPost_ret (v := .agg #[.slice A5 l5.length c5, .bool m5]) (by simp [results, Tryd.results46, go_sem, hc, r0, r1, q1]) rfl
    ⟨A5, c5, l5, m5, rfl, hf5.upto HBLK.out (noW2_2 _ _ _ _) (set2_grown _ _ _ _), hb9.grown (set2_grown _ _ _ _) hb9.size (fun k hk => by injection hk with hk; omega)⟩

theorem tdenv_any (A1 : Option Addr) (c1 : Nat) (l1 : List Nat) (m1 : Bool) (A2 : Option Addr) (c2 : Nat) (l2 : List Nat) (m2 : Bool) (q : Rat) (w : World) (h : QV w A1 c1 l1 m1 A2 c2 l2 m2 q) :
    Calls Tryd.prog 46 #[.agg #[.slice A1 l1.length c1, .bool m1, .slice A2 l2.length c2, .bool m2]] w fun e w' => WholeR w (q.den : Int) e w' := by
  obtain ⟨d, h2, rfl | ⟨rfl, h1⟩⟩ := h.den
  · refine (tden_any A1 c1 l1 m1 A2 c2 l2 m2 _ w h2 (by have := q.den_nz; omega)).mono ?_
    rintro e w' ⟨rfl, hb⟩
    exact ⟨A2, c2, l2, m2, rfl, h2.below hb, hb⟩
  · rw [h1]
    exact tdenv_nought A1 c1 l1 m1 A2 c2 l2 m2 w h2
end Go.Proofs.YtadclbankpmebaaDoor
/- The reference: sums and differences of amounts: what a round leaves, and slices that grow within their capacity. -/
namespace Go.Proofs.YtadclbankpmebaaDoor
open Go.RowKit

namespace Wd
/-- Behind i rounds of a sum: the words so far, and what is carried. -/
structure PlusInv (B : Nat) (xl yl l : List Nat) (i c : Nat) : Prop where
  len : l.length = i
  lt : ∀ x ∈ l, x < B
  c1 : c ≤ 1
  eq : Wd.val B l + B ^ i * c = Wd.val B (xl.take i) + Wd.val B (yl.take i)
theorem PlusInv.start (B : Nat) (xl yl : List Nat) : PlusInv B xl yl [] 0 0 := ⟨rfl, by simp, by omega, by simp [val]⟩
theorem lt_snoc' {B : Nat} {l : List Nat} {d : Nat} (h : ∀ x ∈ l, x < B) (hd : d < B) : ∀ x ∈ l ++ [d], x < B := by
  intro t ht
  rw [List.mem_append] at ht
  rcases ht with h1 | h1
  · exact h t h1
  · rw [List.mem_singleton] at h1; subst h1; exact hd
theorem PlusInv.step {B : Nat} {xl yl l : List Nat} {i c x y s : Nat} (hB : 1 < B) (h : PlusInv B xl yl l i c) (hx : x = xl.getD i 0) (hxB : x < B) (hy : y = yl.getD i 0) (hyB : y < B) (hs : s = c + x + y) :
    PlusInv B xl yl (l ++ [s % B]) (i + 1) (s / B) := by
  have hc := h.c1
  refine ⟨by simp [h.len], lt_snoc' h.lt (Nat.mod_lt _ (by omega)), ?_, ?_⟩
  · exact Nat.lt_succ_iff.1 ((Nat.div_lt_iff_lt_mul (by omega)).2 (by omega))
  · rw [val_snoc, h.len, Nat.pow_succ, val_take_succ', val_take_succ', ← hx, ← hy]
    have e := Nat.mod_add_div s B
    have h1 := h.eq
    have e2 : B ^ i * (s % B) + B ^ i * B * (s / B) = B ^ i * c + B ^ i * x + B ^ i * y := by
      rw [Nat.mul_assoc, ← Nat.mul_add, e, hs, Nat.mul_add, Nat.mul_add]
    omega
theorem PlusInv.done {B : Nat} {xl yl l : List Nat} {i c : Nat} (h : PlusInv B xl yl l i c) (hx : xl.length ≤ i) (hy : yl.length ≤ i) : Wd.val B (l ++ [c]) = Wd.val B xl + Wd.val B yl := by
  have h1 := h.eq
  rw [val_take_all _ _ _ hx, val_take_all _ _ _ hy] at h1
  rw [val_snoc, h.len, h1]
/-- Behind i rounds of a difference. -/
structure LessInv (B : Nat) (xl yl l : List Nat) (i b : Nat) : Prop where
  len : l.length = i
  lt : ∀ x ∈ l, x < B
  b1 : b ≤ 1
  eq : Wd.val B l + Wd.val B (yl.take i) = Wd.val B (xl.take i) + B ^ i * b
theorem LessInv.start (B : Nat) (xl yl : List Nat) : LessInv B xl yl [] 0 0 := ⟨rfl, by simp, by omega, by simp [val]⟩
theorem LessInv.step {B : Nat} {xl yl l : List Nat} {i b x y d b' : Nat} (h : LessInv B xl yl l i b) (hx : x = xl.getD i 0) (hy : y = yl.getD i 0) (hd : d < B) (hb : b' ≤ 1) (hs : d + y + b = x + B * b') :
    LessInv B xl yl (l ++ [d]) (i + 1) b' := by
  refine ⟨by simp [h.len], lt_snoc' h.lt hd, hb, ?_⟩
  rw [val_snoc, h.len, Nat.pow_succ, val_take_succ', val_take_succ', ← hx, ← hy]
  have h1 := h.eq
  have e2 : B ^ i * d + B ^ i * y + B ^ i * b = B ^ i * x + B ^ i * B * b' := by
    rw [← Nat.mul_add, ← Nat.mul_add, hs, Nat.mul_add, Nat.mul_assoc]
  omega
theorem LessInv.done {B : Nat} {xl yl l : List Nat} {i b : Nat} (h : LessInv B xl yl l i b) (hx : xl.length = i) (hy : yl.length ≤ i) (hle : Wd.val B yl ≤ Wd.val B xl) : Wd.val B l = Wd.val B xl - Wd.val B yl := by
  have h1 := h.eq
  rw [val_take_all B xl i (by omega), val_take_all B yl i hy] at h1
  have h2 := val_lt l h.lt
  rw [h.len] at h2
  have hb := h.b1
  rcases (show b = 0 ∨ b = 1 by omega) with rfl | rfl
  · omega
  · rw [Nat.mul_one] at h1; omega
end Wd

/-- A slice of the call's own, with room behind it. -/
theorem own_ws {w : World} {base g cap B : Nat} {T : TypeId} {l : List Nat} {n : Nat} (hn : n = l.length) (h : w.ownsRow base T 1 (.slice (some ⟨g, 0, none⟩) n cap) n (wvals .u32 l)) (hB : g < B) :
    Ws .u32 w B (some ⟨g, 0, none⟩) l ∧ l.length ≤ cap ∧ cap ≤ maxLen := by
  subst hn
  obtain ⟨_, ⟨h1, _⟩ | ⟨g', cap', cur, he, hb, hh, hn, hc, hs, ht⟩⟩ := h
  · injection h1 with h2; cases h2
  · injection he with e1 _ e2
    injection e1 with e1; injection e1 with e1
    subst e1 e2
    refine ⟨fun hl => ⟨g, 0, rfl, hB, fun j hj => ?_⟩, hn, hc⟩
    have hj2 : (cur.toList.take (l.length * 1))[j]? = some (.int .u32 ((Wd.g l j : Nat) : Int)) := by
      rw [ht]
      simp [wvals, Wd.g, List.getD, hj]
    rw [List.getElem?_take] at hj2
    simp only [World.cell?, hh, Option.isSome_none, Bool.false_eq_true, if_false]
    rw [if_pos (by omega)] at hj2
    simpa using hj2
theorem own_lt {w : World} {base g cap : Nat} {T : TypeId} {l : List Value} {n : Nat} (h : w.ownsRow base T 1 (.slice (some ⟨g, 0, none⟩) n cap) n l) : g < w.heap.size := by
  obtain ⟨_, ⟨h1, _⟩ | ⟨g', cap', cur, he, hb, hh, hn, hc, hs, ht⟩⟩ := h
  · injection h1 with h2; cases h2
  · injection he with e1 _ e2
    injection e1 with e1; injection e1 with e1
    subst e1
    exact lt_of_block hh
theorem make32cap (n : Nat) (h : n ≤ 35184372088832) (w : World) : (Instr.makeSlice 33 (.int .i64 0) (.int .i64 (n : Int))).run Tryd.prog w =
    .ok (.slice (some ⟨w.heap.size, 0, none⟩) 0 n) (w.alloc (.cells (wcells .u32 (List.replicate n 0)) 108)) := by
  obtain ⟨i0, hi, hz0, hz1, hz2⟩ := info_parts info32
  have hr := run_make (P := Tryd.prog) w 33 108 i0 (.int .u32 0) Tryd.underlying33 hi hz0 .i64 .i64 0 n (by omega) (by omega) (by rw [hz2]; omega) (by omega)
  simp only [Int.toNat_natCast, Int.toNat_zero] at hr
  rw [hr, hz1, madeCells_words]
theorem own_made (w : World) (n : Nat) (h : n ≤ 35184372088832) (T : TypeId) : (w.alloc (.cells (wcells .u32 (List.replicate n 0)) T)).ownsRow w.heap.size T 1 (.slice (some ⟨w.heap.size, 0, none⟩) 0 n) 0 (wvals .u32 []) :=
  ⟨by simp [wvals], .inr ⟨w.heap.size, n, _, rfl, Nat.le_refl _, heap_alloc_new w _, Nat.zero_le _, by unfold maxLen; omega, by simp [wcells], by simp [wvals]⟩⟩
theorem own_snoc {w : World} {base g n C d : Nat} {T : TypeId} {l : List Nat} (h : w.ownsRow base T 1 (.slice (some ⟨g, 0, none⟩) n C) n (wvals .u32 l ++ [.int .u32 (d : Int)])) : w.ownsRow base T 1 (.slice (some ⟨g, 0, none⟩) n C) n (wvals .u32 (l ++ [d])) := by
  simpa [wvals] using h
theorem NatT.of_trim_ws {w : World} {A : Option Addr} {cap : Nat} {zs : List Nat} {k : Nat} (hz : Ws .u32 w w.heap.size A zs) (hlt : ∀ x ∈ zs, x < B32) (ht : Wd.IsTrim zs (zs.take k)) (hk : k ≤ zs.length) (hc : zs.length ≤ cap) (hc2 : cap ≤ 9223372036854775807) :
    NatT w A cap (zs.take k) (Wd.val B32 zs) :=
  ⟨hz.take_ k, by simp; omega, hc2, fun x hx => hlt x (List.mem_of_mem_take hx), ht.norm, ht.val _⟩
theorem one_cell (w : World) (v : Value) (T : TypeId) : ∀ j u, [v][j]? = some u → (w.alloc (.cells #[v] T)).cell? ((⟨w.heap.size, 0, none⟩ : Addr).add j) = some u := by
  intro j u hj
  match j, hj with
  | 0, hj => simp at hj; subst hj; simp [Addr.add]
  | j + 1, hj => simp at hj
theorem one_u32 (d : Nat) : ∀ u ∈ [Value.int .u32 (d : Int)], u.oneCell' = true := by
  intro u hu
  rw [List.mem_singleton] at hu; subst hu; rfl
/-- Behind an append: the words and what lies below. -/
theorem behind_append {w X w1 : World} {n C d : Nat} {l : List Nat} {W0 : Nat} (hW : W0 = w.heap.size) (hb : Below W0 w X) (hlt : W0 ≤ X.heap.size)
    (hown1 : w1.ownsRow W0 108 1 (.slice (some ⟨W0, 0, none⟩) n C) n (wvals .u32 l ++ [.int .u32 ((d : Nat) : Int)])) (hgrow1 : X.grownBy w1 (some W0)) :
    w1.ownsRow W0 108 1 (.slice (some ⟨W0, 0, none⟩) n C) n (wvals .u32 (l ++ [d])) ∧ Below W0 w w1 :=
  ⟨own_snoc hown1, hb.grown hgrow1 hlt (fun k hk => by injection hk with hk; omega)⟩
end Go.Proofs.YtadclbankpmebaaDoor
/- The reference: sums and differences of amounts: the walks. -/
namespace Go.Proofs.YtadclbankpmebaaDoor
open Go.RowKit

set_option maxRecDepth 100000 in
set_option maxHeartbeats 2000000 in
theorem tplus_any (Ax Ay : Option Addr) (cx cy : Nat) (xl yl : List Nat) (n m : Nat) (w : World) (hx : NatT w Ax cx xl n) (hy : NatT w Ay cy yl m) (hk : xl.length + 1 ≤ 35184372088832) (hk2 : yl.length + 1 ≤ 35184372088832) :
    Calls Tryd.prog 112 #[.slice Ax xl.length cx, .slice Ay yl.length cy] w fun e w' => NatU w (n + m) e w' := by
  obtain ⟨M, hM⟩ : ∃ M, M = max xl.length yl.length := ⟨_, rfl⟩
  have hMx : xl.length ≤ M := by omega
  have hMy : yl.length ≤ M := by omega
  have hMd : M = xl.length ∨ M = yl.length := by omega
  have hM2 : M + 1 ≤ 35184372088832 := by omega
  have e0 : max (xl.length : Int) (yl.length : Int) = (M : Int) := by omega
  have hmk := make32cap (M + 1) hM2
  have hmade := own_made w (M + 1) hM2 108
  obtain ⟨C, hC⟩ : ∃ C, C = M + 1 := ⟨_, rfl⟩
  have hmade' : (w.alloc (.cells (wcells .u32 (List.replicate (M + 1) 0)) 108)).ownsRow w.heap.size 108 1 (.slice (some ⟨w.heap.size, 0, none⟩) 0 C) 0 (wvals .u32 []) := by rw [hC]; exact hmade
  have hmk' : ∀ W : World, (Instr.makeSlice 33 (.int .i64 0) (.int .i64 ((M : Int) + 1))).run Tryd.prog W = .ok (.slice (some ⟨W.heap.size, 0, none⟩) 0 C) (W.alloc (.cells (wcells .u32 (List.replicate (M + 1) 0)) 108)) := by
    intro W; rw [hC]; have := hmk W; simp only [Int.natCast_add, Int.cast_ofNat_Int] at this; exact this
  have HC := Lib.hid hC
  clear hmk hmade hC
  obtain ⟨i0, hi0, hz0, hz1, hz2⟩ := info_parts info32
  have hx1 := hx.cap1; have hx2 := hx.cap2; have hy1 := hy.cap1; have hy2 := hy.cap2
  clear hM
  go_enter Tryd.func112, Tryd.ntmps112
  go_wp2_with fail
  go_loopw [5, 6, 7] (fun ov cv iv wr => ∃ (i c : Nat) (l : List Nat), i ≤ M ∧ ov = .slice (some ⟨w.heap.size, 0, none⟩) i C ∧ cv = .int .u64 ((c : Nat) : Int) ∧ iv = .int .i64 ((i : Nat) : Int) ∧ Hid (Wd.PlusInv B32 xl yl l i c) ∧ wr.ownsRow w.heap.size 108 1 (.slice (some ⟨w.heap.size, 0, none⟩) i C) i (wvals .u32 l) ∧ Below w.heap.size w wr) (fun _ _ iv _ => M - (intOf iv).toNat)
  case atStart => exact ⟨0, 0, [], Nat.zero_le _, rfl, rfl, rfl, Wd.PlusInv.start _ _ _, hmade', (Below.refl _ _).alloc (Nat.le_refl _) _⟩
  case round =>
    obtain ⟨i, c, l, hi, rfl, rfl, rfl, HI, hown, hg⟩ := hrel
    have hCi : i + 1 ≤ C := by have := HC.out; omega
    have hcB := HI.out.c1
    have hcB2 : c < B64 := by rw [B64_eq]; omega
    have b64 : ∀ t : Nat, t < B32 → t < B64 := fun t ht => by rw [B32_eq] at ht; rw [B64_eq]; omega
    have hli := HI.out.len
    have hgl := own_lt hown
    obtain ⟨x, hxx⟩ : ∃ x, x = Wd.g xl i := ⟨_, rfl⟩
    obtain ⟨y, hyy⟩ : ∃ y, y = Wd.g yl i := ⟨_, rfl⟩
    have hxB : x < B32 := by rw [hxx]; exact Wd.getD_lt (by rw [B32_eq]; omega) _ hx.lt i
    have hyB : y < B32 := by rw [hyy]; exact Wd.getD_lt (by rw [B32_eq]; omega) _ hy.lt i
    obtain ⟨s1, hs1⟩ : ∃ t, t = c + x := ⟨_, rfl⟩
    obtain ⟨s, hs⟩ : ∃ t, t = s1 + y := ⟨_, rfl⟩
    obtain ⟨d, hd⟩ : ∃ t, t = s % B32 := ⟨_, rfl⟩
    obtain ⟨q, hq⟩ : ∃ t, t = s / B32 := ⟨_, rfl⟩
    have hsB : s < B64 := by rw [B32_eq] at hxB hyB; rw [B64_eq]; omega
    have hs1B : s1 < B64 := by rw [B32_eq] at hxB hyB; rw [B64_eq]; omega
    have e1 : IntKind.u64.wrap (x : Int) = (x : Int) := wrap64_nat rfl (b64 _ hxB)
    have e2 : IntKind.u64.wrap (y : Int) = (y : Int) := wrap64_nat rfl (b64 _ hyB)
    have e3 : IntKind.u64.wrap ((c : Int) + (x : Int)) = (s1 : Int) := wrap64_nat (by rw [hs1]; simp) hs1B
    have e4 : IntKind.u64.wrap ((s1 : Int) + (y : Int)) = (s : Int) := wrap64_nat (by rw [hs]; simp) hsB
    have e5 : IntKind.u32.wrap (s : Int) = (d : Int) := by rw [wrap32_nat, hd]
    have e5' : (s : Int) % 4294967296 = (d : Int) := by rw [hd, B32_eq]; omega
    have e6 : (s : Int) / 4294967296 = (q : Int) := by rw [hq, B32_eq]; omega
    have hst := HI.out.step B32_pos (by rw [← Wd.g_def]; exact hxx) hxB (by rw [← Wd.g_def]; exact hyy) hyB (s := s) (by omega)
    rw [← hd, ← hq] at hst
    have HST := hide hst
    have hcellx : i < xl.length → ∃ b o, Ax = some ⟨b, o, none⟩ ∧ wr.cell? ⟨b, o + i, none⟩ = some (.int .u32 (x : Int)) := fun h => by
      obtain ⟨b, o, rfl, hbb, hc⟩ := hx.ws (by omega)
      exact ⟨b, o, rfl, by rw [hxx]; exact (hg.cell (p := ⟨b, o + i, none⟩) hbb).trans (hc i h)⟩
    have hcelly : i < yl.length → ∃ b o, Ay = some ⟨b, o, none⟩ ∧ wr.cell? ⟨b, o + i, none⟩ = some (.int .u32 (y : Int)) := fun h => by
      obtain ⟨b, o, rfl, hbb, hc⟩ := hy.ws (by omega)
      exact ⟨b, o, rfl, by rw [hyy]; exact (hg.cell (p := ⟨b, o + i, none⟩) hbb).trans (hc i h)⟩
    have hx0 : ¬ i < xl.length → x = 0 := fun h => by rw [hxx]; simp [Wd.g, List.getD, h]
    have hy0 : ¬ i < yl.length → y = 0 := fun h => by rw [hyy]; simp [Wd.g, List.getD, h]
    have hsz := hg.size
    by_cases hlx : i < xl.length
    · by_cases hly : i < yl.length
      · have dx : decide ((i : Int) < (xl.length : Int)) = true := decide_eq_true (by omega)
        have dy : decide ((i : Int) < (yl.length : Int)) = true := decide_eq_true (by omega)
        have dx' : decide (i < xl.length) = true := decide_eq_true (by omega)
        have dy' : decide (i < yl.length) = true := decide_eq_true (by omega)
        obtain ⟨bx, ox, rfl, hxc⟩ := hcellx (by omega)
        obtain ⟨by', oy, rfl, hyc⟩ := hcelly (by omega)
        clear hcellx hcelly hx0 hy0 hxx hyy hs1 hs hd hq hst hxB hyB hsB hs1B hcB2 b64 hmade' hmk' hz0 hz2
        go_wp2_with (first | (at_builtin; refine wpList_append_fits _ rfl _ _ 33 rfl w.heap.size 108 i0 1 Tryd.underlying33 hi0 hz1 w.heap.size _ C (wvals .u32 l) rfl (hown.alloc _) ⟨_, 0, none⟩ 1 1 [.int .u32 ((d : Nat) : Int)] rfl rfl (one_cell _ _ _) (one_u32 _) (by omega) ?_; intro w1 hown1 hgrow1) | fail)
        obtain ⟨r1, r2⟩ := behind_append rfl (hg.alloc hsz _) (by simp <;> omega) hown1 hgrow1
        clear hown1 hgrow1 hown hg
        go_wp2_with fail
        go_roundw
        case rel => exact ⟨i + 1, q, l ++ [d], by omega, rfl, rfl, by go_num, unhide HST, r1, r2⟩
        case measure => simp [intOf] <;> omega
      · have dx : decide ((i : Int) < (xl.length : Int)) = true := decide_eq_true (by omega)
        have dy : decide ((i : Int) < (yl.length : Int)) = false := decide_eq_false (by omega)
        have dx' : decide (i < xl.length) = true := decide_eq_true (by omega)
        have dy' : decide (i < yl.length) = false := decide_eq_false (by omega)
        obtain ⟨bx, ox, rfl, hxc⟩ := hcellx (by omega)
        obtain rfl : s = s1 := by have := hy0 (by omega); omega
        clear hcellx hcelly hx0 hy0 hxx hyy hs1 hs hd hq hst hxB hyB hsB hs1B hcB2 b64 hmade' hmk' hz0 hz2
        go_wp2_with (first | (at_builtin; refine wpList_append_fits _ rfl _ _ 33 rfl w.heap.size 108 i0 1 Tryd.underlying33 hi0 hz1 w.heap.size _ C (wvals .u32 l) rfl (hown.alloc _) ⟨_, 0, none⟩ 1 1 [.int .u32 ((d : Nat) : Int)] rfl rfl (one_cell _ _ _) (one_u32 _) (by omega) ?_; intro w1 hown1 hgrow1) | fail)
        obtain ⟨r1, r2⟩ := behind_append rfl (hg.alloc hsz _) (by simp <;> omega) hown1 hgrow1
        clear hown1 hgrow1 hown hg
        go_wp2_with fail
        go_roundw
        case rel => exact ⟨i + 1, q, l ++ [d], by omega, rfl, rfl, by go_num, unhide HST, r1, r2⟩
        case measure => simp [intOf] <;> omega
    · by_cases hly : i < yl.length
      · have dx : decide ((i : Int) < (xl.length : Int)) = false := decide_eq_false (by omega)
        have dy : decide ((i : Int) < (yl.length : Int)) = true := decide_eq_true (by omega)
        have dx' : decide (i < xl.length) = false := decide_eq_false (by omega)
        have dy' : decide (i < yl.length) = true := decide_eq_true (by omega)
        obtain ⟨by', oy, rfl, hyc⟩ := hcelly (by omega)
        obtain rfl : s1 = c := by have := hx0 (by omega); omega
        clear hcellx hcelly hx0 hy0 hxx hyy hs1 hs hd hq hst hxB hyB hsB hs1B hcB2 b64 hmade' hmk' hz0 hz2
        go_wp2_with (first | (at_builtin; refine wpList_append_fits _ rfl _ _ 33 rfl w.heap.size 108 i0 1 Tryd.underlying33 hi0 hz1 w.heap.size _ C (wvals .u32 l) rfl (hown.alloc _) ⟨_, 0, none⟩ 1 1 [.int .u32 ((d : Nat) : Int)] rfl rfl (one_cell _ _ _) (one_u32 _) (by omega) ?_; intro w1 hown1 hgrow1) | fail)
        obtain ⟨r1, r2⟩ := behind_append rfl (hg.alloc hsz _) (by simp <;> omega) hown1 hgrow1
        clear hown1 hgrow1 hown hg
        go_wp2_with fail
        go_roundw
        case rel => exact ⟨i + 1, q, l ++ [d], by omega, rfl, rfl, by go_num, unhide HST, r1, r2⟩
        case measure => simp [intOf] <;> omega
      · have dx : decide ((i : Int) < (xl.length : Int)) = false := decide_eq_false (by omega)
        have dy : decide ((i : Int) < (yl.length : Int)) = false := decide_eq_false (by omega)
        have dx' : decide (i < xl.length) = false := decide_eq_false (by omega)
        have dy' : decide (i < yl.length) = false := decide_eq_false (by omega)
        have hv := HI.out.done (by omega) (by omega)
        rw [hx.val, hy.val] at hv
        have hcc : IntKind.u32.wrap (c : Int) = (c : Int) := by rw [IntKind.wrap_u32]; omega
        have hcc' : (c : Int) % 4294967296 = (c : Int) := by omega
        have hlt := Wd.lt_snoc' HI.out.lt (show c < B32 by rw [B32_eq]; omega)
        have HV := Lib.hid hv; have HLT := hide hlt
        clear hv hlt hcellx hcelly hx0 hy0 hxx hyy hs1 hs hd hq hst hxB hyB hsB hs1B hcB2 b64 hmade' hmk' hz0 hz2 e1 e2 e3 e4 e5 e5' e6 HST
        go_wp2_with (first | (at_builtin; refine wpList_append_fits _ rfl _ _ 33 rfl w.heap.size 108 i0 1 Tryd.underlying33 hi0 hz1 w.heap.size _ C (wvals .u32 l) rfl (hown.alloc _) ⟨_, 0, none⟩ 1 1 [.int .u32 ((c : Nat) : Int)] rfl rfl (one_cell _ _ _) (one_u32 _) (by omega) ?_; intro w1 hown1 hgrow1) | fail)
        obtain ⟨r1, r2⟩ := behind_append rfl (hg.alloc hsz _) (by simp <;> omega) hown1 hgrow1
        have hlen : i + 1 = (l ++ [c]).length := by simp; omega
        obtain ⟨hws, hcap, hmax⟩ := own_ws hlen r1 (own_lt r1)
        have htr := ttrim_any (some ⟨w.heap.size, 0, none⟩) C (l ++ [c]) w1.heap.size w1 hws hcap (by have := HC.out; omega)
        rw [← hlen] at htr
        have HTR := hide htr; have HWS := hide hws
        clear hown1 hgrow1 hown hg r1 htr hws hcap hmax
        go_wp2_with fail
        refine (unhide HTR).mono ?_
        rintro e w' ⟨⟨k, rfl, ht, hk2⟩, rfl⟩
        dsimp only
        go_wp2_with fail
        go_ret
        have hk3 : k = ((l ++ [c]).take k).length := by rw [List.length_take]; omega
        refine ⟨some ⟨w.heap.size, 0, none⟩, C, (l ++ [c]).take k, ret_slice hk3, ?_, r2⟩
        have := NatT.of_trim_ws (cap := C) (unhide HWS) (unhide HLT) ht (by omega) (by omega) (by have := HC.out; omega)
        rwa [HV.out] at this

end Go.Proofs.YtadclbankpmebaaDoor
/- The reference: differences of amounts: the walk. -/
namespace Go.Proofs.YtadclbankpmebaaDoor
open Go.RowKit

theorem less_word {x b : Nat} (hx : x < B32) (hb : b ≤ 1) (y : Nat) (hy : y < B32) : ∃ (t v d b' : Nat), IntKind.u64.wrap ((x : Int) - (b : Int)) = (t : Int) ∧ IntKind.u64.wrap ((t : Int) - (y : Int)) = (v : Int) ∧ IntKind.u32.wrap (v : Int) = (d : Int) ∧ (v : Int) % 4294967296 = (d : Int) ∧ (v : Int) / 9223372036854775808 = (b' : Int) ∧ d < B32 ∧ b' ≤ 1 ∧ d + y + b = x + B32 * b' ∧ (y = 0 → v = t) ∧ t < B64 := by
  simp only [IntKind.wrap_u64, IntKind.wrap_u32]
  rw [B32_eq] at *
  rw [B64_eq]
  by_cases h1 : b ≤ x
  · by_cases h2 : b + y ≤ x
    · exact ⟨x - b, x - b - y, x - b - y, 0, by omega, by omega, by omega, by omega, by omega, by omega, by omega, by omega, by omega, by omega⟩
    · exact ⟨x - b, 18446744073709551616 + x - b - y, 4294967296 + x - b - y, 1, by omega, by omega, by omega, by omega, by omega, by omega, by omega, by omega, by omega, by omega⟩
  · exact ⟨18446744073709551616 + x - b, 18446744073709551616 + x - b - y, 4294967296 + x - b - y, 1, by omega, by omega, by omega, by omega, by omega, by omega, by omega, by omega, by omega, by omega⟩

set_option maxRecDepth 100000 in
set_option maxHeartbeats 2000000 in
theorem tless_any (Ax Ay : Option Addr) (cx cy : Nat) (xl yl : List Nat) (n m : Nat) (w : World) (hx : NatT w Ax cx xl n) (hy : NatT w Ay cy yl m) (hk : xl.length ≤ 35184372088832) (hle : m ≤ n) :
    Calls Tryd.prog 113 #[.slice Ax xl.length cx, .slice Ay yl.length cy] w fun e w' => NatU w (n - m) e w' := by
  have hyx : yl.length ≤ xl.length := hy.len (Nat.lt_of_le_of_lt hle hx.lt_pow)
  have hmk := make32cap xl.length hk
  have hmade := own_made w xl.length hk 108
  obtain ⟨C, hC⟩ : ∃ C, C = xl.length := ⟨_, rfl⟩
  have hmade' : (w.alloc (.cells (wcells .u32 (List.replicate xl.length 0)) 108)).ownsRow w.heap.size 108 1 (.slice (some ⟨w.heap.size, 0, none⟩) 0 C) 0 (wvals .u32 []) := by rw [hC]; exact hmade
  have hmk' : ∀ W : World, (Instr.makeSlice 33 (.int .i64 0) (.int .i64 (xl.length : Int))).run Tryd.prog W = .ok (.slice (some ⟨W.heap.size, 0, none⟩) 0 C) (W.alloc (.cells (wcells .u32 (List.replicate xl.length 0)) 108)) := by rw [hC]; exact hmk
  have HC := Lib.hid hC
  clear hmk hmade hC
  obtain ⟨i0, hi0, hz0, hz1, hz2⟩ := info_parts info32
  have hx1 := hx.cap1; have hx2 := hx.cap2; have hy1 := hy.cap1; have hy2 := hy.cap2
  go_enter Tryd.func113, Tryd.ntmps113
  go_wp2_with fail
  go_loopw [5, 6, 7] (fun ov cv iv wr => ∃ (i c : Nat) (l : List Nat), i ≤ xl.length ∧ ov = .slice (some ⟨w.heap.size, 0, none⟩) i C ∧ cv = .int .u64 ((c : Nat) : Int) ∧ iv = .int .i64 ((i : Nat) : Int) ∧ Hid (Wd.LessInv B32 xl yl l i c) ∧ wr.ownsRow w.heap.size 108 1 (.slice (some ⟨w.heap.size, 0, none⟩) i C) i (wvals .u32 l) ∧ Below w.heap.size w wr) (fun _ _ iv _ => xl.length - (intOf iv).toNat)
  case atStart => exact ⟨0, 0, [], Nat.zero_le _, rfl, rfl, rfl, Wd.LessInv.start _ _ _, hmade', (Below.refl _ _).alloc (Nat.le_refl _) _⟩
  case round =>
    obtain ⟨i, c, l, hi, rfl, rfl, rfl, HI, hown, hg⟩ := hrel
    have hli := HI.out.len
    have hgl := own_lt hown
    have hsz := hg.size
    clear hmade' hmk'
    by_cases hlx : i < xl.length
    · have dx : decide ((i : Int) < (xl.length : Int)) = true := decide_eq_true (by omega)
      have dx' : decide (i < xl.length) = true := decide_eq_true (by omega)
      have hCi : i + 1 ≤ C := by have := HC.out; omega
      have hcB := HI.out.b1
      obtain ⟨x, hxx⟩ : ∃ x, x = Wd.g xl i := ⟨_, rfl⟩
      obtain ⟨y, hyy⟩ : ∃ y, y = Wd.g yl i := ⟨_, rfl⟩
      have hxB : x < B32 := by rw [hxx]; exact Wd.getD_lt (by rw [B32_eq]; omega) _ hx.lt i
      have hyB : y < B32 := by rw [hyy]; exact Wd.getD_lt (by rw [B32_eq]; omega) _ hy.lt i
      have b64 : ∀ t : Nat, t < B32 → t < B64 := fun t ht => by rw [B32_eq] at ht; rw [B64_eq]; omega
      have e1 : IntKind.u64.wrap (x : Int) = (x : Int) := wrap64_nat rfl (b64 _ hxB)
      have e2 : IntKind.u64.wrap (y : Int) = (y : Int) := wrap64_nat rfl (b64 _ hyB)
      obtain ⟨t, v, d, b', e3, e4, e5, e5', e6, hdB, hb', heq, hv0, htB⟩ := less_word hxB hcB y hyB
      have hst := HI.out.step (by rw [← Wd.g_def]; exact hxx) (by rw [← Wd.g_def]; exact hyy) hdB hb' heq
      have HST := hide hst
      obtain ⟨bx, ox, rfl, hbx, hcx⟩ := hx.ws (by omega)
      have hxc : wr.cell? ⟨bx, ox + i, none⟩ = some (.int .u32 (x : Int)) := by rw [hxx]; exact (hg.cell (p := ⟨bx, ox + i, none⟩) hbx).trans (hcx i hlx)
      have hy0 : ¬ i < yl.length → y = 0 := fun h => by rw [hyy]; simp [Wd.g, List.getD, h]
      have hcelly : i < yl.length → ∃ b o, Ay = some ⟨b, o, none⟩ ∧ wr.cell? ⟨b, o + i, none⟩ = some (.int .u32 (y : Int)) := fun h => by
        obtain ⟨b, o, rfl, hbb, hc⟩ := hy.ws (by omega)
        exact ⟨b, o, rfl, by rw [hyy]; exact (hg.cell (p := ⟨b, o + i, none⟩) hbb).trans (hc i h)⟩
      clear hcx hxx hyy hst heq hdB b64 hxB hyB hz0 hz2
      by_cases hly : i < yl.length
      · have dy : decide ((i : Int) < (yl.length : Int)) = true := decide_eq_true (by omega)
        have dy' : decide (i < yl.length) = true := decide_eq_true (by omega)
        obtain ⟨by', oy, rfl, hyc⟩ := hcelly (by omega)
        clear hcelly hy0 hv0
        go_wp2_with (first | (at_builtin; refine wpList_append_fits _ rfl _ _ 33 rfl w.heap.size 108 i0 1 Tryd.underlying33 hi0 hz1 w.heap.size _ C (wvals .u32 l) rfl (hown.alloc _) ⟨_, 0, none⟩ 1 1 [.int .u32 ((d : Nat) : Int)] rfl rfl (one_cell _ _ _) (one_u32 _) (by omega) ?_; intro w1 hown1 hgrow1) | fail)
        obtain ⟨r1, r2⟩ := behind_append rfl (hg.alloc hsz _) (by simp <;> omega) hown1 hgrow1
        clear hown1 hgrow1 hown hg
        go_wp2_with fail
        go_roundw
        case rel => exact ⟨i + 1, b', l ++ [d], by omega, rfl, rfl, by go_num, unhide HST, r1, r2⟩
        case measure => simp [intOf] <;> omega
      · have dy : decide ((i : Int) < (yl.length : Int)) = false := decide_eq_false (by omega)
        have dy' : decide (i < yl.length) = false := decide_eq_false (by omega)
        obtain rfl : v = t := hv0 (hy0 (by omega))
        clear hcelly hy0 hv0
        go_wp2_with (first | (at_builtin; refine wpList_append_fits _ rfl _ _ 33 rfl w.heap.size 108 i0 1 Tryd.underlying33 hi0 hz1 w.heap.size _ C (wvals .u32 l) rfl (hown.alloc _) ⟨_, 0, none⟩ 1 1 [.int .u32 ((d : Nat) : Int)] rfl rfl (one_cell _ _ _) (one_u32 _) (by omega) ?_; intro w1 hown1 hgrow1) | fail)
        obtain ⟨r1, r2⟩ := behind_append rfl (hg.alloc hsz _) (by simp <;> omega) hown1 hgrow1
        clear hown1 hgrow1 hown hg
        go_wp2_with fail
        go_roundw
        case rel => exact ⟨i + 1, b', l ++ [d], by omega, rfl, rfl, by go_num, unhide HST, r1, r2⟩
        case measure => simp [intOf] <;> omega
    · have e : i = xl.length := by omega
      subst e
      have hv := HI.out.done rfl hyx (by rw [hx.val, hy.val]; exact hle)
      rw [hx.val, hy.val] at hv
      have HV := Lib.hid hv; have HLT := hide HI.out.lt
      obtain ⟨hws, hcap, hmax⟩ := own_ws hli.symm hown hgl
      have htr := ttrim_any (some ⟨w.heap.size, 0, none⟩) C l wr.heap.size wr hws hcap (by have := HC.out; omega)
      rw [hli] at htr
      have HTR := hide htr; have HWS := hide hws
      clear hv hown htr hws hmax hz0 hz2
      go_wp2_with fail
      refine (unhide HTR).mono ?_
      rintro e w' ⟨⟨k, rfl, ht, hk2⟩, rfl⟩
      dsimp only
      go_wp2_with fail
      go_ret
      have hk3 : k = (l.take k).length := by rw [List.length_take]; omega
      refine ⟨some ⟨w.heap.size, 0, none⟩, C, l.take k, ret_slice hk3, ?_, hg⟩
      have := NatT.of_trim_ws (cap := C) (unhide HWS) (unhide HLT) ht (by omega) (by have := HC.out; omega) (by have := HC.out; omega)
      rwa [HV.out] at this
end Go.Proofs.YtadclbankpmebaaDoor
